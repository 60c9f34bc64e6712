import PyProof.Rows.All
import Wide.All
import OpenK.AllK
import Wide.FinOn
import HandS.ForMost
import HandS.Star
import HandS.Exc
import HandS.ExcInit
import HandS.ExcField
import HandS.ExcOwn
import HandS.WordsExc
import KE.KExcIs
import HandS.Conv
import HandS.Walk
import HandS.FStrTup
import HandS.IsInst
import HandS.TupAny
import HandS.Zip
import HandS.Flow
import HandS.TupMul
import HandS.Deep
import PyProof.Rows.SeqMore
import HandS.Dict
import HandS.Wide
import HandS.Style
import KE.KTupSum
import KE.KRevSl
import PyProof.NeKinds
import KE.GoesEnum
import KE.GoesMore
import KE.DataMinKey
import HandS.SortKw
import HandS.Text
import HandS.FStr
import HandS.NoneIn
import HandS.SetFor
import HandS.Strs
import HandS.TupLe
import HandS.StrMore
import HandS.StrSplit
import KE.KDictZip
import KE.KDictItemsList
import HandS.ListItems
import PySem.Challenge.RW_ringwindows_k27_whole_running_sums
set_option Elab.async false
set_option linter.all false
set_option maxRecDepth 100000
set_option maxHeartbeats 4000000
namespace DL
open PySem PySem.Spec PyProof.Rows L2
/-- the deck's own list: [cells, count, rests] -/
def DShape (F : Hp) (q : Addr) (c : Nat) (ys : List V) (ns : List Int) : Prop := ∃ (r : Addr) (cs : List Int), ys = [.ref r, .int (c : Int), .ref q] ∧ F r = some (.lst (cs.map V.int)) ∧ 0 < cs.length ∧ cs.length = ns.length
theorem DShape.mono {F F' : Hp} {q : Addr} {c : Nat} {ys : List V} {ns : List Int} (e : Same F F') (h : DShape F q c ys ns) : DShape F' q c ys ns := by
  obtain ⟨r, cs, h1, h2, h3⟩ := h
  exact ⟨r, cs, h1, e _ _ h2, h3⟩
end DL
/-! The data layer: what a body does, told over data (PyData) alone. -/
namespace DL
open PySem PySem.Spec PyProof.Rows L2

/-- what a slot holds: data, the law's deck, a list that this frame alone knows -/
inductive Vl where
  | dat (d : PyData)
  | deck
  | exc (a : Addr)
  | own (l : List PyData)

abbrev Ev := List (Option Vl)
structure Gh where
  F : Hp
  dk : Option (Addr × Addr)
def isDk (g : Gh) (a : Addr) : Prop := ∃ p q, g.dk = some (p, q) ∧ (a = p ∨ a = q)
structure Mo (g g' : Gh) : Prop where
  f : Same g.F g'.F
  d : g'.dk = g.dk
theorem Mo.refl (g : Gh) : Mo g g := ⟨Same.refl _, rfl⟩
theorem Mo.trans {a b c : Gh} (x : Mo a b) (y : Mo b c) : Mo a c := ⟨x.f.trans y.f, y.d.trans x.d⟩
/-- a step of an expression: new data, the deck drawn from, all else as it was -/
structure Mv (g : Gh) (H : Hp) (g' : Gh) (H' : Hp) : Prop extends Mo g g' where
  fr : ∀ a o, H a = some o → ¬ isDk g a → H' a = some o
  lv : ∀ a o, H a = some o → ∃ o', H' a = some o'
  nf : ∀ a o, g'.F a = some o → g.F a = some o ∨ H a = none
theorem Mv.refl (g : Gh) (H : Hp) : Mv g H g H := ⟨Mo.refl g, fun _ _ e _ => e, fun _ o e => ⟨o, e⟩, fun _ _ e => .inl e⟩
theorem Mv.trans {a b c : Gh} {H H1 H2 : Hp} (x : Mv a H b H1) (y : Mv b H1 c H2) : Mv a H c H2 := by
  refine ⟨x.toMo.trans y.toMo, fun p o e n => y.fr p o (x.fr p o e n) fun z => n ?_, fun p o e => ?_, fun p o e => ?_⟩
  · obtain ⟨u, v, h, k⟩ := z
    exact ⟨u, v, x.d.symm.trans h, k⟩
  · obtain ⟨o1, e1⟩ := x.lv p o e
    exact y.lv p o1 e1
  · rcases y.nf p o e with h | h
    · exact x.nf p o h
    · right
      cases q : H p with
      | none => rfl
      | some o2 =>
        obtain ⟨o1, e1⟩ := x.lv p o2 q
        rw [h] at e1
        cases e1
theorem Mo.isDk {g g' : Gh} (m : Mo g g') {a : Addr} (h : isDk g' a) : isDk g a := by
  obtain ⟨p, q, e, z⟩ := h
  exact ⟨p, q, by rw [← m.d]; exact e, z⟩

theorem seqT {K : PySem.W.Frag} {H H' : Hp} {a : Addr} {xs : List V} (e : Same H H') (h : SqT K H a xs) : SqT K H' a xs := by
  rcases h with (h | ⟨o, h⟩) | h
  · exact .inl (.inl (e _ _ h))
  · exact .inl (.inr ⟨o, e _ _ h⟩)
  · exact .inr h
/-- data: as the hand layer's own, and dicts with int and text keys -/
def keyD : Key → PyData
  | .inl i => .int i
  | .inr x => .str x
mutual
inductive Dp (K : PySem.W.Frag) (H : Hp) : V → PyData → Prop
  | non : Dp K H .non .none
  | bl (b : Bool) : Dp K H (.bl b) (.bool b)
  | int (i : Int) : Dp K H (.int i) (.int i)
  | str (x : Str) : Dp K H (.str x) (.str x)
  | lst {a : Addr} {xs : List V} {ds : List PyData} : SqL K H a xs → DpAll K H xs ds → Dp K H (.ref a) (.list ds)
  | tup {a : Addr} {xs : List V} {ds : List PyData} : SqT K H a xs → DpAll K H xs ds → Dp K H (.ref a) (.tuple ds)
  | dct {a : Addr} {kvs : List (Key × V)} {ds : List PyData} : H a = some (.dK kvs) → DpAll K H (kvs.map (·.2)) ds → Dp K H (.ref a) (.dict ((kvs.map fun kv => keyD kv.1).zip ds))
inductive DpAll (K : PySem.W.Frag) (H : Hp) : List V → List PyData → Prop
  | nil : DpAll K H [] []
  | cons {v : V} {vs : List V} {d : PyData} {ds : List PyData} : Dp K H v d → DpAll K H vs ds → DpAll K H (v :: vs) (d :: ds)
end
mutual
theorem dp_mono {K : PySem.W.Frag} {H H' : Hp} (e : Same H H') : ∀ {v : V} {d : PyData}, Dp K H v d → Dp K H' v d
  | _, _, .non => .non
  | _, _, .bl b => .bl b
  | _, _, .int i => .int i
  | _, _, .str x => .str x
  | _, _, .lst s a => .lst (e.seq s) (dpAll_mono e a)
  | _, _, .tup s a => .tup (seqT e s) (dpAll_mono e a)
  | _, _, .dct s a => .dct (e _ _ s) (dpAll_mono e a)
theorem dpAll_mono {K : PySem.W.Frag} {H H' : Hp} (e : Same H H') : ∀ {vs : List V} {ds : List PyData}, DpAll K H vs ds → DpAll K H' vs ds
  | _, _, .nil => .nil
  | _, _, .cons h t => .cons (dp_mono e h) (dpAll_mono e t)
end
mutual
/-- without dicts it is the hand layer's -/
theorem dp_l2 {K : PySem.W.Frag} {H : Hp} : ∀ {v : V} {d : PyData}, Dp K H v d → d.hasDict = false → L2.Dp K H v d
  | _, _, .non, _ => .non
  | _, _, .bl b, _ => .bl b
  | _, _, .int i, _ => .int i
  | _, _, .str x, _ => .str x
  | _, _, .lst s a, h => .lst s (dpAll_l2 a (by simpa [PyData.hasDict] using h))
  | _, _, .tup s a, h => .tup s (dpAll_l2 a (by simpa [PyData.hasDict] using h))
  | _, _, .dct s a, h => by simp [PyData.hasDict] at h
theorem dpAll_l2 {K : PySem.W.Frag} {H : Hp} : ∀ {vs : List V} {ds : List PyData}, DpAll K H vs ds → PyData.hasDictAll ds = false → L2.DpAll K H vs ds
  | _, _, .nil, _ => .nil
  | _, _, .cons h t, hd => by
    simp only [PyData.hasDictAll, Bool.or_eq_false_iff] at hd
    exact .cons (dp_l2 h hd.1) (dpAll_l2 t hd.2)
end
theorem DpAll.len {K : PySem.W.Frag} {H : Hp} : ∀ {vs : List V} {ds : List PyData}, DpAll K H vs ds → vs.length = ds.length
  | _, _, .nil => rfl
  | _, _, .cons _ t => by simp [DpAll.len t]
theorem DpAll.get {K : PySem.W.Frag} {H : Hp} : ∀ {vs : List V} {ds : List PyData} {i : Nat} {d : PyData}, DpAll K H vs ds → ds[i]? = some d → ∃ v, vs[i]? = some v ∧ Dp K H v d
  | _, _, _, _, .nil, h => by simp at h
  | _, _, 0, _, .cons h _, e => by
    simp at e
    subst e
    exact ⟨_, rfl, h⟩
  | _, _, i + 1, d, .cons _ t, e => by
    obtain ⟨v, h1, h2⟩ := DpAll.get (i := i) (d := d) t (by simpa using e)
    exact ⟨v, by simpa using h1, h2⟩
theorem DpAll.getV {K : PySem.W.Frag} {H : Hp} : ∀ {vs : List V} {ds : List PyData} {i : Nat} {v : V}, DpAll K H vs ds → vs[i]? = some v → ∃ d, ds[i]? = some d ∧ Dp K H v d
  | _, _, _, _, .nil, h => by simp at h
  | _, _, 0, _, .cons h _, e => by
    simp at e
    subst e
    exact ⟨_, rfl, h⟩
  | _, _, i + 1, v, .cons _ t, e => by
    obtain ⟨d, h1, h2⟩ := DpAll.getV (i := i) (v := v) t (by simpa using e)
    exact ⟨d, by simpa using h1, h2⟩
theorem DpAll.app {K : PySem.W.Frag} {H : Hp} : ∀ {vs ws : List V} {ds es : List PyData}, DpAll K H vs ds → DpAll K H ws es → DpAll K H (vs ++ ws) (ds ++ es)
  | _, _, _, _, .nil, t => t
  | _, _, _, _, .cons h r, t => .cons h (DpAll.app r t)
theorem DpAll.take {K : PySem.W.Frag} {H : Hp} : ∀ {vs : List V} {ds : List PyData} (n : Nat), DpAll K H vs ds → DpAll K H (vs.take n) (ds.take n)
  | _, _, 0, _ => .nil
  | _, _, _ + 1, .nil => .nil
  | _, _, n + 1, .cons h t => .cons h (DpAll.take n t)
theorem DpAll.drop {K : PySem.W.Frag} {H : Hp} : ∀ {vs : List V} {ds : List PyData} (n : Nat), DpAll K H vs ds → DpAll K H (vs.drop n) (ds.drop n)
  | _, _, 0, r => r
  | _, _, _ + 1, .nil => .nil
  | _, _, n + 1, .cons _ t => DpAll.drop n t
theorem DpAll.setV {K : PySem.W.Frag} {H : Hp} {v : V} {d : PyData} (h : Dp K H v d) : ∀ {vs : List V} {ds : List PyData} (i : Nat), DpAll K H vs ds → DpAll K H (vs.set i v) (ds.set i d)
  | _, _, _, .nil => .nil
  | _, _, 0, .cons _ t => .cons h t
  | _, _, i + 1, .cons q t => .cons q (DpAll.setV h i t)

/-- the deck: [[cells], count] -/
def DeckOk (g : Gh) (H : Hp) (c : Nat) : Prop := ∀ p q, g.dk = some (p, q) → p ≠ q ∧ g.F p = none ∧ g.F q = none ∧
  ∃ ns : List Int, (∀ n ∈ ns, 0 ≤ n) ∧ ns.length ≤ 63 ∧ H q = some (.lst (ns.map V.int)) ∧ ∃ ys, H p = some (.lst ys) ∧ DShape g.F q c ys ns
def VOk (K : PySem.W.Frag) (g : Gh) (H : Hp) (v : V) : Vl → Prop
  | .dat d => Dp K g.F v d
  | .deck => ∃ p q, g.dk = some (p, q) ∧ v = .ref p
  | .exc a => v = .ref a
  | .own l => ∃ a xs, v = .ref a ∧ g.F a = none ∧ ¬ isDk g a ∧ H a = some (.lst xs) ∧ DpAll K g.F xs l
/-- the entry of a frame; top: the law's own frame, where the deck is made -/
structure En where
  g : Gh
  H : Hp
  top : Bool
structure Rel (K : PySem.W.Frag) (E : En) (g : Gh) (env : Ev) (c : Nat) (σ : L2.St) (H : Hp) : Prop where
  mo : Same E.g.F g.F
  md : E.top = false → g.dk = E.g.dk
  mt : E.top = true → E.g.dk = none
  dn : ∀ a, isDk g a → isDk E.g a ∨ E.H a = none
  nf : ∀ a o, g.F a = some o → E.g.F a = some o ∨ E.H a = none
  fr : ∀ a o, E.H a = some o → ¬ isDk E.g a → H a = some o
  nw : ∀ (i : Nat) (l : List PyData), env[i]? = some (some (Vl.own l)) → ∀ a : Addr, σ[i]? = some (some (V.ref a)) → E.H a = none
  ex : Same g.F H
  sl : ∀ (i : Nat) (x : Vl), env[i]? = some (some x) → ∃ v, σ[i]? = some (some v) ∧ VOk K g H v x
  ap : ∀ (i j : Nat) (li lj : List PyData) (a : Addr), i ≠ j → env[i]? = some (some (Vl.own li)) → env[j]? = some (some (Vl.own lj)) → σ[i]? = some (some (V.ref a)) → σ[j]? ≠ some (some (V.ref a))
  dk : DeckOk g H c
  len : env.length = σ.length

section
variable {K : PySem.W.Frag} {E : En} {g g' : Gh} {env : Ev} {c : Nat} {σ : L2.St} {H H' : Hp}
theorem Rel.deckLive (r : Rel K E g env c σ H) {a : Addr} (h : isDk g a) : ∃ o, H a = some o := by
  obtain ⟨p, q, e, z⟩ := h
  obtain ⟨_, _, _, ns, _, _, hq, _, hp, _⟩ := r.dk p q e
  rcases z with rfl | rfl
  · exact ⟨_, hp⟩
  · exact ⟨_, hq⟩
theorem Rel.old (r : Rel K E g env c σ H) {a : Addr} {o : HO} (h : E.H a = some o) : ∃ o', H a = some o' := by
  by_cases hd : isDk E.g a
  · cases ht : E.top with
    | true =>
      obtain ⟨p, q, e, _⟩ := hd
      rw [r.mt ht] at e
      cases e
    | false =>
      obtain ⟨p, q, e, z⟩ := hd
      exact r.deckLive ⟨p, q, by rw [r.md ht]; exact e, z⟩
  · exact ⟨o, r.fr a o h hd⟩
theorem Rel.oldN (r : Rel K E g env c σ H) {a : Addr} (h : H a = none) : E.H a = none := by
  cases q : E.H a with
  | none => rfl
  | some o =>
    obtain ⟨o', e⟩ := r.old q
    rw [h] at e
    cases e
/-- a new object, known to the data from now on -/
theorem Rel.new (r : Rel K E g env c σ H) {p : Addr} (o : HO) (hp : H p = none) : Rel K E ⟨upd g.F p o, g.dk⟩ env c σ (upd H p o) ∧ Mv g H ⟨upd g.F p o, g.dk⟩ (upd H p o) := by
  have hF : g.F p = none := r.ex.free hp
  have sF : Same g.F (upd g.F p o) := fun b x e => by
    rw [upd_ne (ne_of_none e hF)]
    exact e
  have nd : ¬ isDk g p := fun h => by
    obtain ⟨o', e⟩ := r.deckLive h
    rw [hp] at e
    cases e
  refine ⟨⟨r.mo.trans sF, r.md, r.mt, r.dn, fun a x e => ?_, fun a x e n => ?_, r.nw, fun b x e => ?_, fun i x e => ?_, r.ap, fun a b e => ?_, r.len⟩, ⟨⟨sF, rfl⟩, fun a x e _ => ?_, fun a x e => ⟨x, ?_⟩, fun a x e => ?_⟩⟩
  · have e : upd g.F p o a = some x := e
    by_cases ha : a = p
    · exact .inr (by rw [ha]; exact r.oldN hp)
    · rw [upd_ne ha] at e
      exact r.nf a x e
  · have q := r.fr a x e n
    rw [upd_ne (ne_of_none q hp)]
    exact q
  · have e : upd g.F p o b = some x := e
    by_cases hb : b = p
    · subst hb
      rw [upd_same] at e ⊢
      exact e
    · rw [upd_ne hb] at e ⊢
      exact r.ex b x e
  · obtain ⟨v, h1, h2⟩ := r.sl i x e
    refine ⟨v, h1, ?_⟩
    cases x with
    | dat d => exact dp_mono sF h2
    | deck => exact h2
    | exc _ => exact h2
    | own l =>
      obtain ⟨a, xs, rfl, h3, h4, h5, h6⟩ := h2
      have ne : a ≠ p := ne_of_none h5 hp
      refine ⟨a, xs, rfl, ?_, h4, ?_, dpAll_mono sF h6⟩
      · show upd g.F p o a = none
        rw [upd_ne ne]
        exact h3
      · rw [upd_ne ne]
        exact h5
  · obtain ⟨h1, h2, h3, ns, h4, h5, h6, ys, h7, h8⟩ := r.dk a b e
    have na : a ≠ p := ne_of_none h7 hp
    have nb : b ≠ p := ne_of_none h6 hp
    refine ⟨h1, ?_, ?_, ns, h4, h5, ?_, ys, ?_, h8.mono sF⟩
    · show upd g.F p o a = none
      rw [upd_ne na]
      exact h2
    · show upd g.F p o b = none
      rw [upd_ne nb]
      exact h3
    · rw [upd_ne nb]
      exact h6
    · rw [upd_ne na]
      exact h7
  · rw [upd_ne (ne_of_none e hp)]
    exact e
  · rw [upd_ne (ne_of_none e hp)]
    exact e
  · have e : upd g.F p o a = some x := e
    by_cases ha : a = p
    · exact .inr (by rw [ha]; exact hp)
    · rw [upd_ne ha] at e
      exact .inl e
end

/-! ### readings over data -/
abbrev DE := Ev → Nat → (Vl → Nat → Prop) → Prop
abbrev DT := Ev → Nat → (Bool → Nat → Prop) → Prop
abbrev DA := Ev → Nat → (List Vl → Nat → Prop) → Prop
abbrev DI := Ev → Nat → (List PyData → Nat → Prop) → Prop
abbrev DG := Vl → Ev → (Ev → Prop) → Prop
abbrev DGs := List PyData → Ev → (Ev → Prop) → Prop
/-- the slots ws may have changed -/
def Ag (ws : List Nat) (σ σ' : L2.St) : Prop := σ'.length = σ.length ∧ ∀ i, i ∉ ws → σ'[i]? = σ[i]?
structure DEnds where
  nx : Ev → Nat → Prop
  rt : Vl → Nat → Prop
  bk : Ev → Nat → Prop
  ct : Ev → Nat → Prop
abbrev DS := DEnds → Ev → Nat → Prop

def VOks (K : PySem.W.Frag) (g : Gh) (H : Hp) : List V → List Vl → Prop
  | [], [] => True
  | v :: vs, x :: xs => VOk K g H v x ∧ VOks K g H vs xs
  | _, _ => False
/-- a value that goes from hand to hand -/
def free : Vl → Prop
  | .own _ => False
  | _ => True
theorem VOk.mono {K : PySem.W.Frag} {g g' : Gh} {H H' : Hp} {v : V} {x : Vl} (m : Mo g g') (hf : free x) (h : VOk K g H v x) : VOk K g' H' v x := by
  cases x with
  | dat d => exact dp_mono m.f h
  | exc _ => exact h
  | deck =>
    obtain ⟨p, q, e, z⟩ := h
    exact ⟨p, q, by rw [m.d]; exact e, z⟩
  | own l => exact hf.elim

section
variable (K : PySem.W.Frag) (E : En)
def up (dt : DE) : TE := fun σ H Q => ∃ g env c P, Rel K E g env c σ H ∧ dt env c P ∧
  ∀ x c' g' H' v, P x c' → Mv g H g' H' → Rel K E g' env c' σ H' → VOk K g' H' v x → free x → Q v H'
def upT (dt : DT) : TT := fun σ H Q => ∃ g env c P, Rel K E g env c σ H ∧ dt env c P ∧
  ∀ b c' g' H', P b c' → Mv g H g' H' → Rel K E g' env c' σ H' → Q b H'
def upA (dt : DA) : TA := fun σ H Q => ∃ g env c P, Rel K E g env c σ H ∧ dt env c P ∧
  ∀ xs c' g' H' vs, P xs c' → Mv g H g' H' → Rel K E g' env c' σ H' → VOks K g' H' vs xs → (∀ x ∈ xs, free x) → Q vs H'
def upG (ws : List Nat) (dg : DG) : TG := fun v σ H Q => ∃ g env c x P, Rel K E g env c σ H ∧ VOk K g H v x ∧ free x ∧ dg x env P ∧
  ∀ env' g' σ' H', P env' → Mv g H g' H' → Rel K E g' env' c σ' H' → Ag ws σ σ' → Q σ' H'
def upGs (ws : List Nat) (dg : DGs) : TGs := fun vs σ H Q => ∃ g env c ds P, Rel K E g env c σ H ∧ DpAll K g.F vs ds ∧ dg ds env P ∧
  ∀ env' g' σ' H', P env' → Mv g H g' H' → Rel K E g' env' c σ' H' → Ag ws σ σ' → Q σ' H'
def upS (dt : DS) : TS := fun D σ H => ∃ g env c P, Rel K E g env c σ H ∧ dt P env c ∧
  (∀ env' c' g' σ' H', P.nx env' c' → Same g.F g'.F → Rel K E g' env' c' σ' H' → D.nx σ' H') ∧
  (∀ x c' env' g' σ' H' v, P.rt x c' → Same g.F g'.F → Rel K E g' env' c' σ' H' → VOk K g' H' v x → free x → D.rt v H') ∧
  (∀ env' c' g' σ' H', P.bk env' c' → Same g.F g'.F → Rel K E g' env' c' σ' H' → D.bk σ' H') ∧
  (∀ env' c' g' σ' H', P.ct env' c' → Same g.F g'.F → Rel K E g' env' c' σ' H' → D.ct σ' H')
end
abbrev DPE (X : Cx) (E : En) (e : Expr) (dt : DE) : Prop := PE X e (up X.K E dt)
abbrev DPT (X : Cx) (E : En) (e : Expr) (dt : DT) : Prop := PT X e (upT X.K E dt)
abbrev DPA (X : Cx) (E : En) (e : List Expr) (dt : DA) : Prop := PA X e (upA X.K E dt)
abbrev DPG (X : Cx) (E : En) (ws : List Nat) (e : Expr) (dt : DG) : Prop := PG X e (upG X.K E ws dt)
abbrev DPGs (X : Cx) (E : En) (ws : List Nat) (e : List Expr) (dt : DGs) : Prop := PGs X e (upGs X.K E ws dt)
abbrev DPS (X : Cx) (E : En) (e : Stmt) (dt : DS) : Prop := PS X e (upS X.K E dt)
abbrev DPSs (X : Cx) (E : En) (e : List Stmt) (dt : DS) : Prop := PSs X e (upS X.K E dt)

theorem pe_imp {X : Cx} {e : Expr} {t t' : TE} (h : PE X e t) (i : ∀ σ H Q, t' σ H Q → t σ H Q) : PE X e t' := ⟨fun pins s σ H Q I q => h.run pins s σ H Q I (i σ H Q q)⟩
theorem pt_imp {X : Cx} {e : Expr} {t t' : TT} (h : PT X e t) (i : ∀ σ H Q, t' σ H Q → t σ H Q) : PT X e t' := ⟨fun pins s σ H Q I q => h.run pins s σ H Q I (i σ H Q q)⟩
theorem pw_imp {X : Cx} {e : Expr} {t t' : TT} (h : PW X e t) (i : ∀ σ H Q, t' σ H Q → t σ H Q) : PW X e t' := ⟨fun wh pins s σ H Q I q => h.run wh pins s σ H Q I (i σ H Q q)⟩
theorem pa_imp {X : Cx} {e : List Expr} {t t' : TA} (h : PA X e t) (i : ∀ σ H Q, t' σ H Q → t σ H Q) : PA X e t' := ⟨fun pos pins s σ H Q I q => h.run pos pins s σ H Q I (i σ H Q q)⟩
theorem pg_imp {X : Cx} {e : Expr} {t t' : TG} (h : PG X e t) (i : ∀ v σ H Q, t' v σ H Q → t v σ H Q) : PG X e t' := ⟨fun pins s σ H v u Q I r q => h.run pins s σ H v u Q I r (i v σ H Q q)⟩
theorem ps_imp {X : Cx} {e : Stmt} {t t' : TS} (h : PS X e t) (i : ∀ D σ H, t' D σ H → t D σ H) : PS X e t' := ⟨fun pins s σ H D I q => h.run pins s σ H D I (i D σ H q)⟩
theorem pss_imp {X : Cx} {e : List Stmt} {t t' : TS} (h : PSs X e t) (i : ∀ D σ H, t' D σ H → t D σ H) : PSs X e t' := ⟨fun pins s σ H D I q => h.run pins s σ H D I (i D σ H q)⟩
theorem pi_imp {X : Cx} {tg e : Expr} {t t' : TI} (h : PI X tg e t) (i : ∀ σ H Q, t' σ H Q → t σ H Q) : PI X tg e t' := ⟨fun pins s σ H Q I q => h.run pins s σ H Q I (i σ H Q q)⟩

/-! ### data-level words -/
def datK (x : Vl) (k : PyData → Prop) : Prop := match x with
  | .dat d => k d
  | _ => False
def intK (d : PyData) (k : Int → Prop) : Prop := match d with
  | .int i => k i
  | _ => False
def dVar (i : Nat) : DE := fun env c P => match env[i]? with
  | some (some (.dat d)) => P (.dat d) c
  | some (some .deck) => P .deck c
  | some (some (.exc a)) => P (.exc a) c
  | _ => False
def dC (d : PyData) : DE := fun _ c P => P (.dat d) c
def dOp (rd : PyData → PyData → (PyData → Prop) → Prop) (da db : DE) : DE := fun env c P =>
  da env c fun x c1 => datK x fun d => db env c1 fun y c2 => datK y fun e => rd d e fun z => P (.dat z) c2
def dUn (rd : PyData → (PyData → Prop) → Prop) (da : DE) : DE := fun env c P => da env c fun x c1 => datK x fun d => rd d fun z => P (.dat z) c1
def aNil : DA := fun _ c P => P [] c
def aCons (da : DE) (dr : DA) : DA := fun env c P => da env c fun x c1 => dr env c1 fun xs c2 => P (x :: xs) c2
def dCall (sp : List Vl → Nat → (Vl → Nat → Prop) → Prop) (da : DA) : DE := fun env c P => da env c fun xs c1 => sp xs c1 P
def datsK : List Vl → (List PyData → Prop) → Prop
  | [], k => k []
  | .dat d :: r, k => datsK r fun ds => k (d :: ds)
  | _ :: _, _ => False
def dCB (rd : List PyData → (PyData → Prop) → Prop) (da : DA) : DE := fun env c P => da env c fun xs c1 => datsK xs fun ds => rd ds fun z => P (.dat z) c1

section
variable {X : Cx} {E : En} {a b : Expr} {da db : DE} {pos : Pos}
theorem de_var (i : Nat) {x : Str} (hN : X.N[i]? = some x := by rfl) (hv : Vis X.env.scope x := by first | exact Or.inl rfl | exact Or.inr (Or.inl rfl) | exact Or.inr (Or.inr rfl)) (h1 : (x == ("__debug__" : Str)) = false := by decide)
    (h2 : (x == ("__classdict__" : Str)) = false := by decide) : DPE X E (.Name x pos) (dVar i) := by
  refine pe_imp (pe_var hN hv h1 h2) fun σ H Q h => ?_
  obtain ⟨g, env, c, P, r, hd, k⟩ := h
  unfold dVar at hd
  split at hd
  · rename_i d e
    obtain ⟨v, e1, e2⟩ := r.sl i _ e
    exact ⟨v, e1, k _ _ g H v hd (Mv.refl g H) r e2 trivial⟩
  · rename_i e
    obtain ⟨v, e1, e2⟩ := r.sl i _ e
    exact ⟨v, e1, k _ _ g H v hd (Mv.refl g H) r e2 trivial⟩
  · rename_i a e
    obtain ⟨v, e1, e2⟩ := r.sl i _ e
    exact ⟨v, e1, k _ _ g H v hd (Mv.refl g H) r e2 trivial⟩
  · exact hd.elim
theorem de_c {v : V} {d : PyData} (h : PE X a (tC v)) (hd : ∀ K F, Dp K F v d) : DPE X E a (dC d) := by
  refine pe_imp h fun σ H Q q => ?_
  obtain ⟨g, env, c, P, r, p, k⟩ := q
  exact k _ _ g H v p (Mv.refl g H) r (hd _ _) trivial
theorem de_int {i : Int} {j} : DPE X E (.Constant (.int i) j pos) (dC (.int i)) := de_c pe_int fun _ _ => .int i
theorem de_bl {i : Bool} {j} : DPE X E (.Constant (.bool i) j pos) (dC (.bool i)) := de_c pe_bl fun _ _ => .bl i
theorem de_str {i : Str} {j} : DPE X E (.Constant (.str i) j pos) (dC (.str i)) := de_c pe_str fun _ _ => .str i
theorem de_non {j} : DPE X E (.Constant .none j pos) (dC .none) := de_c pe_non fun _ _ => .non

/-- an operation of two values, over data -/
def OpD (K : PySem.W.Frag) (r : R2) (rd : PyData → PyData → (PyData → Prop) → Prop) : Prop :=
  ∀ (E : En) (g : Gh) (env : Ev) (c : Nat) (σ : L2.St) (H : Hp) (x y : V) (d e : PyData) (P : PyData → Prop) (Q : VK), Rel K E g env c σ H → Dp K g.F x d → Dp K g.F y e → rd d e P →
    (∀ z g' H' v, P z → Mv g H g' H' → Rel K E g' env c σ H' → Dp K g'.F v z → Q v H') → r x y H Q
def UnD (K : PySem.W.Frag) (r : V → Hp → VK → Prop) (rd : PyData → (PyData → Prop) → Prop) : Prop :=
  ∀ (E : En) (g : Gh) (env : Ev) (c : Nat) (σ : L2.St) (H : Hp) (x : V) (d : PyData) (P : PyData → Prop) (Q : VK), Rel K E g env c σ H → Dp K g.F x d → rd d P →
    (∀ z g' H' v, P z → Mv g H g' H' → Rel K E g' env c σ H' → Dp K g'.F v z → Q v H') → r x H Q
def CallD (K : PySem.W.Frag) (r : List V → Hp → VK → Prop) (rd : List PyData → (PyData → Prop) → Prop) : Prop :=
  ∀ (E : En) (g : Gh) (env : Ev) (c : Nat) (σ : L2.St) (H : Hp) (xs : List V) (ds : List PyData) (P : PyData → Prop) (Q : VK), Rel K E g env c σ H → DpAll K g.F xs ds → rd ds P →
    (∀ z g' H' v, P z → Mv g H g' H' → Rel K E g' env c σ H' → Dp K g'.F v z → Q v H') → r xs H Q

theorem op_up {r : R2} {rd : PyData → PyData → (PyData → Prop) → Prop} {K : PySem.W.Frag} (hd : OpD K r rd) {σ : L2.St} {H : Hp} {Q : VK} (h : up K E (dOp rd da db) σ H Q) : tOp r (up K E da) (up K E db) σ H Q := by
  obtain ⟨g, env, c, P, rel, q, k⟩ := h
  refine ⟨g, env, c, _, rel, q, fun x c1 g1 H1 v p1 m1 r1 o1 f1 => ?_⟩
  cases x with
  | deck => exact p1.elim
  | exc _ => exact p1.elim
  | own l => exact p1.elim
  | dat d =>
    refine ⟨g1, env, c1, _, r1, p1, fun y c2 g2 H2 u p2 m2 r2 o2 f2 => ?_⟩
    cases y with
    | deck => exact p2.elim
    | exc _ => exact p2.elim
    | own l => exact p2.elim
    | dat e => exact hd E g2 env c2 σ H2 v u d e _ Q r2 (dp_mono m2.f o1) o2 p2 fun z g3 H3 w pz m3 r3 dz => k _ _ g3 H3 w pz ((m1.trans m2).trans m3) r3 dz trivial
theorem de_op {op : Operator} {r : R2} {rd : PyData → PyData → (PyData → Prop) → Prop} (ho : OpR X (binaryOp op) r) (hd : OpD X.K r rd) (ha : DPE X E a da) (hb : DPE X E b db) : DPE X E (.BinOp a op b pos) (dOp rd da db) :=
  pe_imp (pe_op ho ha hb) fun _ _ _ h => op_up hd h
theorem de_cmp {op : CmpOp} {r : R2} {rd : PyData → PyData → (PyData → Prop) → Prop} (ho : OpR X (compareOp op) r) (hd : OpD X.K r rd) (ha : DPE X E a da) (hb : DPE X E b db) (hm : behindInMarks op b = false := by first | exact nobehind _ (by decide) (by decide) | rfl) :
    DPE X E (.Compare a [op] [b] pos) (dOp rd da db) := pe_imp (pe_cmpR ho ha hb hm) fun _ _ _ h => op_up hd h
theorem de_ix {r : R2} {rd : PyData → PyData → (PyData → Prop) → Prop} (ho : IxR X r) (hd : OpD X.K r rd) (ha : DPE X E a da) (hb : DPE X E b db) (hs : PlainIx b := by exact fun _ _ => rfl) : DPE X E (.Subscript a b pos) (dOp rd da db) :=
  pe_imp (pe_ix ho ha hb hs) fun _ _ _ h => op_up hd h
theorem de_un {op : UnaryOp} {r : V → Hp → VK → Prop} {rd : PyData → (PyData → Prop) → Prop} (ho : UnR X (unaryOp op) r) (hd : UnD X.K r rd) (ha : DPE X E a da) : DPE X E (.UnaryOp op a pos) (dUn rd da) := by
  refine pe_imp (pe_un ho ha) fun σ H Q h => ?_
  obtain ⟨g, env, c, P, rel, q, k⟩ := h
  refine ⟨g, env, c, _, rel, q, fun x c1 g1 H1 v p1 m1 r1 o1 f1 => ?_⟩
  cases x with
  | deck => exact p1.elim
  | exc _ => exact p1.elim
  | own l => exact p1.elim
  | dat d => exact hd E g1 env c1 σ H1 v d _ Q r1 o1 p1 fun z g3 H3 w pz m3 r3 dz => k _ _ g3 H3 w pz (m1.trans m3) r3 dz trivial

/-! ### arguments and calls -/
theorem da_nil : DPA X E [] aNil := by
  refine pa_imp pa_nil fun σ H Q h => ?_
  obtain ⟨g, env, c, P, rel, q, k⟩ := h
  exact k [] c g H [] q (Mv.refl g H) rel trivial (fun _ h => nomatch h)
theorem VOks.mono {K : PySem.W.Frag} {g g' : Gh} {H H' : Hp} (m : Mo g g') : ∀ {vs : List V} {xs : List Vl}, (∀ x ∈ xs, free x) → VOks K g H vs xs → VOks K g' H' vs xs
  | [], [], _, _ => trivial
  | v :: vs, x :: xs, hf, h => ⟨VOk.mono m (hf x List.mem_cons_self) h.1, VOks.mono m (fun y hy => hf y (List.mem_cons_of_mem _ hy)) h.2⟩
  | [], _ :: _, _, h => h.elim
  | _ :: _, [], _, h => h.elim
theorem da_cons {es : List Expr} {dr : DA} (ha : DPE X E a da) (hr : DPA X E es dr) (hs : starEach (a :: es) X.env = (false, eval a X.env) :: starEach es X.env := by rfl) : DPA X E (a :: es) (aCons da dr) := by
  refine pa_imp (pa_cons ha hr hs) fun σ H Q h => ?_
  obtain ⟨g, env, c, P, rel, q, k⟩ := h
  refine ⟨g, env, c, _, rel, q, fun x c1 g1 H1 v p1 m1 r1 o1 f1 => ⟨g1, env, c1, _, r1, p1, fun xs c2 g2 H2 vs p2 m2 r2 o2 f2 => ?_⟩⟩
  refine k _ _ g2 H2 (v :: vs) p2 (m1.trans m2) r2 ⟨VOk.mono m2.toMo f1 o1, o2⟩ fun y hy => ?_
  rcases List.mem_cons.mp hy with rfl | hy
  · exact f1
  · exact f2 y hy
theorem datsK_all {K : PySem.W.Frag} {g : Gh} {H : Hp} : ∀ {xs : List Vl} {vs : List V} {k : List PyData → Prop}, VOks K g H vs xs → datsK xs k → ∃ ds, k ds ∧ DpAll K g.F vs ds
  | [], [], k, _, h => ⟨[], h, .nil⟩
  | [], _ :: _, k, h, _ => h.elim
  | _ :: _, [], k, h, _ => h.elim
  | .dat d :: xs, v :: vs, k, h, q => by
    obtain ⟨ds, h1, h2⟩ := datsK_all h.2 q
    exact ⟨d :: ds, h1, .cons h.1 h2⟩
  | .deck :: _, _ :: _, _, _, h => h.elim
  | .exc _ :: _, _ :: _, _, _, h => h.elim
  | .own _ :: _, _ :: _, _, _, h => h.elim
theorem cb_up {r : List V → Hp → VK → Prop} {rd : List PyData → (PyData → Prop) → Prop} {K : PySem.W.Frag} (hd : CallD K r rd) {dr : DA} {σ : L2.St} {H : Hp} {Q : VK} (h : up K E (dCB rd dr) σ H Q) : tCB r (upA K E dr) σ H Q := by
  obtain ⟨g, env, c, P, rel, q, k⟩ := h
  refine ⟨g, env, c, _, rel, q, fun xs c1 g1 H1 vs p1 m1 r1 o1 f1 => ?_⟩
  obtain ⟨ds, h1, h2⟩ := datsK_all o1 p1
  exact hd E g1 env c1 σ H1 vs ds _ Q r1 h2 h1 fun z g3 H3 w pz m3 r3 dz => k _ _ g3 H3 w pz (m1.trans m3) r3 dz trivial
theorem de_callB {x : Str} {p : Pos} {id : String} {es : List Expr} {dr : DA} {r : List V → Hp → VK → Prop} {rd : List PyData → (PyData → Prop) → Prop} (hc : CallR X (.builtin id) r) (hd : CallD X.K r rd) (hm : X.mg x = none) (hv : bootBuiltins x = some (.builtin id)) (ha : DPA X E (a :: es) dr)
    (hg : Gl X x := by rfl) (hn : x ≠ "__name__" := by decide) (hdb : (x == ("__debug__" : Str)) = false := by decide)
    (he : starEach (a :: es) X.env = (false, eval a X.env) :: starEach es X.env := by rfl) (hpl : (backTo pos (starEach es X.env)).any (·.1) = false := by rfl) : DPE X E (.Call (.Name x p) (a :: es) [] pos) (dCB rd dr) :=
  pe_imp (pe_callB hc hg hm hv ha hn hdb he hpl) fun _ _ _ h => cb_up hd h
theorem de_callT {x : Str} {p : Pos} {id : String} {es : List Expr} {dr : DA} {r : List V → Hp → VK → Prop} {rd : List PyData → (PyData → Prop) → Prop} (hc : CallR X (.type id) r) (hd : CallD X.K r rd) (hm : X.mg x = none) (hv : bootBuiltins x = some (.type id)) (ha : DPA X E (a :: es) dr)
    (hg : Gl X x := by rfl) (hn : x ≠ "__name__" := by decide) (hdb : (x == ("__debug__" : Str)) = false := by decide)
    (he : starEach (a :: es) X.env = (false, eval a X.env) :: starEach es X.env := by rfl) (hpl : (backTo pos (starEach es X.env)).any (·.1) = false := by rfl) : DPE X E (.Call (.Name x p) (a :: es) [] pos) (dCB rd dr) :=
  pe_imp (pe_callTy hc hg hm hv ha hn hdb he hpl) fun _ _ _ h => cb_up hd h
end
end DL
namespace DL
open PySem PySem.Spec PyProof.Rows L2

/-! ### operations on ints -/
def rdI (f : Int → Int → PyData) : PyData → PyData → (PyData → Prop) → Prop := fun d e P => intK d fun i => intK e fun j => P (f i j)
def rdIc (C : Int → Int → Prop) (f : Int → Int → PyData) : PyData → PyData → (PyData → Prop) → Prop := fun d e P => intK d fun i => intK e fun j => C i j ∧ P (f i j)
section
variable {K : PySem.W.Frag}
theorem dp_int {F : Hp} {v : V} {i : Int} (h : Dp K F v (.int i)) : v = .int i := by cases h; rfl
theorem dp_bl {F : Hp} {v : V} {i : Bool} (h : Dp K F v (.bool i)) : v = .bl i := by cases h; rfl
theorem dp_str {F : Hp} {v : V} {i : Str} (h : Dp K F v (.str i)) : v = .str i := by cases h; rfl
theorem dp_non {F : Hp} {v : V} (h : Dp K F v .none) : v = .non := by cases h; rfl
theorem opd_I0 {gV : Int → Int → V} {gD : Int → Int → PyData} (h : ∀ K F i j, Dp K F (gV i j) (gD i j)) : OpD K (rI0 gV) (rdI gD) := by
  intro E g env c σ H x y d e P Q r hx hy q k
  cases d <;> try exact q.elim
  cases e <;> try exact q.elim
  exact ⟨_, _, dp_int hx, dp_int hy, k _ g H _ q (Mv.refl g H) r (h _ _ _ _)⟩
theorem opd_I {C : Int → Int → Prop} {gV : Int → Int → V} {gD : Int → Int → PyData} (h : ∀ K F i j, Dp K F (gV i j) (gD i j)) : OpD K (rI C gV) (rdIc C gD) := by
  intro E g env c σ H x y d e P Q r hx hy q k
  cases d <;> try exact q.elim
  cases e <;> try exact q.elim
  exact ⟨_, _, dp_int hx, dp_int hy, q.1, k _ g H _ q.2 (Mv.refl g H) r (h _ _ _ _)⟩
abbrev rdAdd := rdI fun i j => .int (i + j)
abbrev rdSub := rdI fun i j => .int (i - j)
abbrev rdMul := rdIc CMul fun i j => .int (i * j)
abbrev rdMod := rdIc (fun _ j => 0 < j) fun i j => .int (i % j)
abbrev rdDiv := rdIc CDiv fun i j => .int (i / j)
abbrev rdPow := rdIc CPow fun i j => .int (i ^ j.toNat)
abbrev rdLt := rdI fun i j => .bool (decide (i < j))
abbrev rdLe := rdI fun i j => .bool (decide (i ≤ j))
abbrev rdGt := rdI fun i j => .bool (decide (j < i))
abbrev rdGe := rdI fun i j => .bool (decide (j ≤ i))
end
section
variable {X : Cx} {E : En} {a b : Expr} {da db : DE} {pos : Pos}
theorem de_add (ha : DPE X E a da) (hb : DPE X E b db) : DPE X E (.BinOp a .Add b pos) (dOp rdAdd da db) := de_op op_add (opd_I0 fun _ _ _ _ => .int _) ha hb
theorem de_sub (ha : DPE X E a da) (hb : DPE X E b db) : DPE X E (.BinOp a .Sub b pos) (dOp rdSub da db) := de_op op_sub (opd_I0 fun _ _ _ _ => .int _) ha hb
theorem de_mul (ha : DPE X E a da) (hb : DPE X E b db) : DPE X E (.BinOp a .Mult b pos) (dOp rdMul da db) := de_op op_mul (opd_I fun _ _ _ _ => .int _) ha hb
theorem de_mod (ha : DPE X E a da) (hb : DPE X E b db) : DPE X E (.BinOp a .Mod b pos) (dOp rdMod da db) := de_op op_mod (opd_I fun _ _ _ _ => .int _) ha hb
theorem de_div (ha : DPE X E a da) (hb : DPE X E b db) : DPE X E (.BinOp a .FloorDiv b pos) (dOp rdDiv da db) := de_op op_fdiv (opd_I fun _ _ _ _ => .int _) ha hb
theorem de_pow (ha : DPE X E a da) (hb : DPE X E b db) : DPE X E (.BinOp a .Pow b pos) (dOp rdPow da db) := de_op op_pow (opd_I fun _ _ _ _ => .int _) ha hb
theorem de_lt (ha : DPE X E a da) (hb : DPE X E b db) : DPE X E (.Compare a [.Lt] [b] pos) (dOp rdLt da db) := de_cmp op_lt (opd_I0 fun _ _ _ _ => .bl _) ha hb
theorem de_le (ha : DPE X E a da) (hb : DPE X E b db) : DPE X E (.Compare a [.LtE] [b] pos) (dOp rdLe da db) := de_cmp op_le (opd_I0 fun _ _ _ _ => .bl _) ha hb
theorem de_gt (ha : DPE X E a da) (hb : DPE X E b db) : DPE X E (.Compare a [.Gt] [b] pos) (dOp rdGt da db) := de_cmp op_gt (opd_I0 fun _ _ _ _ => .bl _) ha hb
theorem de_ge (ha : DPE X E a da) (hb : DPE X E b db) : DPE X E (.Compare a [.GtE] [b] pos) (dOp rdGe da db) := de_cmp op_ge (opd_I0 fun _ _ _ _ => .bl _) ha hb
def rdNeg : PyData → (PyData → Prop) → Prop := fun d P => intK d fun i => P (.int (-i))
theorem de_neg (ha : DPE X E a da) : DPE X E (.UnaryOp .USub a pos) (dUn rdNeg da) := by
  refine de_un un_neg (fun E g env c σ H x d P Q r hx q k => ?_) ha
  cases d <;> try exact q.elim
  exact ⟨_, dp_int hx, k _ g H _ q (Mv.refl g H) r (.int _)⟩

/-! ### == and != -/
def rdEq : PyData → PyData → (PyData → Prop) → Prop := fun d e P => match d, e with
  | .str x, .str y => P (.bool (decide (x = y)))
  | .int i, .int j => P (.bool (decide (i = j)))
  | d, e => SeqAt.shaped d = true ∧ SeqAt.shaped e = true ∧ P (.bool (PyData.eqv d e))
def rdNe : PyData → PyData → (PyData → Prop) → Prop := fun d e P => rdEq d e fun z => match z with
  | .bool b => P (.bool (!b))
  | _ => False
theorem op_or {f : Value → Value → Sem Value} {r r' : R2} (h : OpR X f r) (h' : OpR X f r') : OpR X f (fun x y H Q => r x y H Q ∨ r' x y H Q) := by
  intro pins s σ H x y v u Q I rx ry q
  rcases q with q | q
  · exact h pins s σ H x y v u Q I rx ry q
  · exact h' pins s σ H x y v u Q I rx ry q
theorem dpF {K : PySem.W.Frag} {E : En} {g : Gh} {env : Ev} {c : Nat} {σ : L2.St} {H : Hp} (r : Rel K E g env c σ H) {v : V} {d : PyData} (h : Dp K g.F v d) : Dp K H v d := dp_mono r.ex h
theorem opd_eq {K : PySem.W.Frag} : OpD K (fun x y H Q => rEq x y H Q ∨ rEqD K x y H Q) rdEq := by
  intro E g env c σ H x y d e P Q r hx hy q k
  unfold rdEq at q
  split at q
  · rename_i a b
    rw [dp_str hx, dp_str hy]
    refine .inl ⟨rfl, ?_⟩
    have := k _ g H (.bl (decide (a = b))) q (Mv.refl g H) r (.bl _)
    rwa [show decide (V.str a = V.str b) = decide (a = b) from by simp]
  · rename_i a b
    rw [dp_int hx, dp_int hy]
    refine .inl ⟨rfl, ?_⟩
    have := k _ g H (.bl (decide (a = b))) q (Mv.refl g H) r (.bl _)
    rwa [show decide (V.int a = V.int b) = decide (a = b) from by simp]
  · exact .inr ⟨_, _, dp_l2 (dpF r hx) (PyData.hasDict_of_canLay _ (SeqAt.canLay_of_shaped q.1)), dp_l2 (dpF r hy) (PyData.hasDict_of_canLay _ (SeqAt.canLay_of_shaped q.2.1)), q.1, q.2.1, k _ g H _ q.2.2 (Mv.refl g H) r (.bl _)⟩
theorem opd_ne {K : PySem.W.Frag} : OpD K (fun x y H Q => rNe x y H Q ∨ rNeD K x y H Q) rdNe := by
  intro E g env c σ H x y d e P Q r hx hy q k
  unfold rdNe rdEq at q
  split at q
  · rename_i a b
    rw [dp_str hx, dp_str hy]
    refine .inl ⟨rfl, ?_⟩
    have := k _ g H (.bl (!decide (a = b))) q (Mv.refl g H) r (.bl _)
    rwa [show decide (V.str a = V.str b) = decide (a = b) from by simp]
  · rename_i a b
    rw [dp_int hx, dp_int hy]
    refine .inl ⟨rfl, ?_⟩
    have := k _ g H (.bl (!decide (a = b))) q (Mv.refl g H) r (.bl _)
    rwa [show decide (V.int a = V.int b) = decide (a = b) from by simp]
  · exact .inr ⟨_, _, dp_l2 (dpF r hx) (PyData.hasDict_of_canLay _ (SeqAt.canLay_of_shaped q.1)), dp_l2 (dpF r hy) (PyData.hasDict_of_canLay _ (SeqAt.canLay_of_shaped q.2.1)), q.1, q.2.1, k _ g H _ q.2.2 (Mv.refl g H) r (.bl _)⟩
theorem de_eq {k : Nat} (hr : Room k X.A) (ha : DPE X E a da) (hb : DPE X E b db) : DPE X E (.Compare a [.Eq] [b] pos) (dOp rdEq da db) := de_cmp (op_or op_eq (op_eqD hr.units)) opd_eq ha hb
theorem de_ne {k : Nat} (hr : Room k X.A) (ha : DPE X E a da) (hb : DPE X E b db) : DPE X E (.Compare a [.NotEq] [b] pos) (dOp rdNe da db) := de_cmp (op_or op_ne (op_neD hr.units)) opd_ne ha hb

/-! ### is None -/
def rdIsN : PyData → (PyData → Prop) → Prop := fun d P => match d with
  | .none => P (.bool true)
  | _ => P (.bool false)
def rdNotN : PyData → (PyData → Prop) → Prop := fun d P => match d with
  | .none => P (.bool false)
  | _ => P (.bool true)
theorem dp_isN {K : PySem.W.Frag} {F : Hp} {v : V} {d : PyData} (h : Dp K F v d) : (d = .none ∧ v = .non) ∨ (d ≠ .none ∧ v ≠ .non) := by
  cases h <;> first | exact .inl ⟨rfl, rfl⟩ | exact .inr ⟨(fun z => nomatch z), (fun z => nomatch z)⟩
theorem de_isN {j} {p2 : Pos} (ha : DPE X E a da) : DPE X E (.Compare a [.Is] [.Constant .none j p2] pos) (dUn rdIsN da) := by
  refine pe_imp (pe_cmp (pc_isN ha) rfl) fun σ H Q h => ?_
  obtain ⟨g, env, c, P, rel, q, k⟩ := h
  refine ⟨g, env, c, _, rel, q, fun x c1 g1 H1 v p1 m1 r1 o1 f1 => ?_⟩
  cases x with
  | deck => exact p1.elim
  | exc _ => exact p1.elim
  | own l => exact p1.elim
  | dat d =>
    rcases dp_isN o1 with ⟨rfl, rfl⟩ | ⟨n1, n2⟩
    · exact k _ _ g1 H1 (.bl (decide (V.non = .non))) p1 m1 r1 (.bl _) trivial
    · have p1' : P (.dat (.bool false)) c1 := by
        cases d <;> first | exact absurd rfl n1 | exact p1
      rw [decide_eq_false n2]
      exact k _ _ g1 H1 (.bl false) p1' m1 r1 (.bl _) trivial
theorem de_notN {j} {p2 : Pos} (ha : DPE X E a da) : DPE X E (.Compare a [.IsNot] [.Constant .none j p2] pos) (dUn rdNotN da) := by
  refine pe_imp (pe_cmp (pc_notN ha) rfl) fun σ H Q h => ?_
  obtain ⟨g, env, c, P, rel, q, k⟩ := h
  refine ⟨g, env, c, _, rel, q, fun x c1 g1 H1 v p1 m1 r1 o1 f1 => ?_⟩
  cases x with
  | deck => exact p1.elim
  | exc _ => exact p1.elim
  | own l => exact p1.elim
  | dat d =>
    rcases dp_isN o1 with ⟨rfl, rfl⟩ | ⟨n1, n2⟩
    · exact k _ _ g1 H1 (.bl (!decide (V.non = .non))) p1 m1 r1 (.bl _) trivial
    · have p1' : P (.dat (.bool true)) c1 := by
        cases d <;> first | exact absurd rfl n1 | exact p1
      rw [decide_eq_false n2]
      exact k _ _ g1 H1 (.bl true) p1' m1 r1 (.bl _) trivial

/-! ### items -/
def ixK (ds : List PyData) (e : PyData) (P : PyData → Prop) : Prop := intK e fun i => match atI ds i with
  | some z => P z
  | none => False
def rdIx : PyData → PyData → (PyData → Prop) → Prop := fun d e P => match d with
  | .list ds => ixK ds e P
  | .tuple ds => ixK ds e P
  | _ => False
theorem atI_dp {K : PySem.W.Frag} {F : Hp} {xs : List V} {ds : List PyData} (h : DpAll K F xs ds) {i : Int} {d : PyData} (e : atI ds i = some d) : ∃ v, atI xs i = some v ∧ Dp K F v d := by
  unfold atI at e ⊢
  rw [DpAll.len h]
  cases hi : ixN ds.length i with
  | none => rw [hi] at e; cases e
  | some j =>
    rw [hi] at e
    exact DpAll.get h e
theorem opd_ix {K : PySem.W.Frag} : OpD K (fun x y H Q => rIxL K x y H Q ∨ rIxT K x y H Q) rdIx := by
  intro E g env c σ H x y d e P Q r hx hy q k
  cases d <;> try exact q.elim
  · rename_i ds
    have q1 : ixK ds e P := q
    clear q
    cases e <;> try exact q1.elim
    rename_i i
    cases hx with
    | lst hs ha =>
      have q : (match atI ds i with | some z => P z | none => False) := q1
      cases hz : atI ds i with
      | none => rw [hz] at q; exact q.elim
      | some z =>
        rw [hz] at q
        obtain ⟨v, h1, h2⟩ := atI_dp ha hz
        exact .inl ⟨_, _, i, v, rfl, dp_int hy, r.ex.seq hs, h1, k _ g H v q (Mv.refl g H) r h2⟩
  · rename_i ds
    have q1 : ixK ds e P := q
    clear q
    cases e <;> try exact q1.elim
    rename_i i
    cases hx with
    | tup hs ha =>
      have q : (match atI ds i with | some z => P z | none => False) := q1
      cases hz : atI ds i with
      | none => rw [hz] at q; exact q.elim
      | some z =>
        rw [hz] at q
        obtain ⟨v, h1, h2⟩ := atI_dp ha hz
        exact .inr ⟨_, _, i, v, rfl, dp_int hy, seqT r.ex hs, h1, k _ g H v q (Mv.refl g H) r h2⟩
theorem de_item (ha : DPE X E a da) (hb : DPE X E b db) (hs : PlainIx b := by exact fun _ _ => rfl) : DPE X E (.Subscript a b pos) (dOp rdIx da db) := de_ix (IxR.or ix_list ix_tup) opd_ix ha hb hs

/-! ### displays -/
def dTup (dr : DA) : DE := fun env c P => dr env c fun xs c1 => datsK xs fun ds => ds.length ≤ sizeLine ∧ P (.dat (.tuple ds)) c1
def dLst (dr : DA) : DE := fun env c P => dr env c fun xs c1 => datsK xs fun ds => ds.length ≤ sizeLine ∧ P (.dat (.list ds)) c1
theorem de_tup {es : List Expr} {dr : DA} {x1} (h : DPA X E es dr) : DPE X E (.Tuple es x1 pos) (dTup dr) := by
  refine pe_imp (pe_tup h) fun σ H Q h => ?_
  obtain ⟨g, env, c, P, rel, q, k⟩ := h
  refine ⟨g, env, c, _, rel, q, fun xs c1 g1 H1 vs p1 m1 r1 o1 f1 => ?_⟩
  obtain ⟨ds, h1, h2⟩ := datsK_all o1 p1
  refine ⟨by rw [DpAll.len h2]; exact h1.1, fun p hp => ?_⟩
  obtain ⟨r2, m2⟩ := r1.new (.tup vs) hp
  exact k _ _ _ _ _ h1.2 (m1.trans m2) r2 (.tup (.of upd_same) (dpAll_mono m2.f h2)) trivial
theorem de_lst {es : List Expr} {dr : DA} (h : DPA X E es dr) : DPE X E (.List es pos) (dLst dr) := by
  refine pe_imp (pe_lst h) fun σ H Q h => ?_
  obtain ⟨g, env, c, P, rel, q, k⟩ := h
  refine ⟨g, env, c, _, rel, q, fun xs c1 g1 H1 vs p1 m1 r1 o1 f1 => ?_⟩
  obtain ⟨ds, h1, h2⟩ := datsK_all o1 p1
  refine ⟨by rw [DpAll.len h2]; exact h1.1, fun p hp => ?_⟩
  obtain ⟨r2, m2⟩ := r1.new (.lst vs) hp
  exact k _ _ _ _ _ h1.2 (m1.trans m2) r2 (.lst (.of upd_same) (dpAll_mono m2.f h2)) trivial

/-! ### built-in calls -/
def rdLen : List PyData → (PyData → Prop) → Prop := fun ds P => match ds with
  | [.list xs] => P (.int xs.length)
  | [.tuple xs] => P (.int xs.length)
  | _ => False
theorem cd_len {K : PySem.W.Frag} : CallD K (fun xs H Q => ∃ p ys, xs = [V.ref p] ∧ (SqL K H p ys ∨ SqT K H p ys) ∧ Q (.int ys.length) H) rdLen := by
  intro E g env c σ H xs ds P Q r h q k
  unfold rdLen at q
  split at q
  · cases h with
    | cons h1 t =>
      cases t
      cases h1 with
      | lst hs ha => exact ⟨_, _, rfl, .inl (r.ex.seq hs), by rw [DpAll.len ha]; exact k _ g H _ q (Mv.refl g H) r (.int _)⟩
  · cases h with
    | cons h1 t =>
      cases t
      cases h1 with
      | tup hs ha => exact ⟨_, _, rfl, .inr (seqT r.ex hs), by rw [DpAll.len ha]; exact k _ g H _ q (Mv.refl g H) r (.int _)⟩
  · exact q.elim
def rdTuple : List PyData → (PyData → Prop) → Prop := fun ds P => match ds with
  | [.list xs] => P (.tuple xs)
  | [.tuple xs] => P (.tuple xs)
  | _ => False
theorem cd_tuple {K : PySem.W.Frag} : CallD K (fun xs H Q => ∃ p ys, xs = [V.ref p] ∧ ((SqL K H p ys ∧ ∀ l, H l = none → Q (.ref l) (upd H l (.tup ys))) ∨ (SqT K H p ys ∧ Q (.ref p) H))) rdTuple := by
  intro E g env c σ H xs ds P Q r h q k
  unfold rdTuple at q
  split at q
  · cases h with
    | cons h1 t =>
      cases t
      cases h1 with
      | lst hs ha =>
        refine ⟨_, _, rfl, .inl ⟨r.ex.seq hs, fun l hl => ?_⟩⟩
        obtain ⟨r2, m2⟩ := r.new (.tup _) hl
        exact k _ _ _ _ q m2 r2 (.tup (.of upd_same) (dpAll_mono m2.f ha))
  · cases h with
    | cons h1 t =>
      cases t
      cases h1 with
      | tup hs ha => exact ⟨_, _, rfl, .inr ⟨seqT r.ex hs, k _ g H _ q (Mv.refl g H) r (.tup hs ha)⟩⟩
  · exact q.elim
def intsOf : List PyData → Option (List Int)
  | [] => some []
  | .int i :: r => (intsOf r).map (i :: ·)
  | _ :: _ => none
theorem intsOf_dp {K : PySem.W.Frag} {F : Hp} : ∀ {ds : List PyData} {xs : List V} {ns : List Int}, intsOf ds = some ns → DpAll K F xs ds → xs = ns.map V.int
  | [], _, ns, e, h => by
    cases h
    cases e
    rfl
  | .int i :: r, _, ns, e, h => by
    cases h with
    | cons h1 t =>
      unfold intsOf at e
      cases hr : intsOf r with
      | none => rw [hr] at e; cases e
      | some ms =>
        rw [hr] at e
        cases e
        rw [dp_int h1, intsOf_dp hr t]
        rfl
  | .none :: _, _, _, e, _ => by cases e
  | .bool _ :: _, _, _, e, _ => by cases e
  | .str _ :: _, _, _, e, _ => by cases e
  | .list _ :: _, _, _, e, _ => by cases e
  | .tuple _ :: _, _, _, e, _ => by cases e
  | .dict _ :: _, _, _, e, _ => by cases e
theorem intsOf_map (ns : List Int) : intsOf (ns.map PyData.int) = some ns := by
  induction ns with
  | nil => rfl
  | cons n r ih => simp [intsOf, ih]
def rdSum : List PyData → (PyData → Prop) → Prop := fun ds P => match ds with
  | [.list xs] => ∃ ns, intsOf xs = some ns ∧ P (.int ns.sum)
  | _ => False
theorem cd_sum {K : PySem.W.Frag} : CallD K (rSum K) rdSum := by
  intro E g env c σ H xs ds P Q r h q k
  unfold rdSum at q
  split at q
  · cases h with
    | cons h1 t =>
      cases t
      cases h1 with
      | lst hs ha =>
        obtain ⟨ns, e, q⟩ := q
        have ex := intsOf_dp e ha
        subst ex
        exact ⟨_, ns, rfl, r.ex.seq hs, k _ g H _ q (Mv.refl g H) r (.int _)⟩
  · exact q.elim
def rdMax2 : List PyData → (PyData → Prop) → Prop := fun ds P => match ds with
  | [.int i, .int j] => P (.int (max i j))
  | _ => False
def rdMin2 : List PyData → (PyData → Prop) → Prop := fun ds P => match ds with
  | [.int i, .int j] => P (.int (min i j))
  | _ => False
theorem cd_max2 {K : PySem.W.Frag} : CallD K (fun xs H Q => ∃ i j, xs = [V.int i, V.int j] ∧ Q (.int (if j > i then j else i)) H) rdMax2 := by
  intro E g env c σ H xs ds P Q r h q k
  unfold rdMax2 at q
  split at q
  · rename_i i j
    cases h with
    | cons h1 t =>
      cases t with
      | cons h2 t =>
        cases t
        rw [dp_int h1, dp_int h2]
        refine ⟨i, j, rfl, ?_⟩
        have e : (if j > i then j else i) = max i j := by
          split <;> omega
        rw [e]
        exact k _ g H _ q (Mv.refl g H) r (.int _)
  · exact q.elim
theorem cd_min2 {K : PySem.W.Frag} : CallD K (fun xs H Q => ∃ i j, xs = [V.int i, V.int j] ∧ Q (.int (if j < i then j else i)) H) rdMin2 := by
  intro E g env c σ H xs ds P Q r h q k
  unfold rdMin2 at q
  split at q
  · rename_i i j
    cases h with
    | cons h1 t =>
      cases t with
      | cons h2 t =>
        cases t
        rw [dp_int h1, dp_int h2]
        refine ⟨i, j, rfl, ?_⟩
        have e : (if j < i then j else i) = min i j := by
          split <;> omega
        rw [e]
        exact k _ g H _ q (Mv.refl g H) r (.int _)
  · exact q.elim
def rdInt1 : List PyData → (PyData → Prop) → Prop := fun ds P => match ds with
  | [.int i] => P (.int i)
  | [.bool b] => P (.int (if b then 1 else 0))
  | _ => False
theorem cd_int1 {K : PySem.W.Frag} : CallD K (fun xs H Q => (∃ i, xs = [V.int i] ∧ Q (.int i) H) ∨ ∃ k, xs = [V.bl k] ∧ Q (.int (if k then 1 else 0)) H) rdInt1 := by
  intro E g env c σ H xs ds P Q r h q k
  unfold rdInt1 at q
  split at q
  · cases h with
    | cons h1 t =>
      cases t
      rw [dp_int h1]
      exact .inl ⟨_, rfl, k _ g H _ q (Mv.refl g H) r (.int _)⟩
  · cases h with
    | cons h1 t =>
      cases t
      rw [dp_bl h1]
      exact .inr ⟨_, rfl, k _ g H _ q (Mv.refl g H) r (.int _)⟩
  · exact q.elim

/-! ### repr -/
theorem keys_reads {h : Heap} {P : Program} {w : World} : ∀ {es : List DictEntry} {kvs : List (Key × V)} {vs : List (Key × Value)}, Pairs (mixKind P w) es vs → KV kvs vs →
    (∃ as, ReadsAll h (es.map (·.key)) (kvs.map fun kv => keyD kv.1) as) ∧ Vals (kvs.map (·.2)) (es.map (·.val))
  | [], _, _, p, k => by
    cases p
    cases k
    exact ⟨⟨[], .nil⟩, .nil⟩
  | e :: es, _, _, p, k => by
    cases p with
    | cons h1 h2 h3 =>
      cases k with
      | @cons q r l1 l2 g1 g2 =>
        obtain ⟨⟨as, r1⟩, r2⟩ := keys_reads (h := h) h3 g2
        have hq : Reads h e.key (keyD q.1) [] := by
          rw [g1.1]
          rcases keyIs_shape h1 with ⟨i, t, e1, e2⟩ | ⟨x, t, e1, e2⟩
          · rw [e1, e2]
            exact .int i t
          · rw [e1, e2]
            exact .str x t
        refine ⟨⟨_, .cons hq r1⟩, .cons ?_ r2⟩
        show RelV q.2 e.val
        rw [h2]
        exact g1.2
theorem keys_nodict : ∀ (kvs : List (Key × V)), PyData.hasDictAll (kvs.map fun kv => keyD kv.1) = false
  | [] => rfl
  | (.inl _, _) :: r => by simpa [PyData.hasDictAll, keyD, PyData.hasDict] using keys_nodict r
  | (.inr _, _) :: r => by simpa [PyData.hasDictAll, keyD, PyData.hasDict] using keys_nodict r
mutual
/-- data with dicts, as repr sees it -/
theorem dp_shown {pins : List (Addr × Obj)} {s : Shared} {σ : L2.St} {H : Hp} (I : Inv X pins σ H s) : ∀ {v : V} {d : PyData}, Dp X.K H v d → ∀ {u : Value}, RelV v u → d.showable = true → d.shown.length ≤ sizeLine →
    (∃ as, Reads s.heap u d as) ∧ ∃ bs, ReadAtMost s.heap d.depth bs ∧ ReprK X.prog X.w bs s.heap d.depth u d.shown
  | _, _, .non, _, r, hs, hz => by
    cases r
    exact ⟨⟨_, .none⟩, ReprK.of_reads .none hs (PyData.noDict_hsm rfl) hz⟩
  | _, _, .bl b, _, r, hs, hz => by
    cases r
    exact ⟨⟨_, .bool b⟩, ReprK.of_reads (.bool b) hs (PyData.noDict_hsm rfl) hz⟩
  | _, _, .int i, _, r, hs, hz => by
    obtain ⟨t, rfl⟩ := r
    exact ⟨⟨_, .int i t⟩, ReprK.of_reads (.int i t) hs (PyData.noDict_hsm rfl) hz⟩
  | _, _, .str x, _, r, hs, hz => by
    obtain ⟨t, rfl⟩ := r
    exact ⟨⟨_, .str x t⟩, ReprK.of_reads (.str x t) hs (PyData.noDict_hsm rfl) hz⟩
  | _, _, .lst (a := a) (ds := xs) sq al, _, r, hs, hz => by
    cases r
    obtain ⟨its, rv, ⟨o, n, h1, h2, _, h3⟩, _⟩ := I.list sq
    have hz' : (listText (PyData.shownAll xs)).length ≤ sizeLine := by simpa only [PyData.shown] using hz
    obtain ⟨⟨as, h4⟩, bs, hb, hk⟩ := dpAll_shown I al rv (by simpa [PyData.showable] using hs) (fun t ht => Nat.le_trans (listText_mem_le ht) hz')
    have r : Reads s.heap (.ref a) (.list xs) _ := .list h1 h2 h3 h4
    have hna : a ∉ bs := not_mem_of_deeper r (by simp only [PyData.depth]; omega) hb
    refine ⟨⟨_, r⟩, a :: bs, ReadAtMost.cons r (by simp only [PyData.depth]; omega) hb, ?_⟩
    simp only [PyData.depth, PyData.shown]
    cases its with
    | nil =>
      cases h4
      simp only [PyData.shownAll, listText_nil]
      exact ReprK.listEmpty h1 h2 h3
    | cons x l => exact ReprK.list h1 h2 h3 hna (by simpa using hk.length_eq) (fun i y e => hk.item i y (by simpa using e))
  | _, _, .tup (a := a) (ds := xs) sq al, _, r, hs, hz => by
    cases r
    obtain ⟨its, rv, ⟨o, h1, h2, n, h3⟩, _⟩ := I.tuple sq
    have hz' : (tupleText (PyData.shownAll xs)).length ≤ sizeLine := by simpa only [PyData.shown] using hz
    obtain ⟨⟨as, h4⟩, bs, hb, hk⟩ := dpAll_shown I al rv (by simpa [PyData.showable] using hs) (fun t ht => Nat.le_trans (tupleText_mem_le ht) hz')
    have r : Reads s.heap (.ref a) (.tuple xs) _ := .tuple h1 h2 h3 h4
    have hna : a ∉ bs := not_mem_of_deeper r (by simp only [PyData.depth]; omega) hb
    refine ⟨⟨_, r⟩, a :: bs, ReadAtMost.cons r (by simp only [PyData.depth]; omega) hb, ?_⟩
    simp only [PyData.depth, PyData.shown]
    exact ReprK.tuple h1 h2 h3 hna hk
  | _, _, .dct (a := a) (kvs := kvs) (ds := ds) e al, _, r, hs, hz => by
    cases r
    obtain ⟨_, hsys, vs, kv, o, es, ep, h1, h2, h3, _, pr, _⟩ := (show ObjOk X.prog X.w H s.heap a (.dK kvs) from I.hok a _ e)
    obtain ⟨⟨as₁, q4⟩, rv⟩ := keys_reads (h := s.heap) pr kv
    have hl : kvs.length = ds.length := by simpa using al.len
    have e1 : ((kvs.map fun kv => keyD kv.1).zip ds).map (·.1) = kvs.map fun kv => keyD kv.1 := List.map_fst_zip (by simp [hl])
    have e2 : ((kvs.map fun kv => keyD kv.1).zip ds).map (·.2) = ds := List.map_snd_zip (by simp [hl])
    generalize hg : (kvs.map fun kv => keyD kv.1).zip ds = KS at *
    have hz' : (dictText (PyData.shownKv KS)).length ≤ sizeLine := by simpa only [PyData.shown] using hz
    obtain ⟨hs1, hs2⟩ := PyData.showableKv_split KS (by simpa [PyData.showable] using hs)
    rw [← e1] at q4
    obtain ⟨b1, hb1, k1⟩ := ReprAllK.of_readsAll (prog := X.prog) (w := X.w) q4 hs1 (fun hx => by rw [e1, keys_nodict] at hx; cases hx) (fun t ht => let ⟨p, hp, hl⟩ := PyData.shownKv_key_le KS t ht; Nat.le_trans hl (Nat.le_trans (dictText_mem_le hp) hz'))
    obtain ⟨⟨bs₁, q5⟩, b2, hb2, k2⟩ := dpAll_shown I al rv (by rw [← e2]; exact hs2) (fun t ht => let ⟨p, hp, hl⟩ := PyData.shownKv_val_le KS t (by rw [e2]; exact ht); Nat.le_trans hl (Nat.le_trans (dictText_mem_le hp) hz'))
    rw [← e2] at q5 hb2 k2
    have r : Reads s.heap (.ref a) (.dict KS) _ := .dict h1 h2.1 h3 q4 q5
    have hb : ReadAtMost s.heap (PyData.depthKv KS) (b1 ++ b2) := (hb1.mono (PyData.depthAll_keys_le KS)).append (hb2.mono (PyData.depthAll_vals_le KS))
    have hna : a ∉ b1 ++ b2 := not_mem_of_deeper r (by simp only [PyData.depth]; omega) hb
    refine ⟨⟨_, r⟩, a :: (b1 ++ b2), ReadAtMost.cons r (by simp only [PyData.depth]; omega) hb, ?_⟩
    simp only [PyData.depth, PyData.shown, PyData.shownKv_eq]
    exact ReprK.dict h1 h2.1 h3 hsys hna (ReprEntriesK.of_two es.toList _ _
      (k1.more_le (fun b hb => List.mem_append_left _ hb) (PyData.depthAll_keys_le KS)) (k2.more_le (fun b hb => List.mem_append_right _ hb) (PyData.depthAll_vals_le KS)))
theorem dpAll_shown {pins : List (Addr × Obj)} {s : Shared} {σ : L2.St} {H : Hp} (I : Inv X pins σ H s) : ∀ {vs : List V} {ds : List PyData}, DpAll X.K H vs ds → ∀ {us : List Value}, Vals vs us → PyData.showableAll ds = true → (∀ t ∈ PyData.shownAll ds, t.length ≤ sizeLine) →
    (∃ as, ReadsAll s.heap us ds as) ∧ ∃ bs, ReadAtMost s.heap (PyData.depthAll ds) bs ∧ ReprAllK X.prog X.w bs s.heap (PyData.depthAll ds) us (PyData.shownAll ds)
  | _, _, .nil, _, r, _, _ => by
    cases r
    exact ⟨⟨_, .nil⟩, [], (fun _ h => nomatch h), by simp only [PyData.shownAll]; exact .nil⟩
  | _, _, .cons (d := d) (ds := ds) h t, _, r, hs, hz => by
    cases r with
    | cons r1 r2 =>
      have hs' : d.showable = true ∧ PyData.showableAll ds = true := by simpa [PyData.showableAll] using hs
      obtain ⟨⟨as, q1⟩, b1, hb1, k1⟩ := dp_shown I h r1 hs'.1 (hz _ (by simp only [PyData.shownAll]; exact List.mem_cons_self ..))
      obtain ⟨⟨cs, q2⟩, b2, hb2, k2⟩ := dpAll_shown I t r2 hs'.2 (fun t ht => hz t (by simp only [PyData.shownAll]; exact List.mem_cons_of_mem _ ht))
      refine ⟨⟨_, .cons q1 q2⟩, b1 ++ b2, ?_, ?_⟩
      · intro b hm
        simp only [PyData.depthAll]
        rcases List.mem_append.mp hm with hm | hm
        · obtain ⟨d', as', r', hd'⟩ := hb1 b hm
          exact ⟨d', as', r', Nat.le_trans hd' (Nat.le_max_left _ _)⟩
        · obtain ⟨d', as', r', hd'⟩ := hb2 b hm
          exact ⟨d', as', r', Nat.le_trans hd' (Nat.le_max_right _ _)⟩
      · simp only [PyData.depthAll, PyData.shownAll]
        exact .cons ((k1.more fun b hb => List.mem_append_left _ hb).level_le (Nat.le_max_left _ _)) (k2.more_le (fun b hb => List.mem_append_right _ hb) (Nat.le_max_right _ _))
end
def rRepr (K : PySem.W.Frag) : List V → Hp → VK → Prop := fun xs H Q => ∃ v d, xs = [v] ∧ Dp K H v d ∧ d.showable = true ∧ d.depth ≤ 60 ∧ d.shown.length ≤ sizeLine ∧ Q (.str d.shown) H
theorem cr_repr (hg : X.A.guards = some []) (hu : X.A.units + 64 < cLine) : CallR X (.builtin "repr") (rRepr X.K) := by
  intro pins s σ H xs us Q I r h
  obtain ⟨v, d, rfl, hd, h1, h2, h3, q⟩ := h
  obtain ⟨u, rfl, ru⟩ := vals1 r
  cases hd with
  | non =>
    cases ru
    exact PySem.P.repr_of_none ⟨.str _, H, I.tok _, ⟨_, rfl⟩, q⟩
  | bl b =>
    cases ru
    exact PySem.P.repr_of_bool ⟨.str _, H, I.tok _, ⟨_, rfl⟩, by cases b <;> exact q⟩
  | int i =>
    obtain ⟨t, rfl⟩ := ru
    exact PySem.P.repr_of_int (of_decide_eq_true h1) ⟨.str _, H, I.tok _, ⟨_, rfl⟩, q⟩
  | str x =>
    obtain ⟨t, rfl⟩ := ru
    exact PySem.P.repr_of_str ⟨.str _, H, I.tok _, ⟨_, rfl⟩, q⟩ h3
  | lst hs ha =>
    rename_i a vs xs
    cases ru
    obtain ⟨its, rv, ⟨o, n, g1, g2, _, g3⟩, _⟩ := I.list hs
    have hz' : (listText (PyData.shownAll xs)).length ≤ sizeLine := by simpa only [PyData.shown] using h3
    obtain ⟨⟨as, g4⟩, bs, hb, hk⟩ := dpAll_shown I ha rv (by simpa [PyData.showable] using h1) (fun t ht => Nat.le_trans (listText_mem_le ht) hz')
    have hna : a ∉ bs := not_mem_of_deeper (.list g1 g2 g3 g4) (by simp only [PyData.depth]; omega) hb
    have hq : ∀ h' u tk, (∀ b o, s.heap.get? b = some o → h'.get? b = some o) → ∃ x t, Value.str (listText (PyData.shownAll xs)) u = .str x t ∧ ∃ y H1, Inv X pins σ H1 { s with heap := h', toks := tk } ∧ RelV y (Value.str (listText (PyData.shownAll xs)) u) ∧ Q y H1 := fun h' u tk hk => ⟨_, _, rfl, .str _, H, I.kept hk, ⟨_, rfl⟩, by simpa only [PyData.shown] using q⟩
    refine call_repr_slot (by omega) ⟨o, g1, g2⟩ PySem.F.slot_list_repr.toG ?_
    cases its with
    | nil =>
      cases g4
      simp only [PyData.shownAll, listText_nil] at hq
      exact call_list_repr_empty ⟨o, g1, g2⟩ g1 g3 (hq s.heap _ _ fun _ _ e => e)
    | cons x l =>
      simp only [PyData.depth] at h2
      exact call_list_reprK g1 g2 g3 hna (by simpa using hk.length_eq) (fun i y e => hk.item i y (by simpa using e)) hg (fun b _ => Clear.nil b) (by show X.A.units + 1 + _ < cLine; omega) (fun _ _ e => e) hq hz'
  | tup hs ha =>
    rename_i a vs xs
    cases ru
    obtain ⟨its, rv, ⟨o, g1, g2, n, g3⟩, _⟩ := I.tuple hs
    have hz' : (tupleText (PyData.shownAll xs)).length ≤ sizeLine := by simpa only [PyData.shown] using h3
    obtain ⟨⟨as, g4⟩, bs, hb, hk⟩ := dpAll_shown I ha rv (by simpa [PyData.showable] using h1) (fun t ht => Nat.le_trans (tupleText_mem_le ht) hz')
    have hna : a ∉ bs := not_mem_of_deeper (.tuple g1 g2 g3 g4) (by simp only [PyData.depth]; omega) hb
    have hq : ∀ h' u tk, (∀ b o, s.heap.get? b = some o → h'.get? b = some o) → ∃ x t, Value.str (tupleText (PyData.shownAll xs)) u = .str x t ∧ ∃ y H1, Inv X pins σ H1 { s with heap := h', toks := tk } ∧ RelV y (Value.str (tupleText (PyData.shownAll xs)) u) ∧ Q y H1 := fun h' u tk hk => ⟨_, _, rfl, .str _, H, I.kept hk, ⟨_, rfl⟩, by simpa only [PyData.shown] using q⟩
    refine call_repr_slot (by omega) ⟨o, g1, g2⟩ PySem.F.slot_tuple_repr ?_
    simp only [PyData.depth] at h2
    exact call_tuple_reprK g1 g2 g3 hna hk hg (fun b _ => Clear.nil b) (by show X.A.units + 1 + _ < cLine; omega) (fun _ _ e => e) hq hz'
  | dct hs ha =>
    rename_i a kvs ds
    cases ru
    obtain ⟨_, hsys, vs, kv, o, es, ep, g1, g2, g3, _, pr, _⟩ := (show ObjOk X.prog X.w H s.heap a (.dK kvs) from I.hok a _ hs)
    obtain ⟨⟨as₁, q4⟩, rv⟩ := keys_reads (h := s.heap) pr kv
    have hl : kvs.length = ds.length := by simpa using ha.len
    have e1 : ((kvs.map fun kv => keyD kv.1).zip ds).map (·.1) = kvs.map fun kv => keyD kv.1 := List.map_fst_zip (by simp [hl])
    have e2 : ((kvs.map fun kv => keyD kv.1).zip ds).map (·.2) = ds := List.map_snd_zip (by simp [hl])
    generalize hgen : (kvs.map fun kv => keyD kv.1).zip ds = KS at *
    have hz' : (dictText (PyData.shownKv KS)).length ≤ sizeLine := by simpa only [PyData.shown] using h3
    obtain ⟨hs1, hs2⟩ := PyData.showableKv_split KS (by simpa [PyData.showable] using h1)
    rw [← e1] at q4
    obtain ⟨b1, hb1, k1⟩ := ReprAllK.of_readsAll (prog := X.prog) (w := X.w) q4 hs1 (fun hx => by rw [e1, keys_nodict] at hx; cases hx) (fun t ht => let ⟨p, hp, hl⟩ := PyData.shownKv_key_le KS t ht; Nat.le_trans hl (Nat.le_trans (dictText_mem_le hp) hz'))
    obtain ⟨⟨bs₁, q5⟩, b2, hb2, k2⟩ := dpAll_shown I ha rv (by rw [← e2]; exact hs2) (fun t ht => let ⟨p, hp, hl⟩ := PyData.shownKv_val_le KS t (by rw [e2]; exact ht); Nat.le_trans hl (Nat.le_trans (dictText_mem_le hp) hz'))
    rw [← e2] at q5 hb2 k2
    have r : Reads s.heap (.ref a) (.dict KS) _ := .dict g1 g2.1 g3 q4 q5
    have hb : ReadAtMost s.heap (PyData.depthKv KS) (b1 ++ b2) := (hb1.mono (PyData.depthAll_keys_le KS)).append (hb2.mono (PyData.depthAll_vals_le KS))
    have hna : a ∉ b1 ++ b2 := not_mem_of_deeper r (by simp only [PyData.depth]; omega) hb
    refine call_repr_slot (by omega) ⟨o, g1, g2.1⟩ PySem.F.slot_dict_repr ?_
    simp only [PyData.depth] at h2
    simp only [PyData.shown, PyData.shownKv_eq] at q
    exact call_dict_reprK g1 g2.1 g3 hsys hna (ReprEntriesK.of_two es.toList _ _
      (k1.more_le (fun b hb => List.mem_append_left _ hb) (PyData.depthAll_keys_le KS)) (k2.more_le (fun b hb => List.mem_append_right _ hb) (PyData.depthAll_vals_le KS))) hg (fun b _ => Clear.nil b) (by show X.A.units + 1 + _ < cLine; omega) (fun _ _ e => e)
      (fun h' u tk hk => ⟨_, _, rfl, .str _, H, I.kept hk, ⟨_, rfl⟩, q⟩) (by rw [← PyData.shownKv_eq]; exact hz')
/-- what repr can show -/
def shows (d : PyData) : Prop := d.showable = true ∧ d.depth ≤ 60 ∧ d.shown.length ≤ sizeLine
def rdRepr : List PyData → (PyData → Prop) → Prop := fun ds P => match ds with
  | [d] => shows d ∧ P (.str d.shown)
  | _ => False
theorem cd_repr {K : PySem.W.Frag} : CallD K (rRepr K) rdRepr := by
  intro E g env c σ H xs ds P Q r h q k
  unfold rdRepr at q
  split at q
  · cases h with
    | cons h1 t =>
      cases t
      exact ⟨_, _, rfl, dpF r h1, q.1.1, q.1.2.1, q.1.2.2, k _ g H _ q.2 (Mv.refl g H) r (.str _)⟩
  · exact q.elim
end
end DL
namespace DL
open PySem PySem.Spec PyProof.Rows L2

/-! ### tests -/
def boolK (d : PyData) (k : Bool → Prop) : Prop := match d with
  | .bool b => k b
  | _ => False
def tVal (da : DE) : DT := fun env c P => da env c fun x c1 => datK x fun d => boolK d fun b => P b c1
def tNt (t : DT) : DT := fun env c P => t env c fun b c1 => P (!b) c1
def tAn (t u : DT) : DT := fun env c P => t env c fun b c1 => if b = true then u env c1 P else P false c1
def tOo (t u : DT) : DT := fun env c P => t env c fun b c1 => if b = true then P true c1 else u env c1 P
def dNt (da : DE) : DE := fun env c P => da env c fun x c1 => datK x fun d => boolK d fun b => P (.dat (.bool (!b))) c1
def dAn (da db : DE) : DE := fun env c P => da env c fun x c1 => datK x fun d => boolK d fun b => if b = true then db env c1 P else P (.dat (.bool false)) c1
def dOo (da db : DE) : DE := fun env c P => da env c fun x c1 => datK x fun d => boolK d fun b => if b = true then P (.dat (.bool true)) c1 else db env c1 P
def dIfE (t : DT) (da db : DE) : DE := fun env c P => t env c fun b c1 => if b = true then da env c1 P else db env c1 P
abbrev DPW (X : Cx) (E : En) (e : Expr) (dt : DT) : Prop := PW X e (upT X.K E dt)
section
variable {X : Cx} {E : En} {a b : Expr} {da db : DE} {ta tb : DT} {pos : Pos} {rest : List Expr}
theorem dt_val (h : DPE X E a da) (he : ∀ whole, isTrue a X.env whole = (do let v ← whole; standAt a.pos; holding [v] (truthy v)) := by intro _; rfl) : DPT X E a (tVal da) := by
  refine pt_imp (pt_val h he) fun σ H Q h => ?_
  obtain ⟨g, env, c, P, rel, q, k⟩ := h
  refine ⟨g, env, c, _, rel, q, fun x c1 g1 H1 v p1 m1 r1 o1 f1 => ?_⟩
  cases x with
  | deck => exact p1.elim
  | exc _ => exact p1.elim
  | own l => exact p1.elim
  | dat d =>
    cases d <;> try exact p1.elim
    exact ⟨_, dp_bl o1, k _ _ g1 H1 p1 m1 r1⟩
theorem dt_not (h : DPT X E a ta) : DPT X E (.UnaryOp .Not a pos) (tNt ta) := by
  refine pt_imp (pt_not h) fun σ H Q h => ?_
  obtain ⟨g, env, c, P, rel, q, k⟩ := h
  exact ⟨g, env, c, _, rel, q, fun x c1 g1 H1 p1 m1 r1 => k _ _ g1 H1 p1 m1 r1⟩
theorem dw_and1 (h : DPT X E a ta) : DPW X E (.BoolOp .And [a] pos) ta := pw_and1 h
theorem dw_or1 (h : DPT X E a ta) : DPW X E (.BoolOp .Or [a] pos) ta := pw_or1 h
theorem dw_and (h : DPT X E a ta) (h2 : DPW X E (.BoolOp .And (b :: rest) pos) tb) : DPW X E (.BoolOp .And (a :: b :: rest) pos) (tAn ta tb) := by
  refine pw_imp (pw_and h h2) fun σ H Q h => ?_
  obtain ⟨g, env, c, P, rel, q, k⟩ := h
  refine ⟨g, env, c, _, rel, q, fun x c1 g1 H1 p1 m1 r1 => ?_⟩
  cases x with
  | true => exact iteT ⟨g1, env, c1, _, r1, p1, fun y c2 g2 H2 p2 m2 r2 => k _ _ g2 H2 p2 (m1.trans m2) r2⟩
  | false => exact iteF (k _ _ g1 H1 p1 m1 r1)
theorem dw_or (h : DPT X E a ta) (h2 : DPW X E (.BoolOp .Or (b :: rest) pos) tb) : DPW X E (.BoolOp .Or (a :: b :: rest) pos) (tOo ta tb) := by
  refine pw_imp (pw_or h h2) fun σ H Q h => ?_
  obtain ⟨g, env, c, P, rel, q, k⟩ := h
  refine ⟨g, env, c, _, rel, q, fun x c1 g1 H1 p1 m1 r1 => ?_⟩
  cases x with
  | true => exact iteT (k _ _ g1 H1 p1 m1 r1)
  | false => exact iteF ⟨g1, env, c1, _, r1, p1, fun y c2 g2 H2 p2 m2 r2 => k _ _ g2 H2 p2 (m1.trans m2) r2⟩
theorem dt_w (h : DPW X E a ta) : DPT X E a ta := PW.pt h
theorem de_not (h : DPE X E a da) : DPE X E (.UnaryOp .Not a pos) (dNt da) := by
  refine pe_imp (pe_not h) fun σ H Q h => ?_
  obtain ⟨g, env, c, P, rel, q, k⟩ := h
  refine ⟨g, env, c, _, rel, q, fun x c1 g1 H1 v p1 m1 r1 o1 f1 => ?_⟩
  cases x with
  | deck => exact p1.elim
  | exc _ => exact p1.elim
  | own l => exact p1.elim
  | dat d =>
    cases d <;> try exact p1.elim
    exact ⟨_, dp_bl o1, k _ _ g1 H1 _ p1 m1 r1 (.bl _) trivial⟩
theorem de_one {op} (h : DPE X E a da) : DPE X E (.BoolOp op [a] pos) da := pe_one h
theorem de_and (h : DPE X E a da) (h2 : DPE X E (.BoolOp .And (b :: rest) pos) db) : DPE X E (.BoolOp .And (a :: b :: rest) pos) (dAn da db) := by
  refine pe_imp (pe_and h h2) fun σ H Q h => ?_
  obtain ⟨g, env, c, P, rel, q, k⟩ := h
  refine ⟨g, env, c, _, rel, q, fun x c1 g1 H1 v p1 m1 r1 o1 f1 => ?_⟩
  cases x with
  | deck => exact p1.elim
  | exc _ => exact p1.elim
  | own l => exact p1.elim
  | dat d =>
    cases d <;> try exact p1.elim
    rename_i bb
    refine ⟨bb, dp_bl o1, ?_⟩
    cases bb with
    | true => exact iteT ⟨g1, env, c1, _, r1, p1, fun y c2 g2 H2 v2 p2 m2 r2 o2 f2 => k _ _ g2 H2 v2 p2 (m1.trans m2) r2 o2 f2⟩
    | false => exact iteF (k _ _ g1 H1 _ p1 m1 r1 (.bl _) trivial)
theorem de_or (h : DPE X E a da) (h2 : DPE X E (.BoolOp .Or (b :: rest) pos) db) : DPE X E (.BoolOp .Or (a :: b :: rest) pos) (dOo da db) := by
  refine pe_imp (pe_or h h2) fun σ H Q h => ?_
  obtain ⟨g, env, c, P, rel, q, k⟩ := h
  refine ⟨g, env, c, _, rel, q, fun x c1 g1 H1 v p1 m1 r1 o1 f1 => ?_⟩
  cases x with
  | deck => exact p1.elim
  | exc _ => exact p1.elim
  | own l => exact p1.elim
  | dat d =>
    cases d <;> try exact p1.elim
    rename_i bb
    refine ⟨bb, dp_bl o1, ?_⟩
    cases bb with
    | true => exact iteT (k _ _ g1 H1 _ p1 m1 r1 (.bl _) trivial)
    | false => exact iteF ⟨g1, env, c1, _, r1, p1, fun y c2 g2 H2 v2 p2 m2 r2 o2 f2 => k _ _ g2 H2 v2 p2 (m1.trans m2) r2 o2 f2⟩
theorem de_ifE {t : Expr} (ht : DPT X E t ta) (h : DPE X E a da) (h2 : DPE X E b db) : DPE X E (.IfExp t a b pos) (dIfE ta da db) := by
  refine pe_imp (pe_ifExp ht h h2) fun σ H Q h => ?_
  obtain ⟨g, env, c, P, rel, q, k⟩ := h
  refine ⟨g, env, c, _, rel, q, fun x c1 g1 H1 p1 m1 r1 => ?_⟩
  cases x with
  | true => exact iteT ⟨g1, env, c1, _, r1, p1, fun y c2 g2 H2 v2 p2 m2 r2 o2 f2 => k _ _ g2 H2 v2 p2 (m1.trans m2) r2 o2 f2⟩
  | false => exact iteF ⟨g1, env, c1, _, r1, p1, fun y c2 g2 H2 v2 p2 m2 r2 o2 f2 => k _ _ g2 H2 v2 p2 (m1.trans m2) r2 o2 f2⟩
end

/-! ### slots -/
theorem set_get {α : Type} {l : List (Option α)} {i j : Nat} {x y : α} (h : (l.set i (some x))[j]? = some (some y)) : (j = i ∧ i < l.length ∧ y = x) ∨ (j ≠ i ∧ l[j]? = some (some y)) := by
  by_cases e : j = i
  · subst e
    by_cases hl : j < l.length
    · rw [List.getElem?_set_self hl] at h
      exact .inl ⟨rfl, hl, (Option.some.inj (Option.some.inj h)).symm⟩
    · rw [List.getElem?_eq_none (by simpa using hl)] at h
      cases h
  · rw [List.getElem?_set_ne (Ne.symm e)] at h
    exact .inr ⟨e, h⟩
section
variable {K : PySem.W.Frag} {E : En} {g g' : Gh} {env env' : Ev} {c c' : Nat} {σ σ' : L2.St} {H H' : Hp}
theorem Rel.set (r : Rel K E g env c σ H) (i : Nat) {v : V} {x : Vl} (h : VOk K g H v x) (hf : free x) : Rel K E g (env.set i (some x)) c (σ.set i (some v)) H := by
  have notown : ∀ l, x ≠ .own l := fun l e => by
    subst e
    exact hf
  have key : ∀ (j : Nat) (l : List PyData), (env.set i (some x))[j]? = some (some (Vl.own l)) → j ≠ i ∧ env[j]? = some (some (Vl.own l)) := fun j l e => by
    rcases set_get e with ⟨_, _, e⟩ | e
    · exact absurd e.symm (notown l)
    · exact e
  refine ⟨r.mo, r.md, r.mt, r.dn, r.nf, r.fr, fun j l e a ea => ?_, r.ex, fun j y e => ?_, fun j k lj lk a ne e1 e2 e3 e4 => ?_, r.dk, by simpa using r.len⟩
  · obtain ⟨ne, e1⟩ := key j l e
    rw [List.getElem?_set_ne (Ne.symm ne)] at ea
    exact r.nw j l e1 a ea
  · rcases set_get e with ⟨rfl, hl, rfl⟩ | ⟨ne, e1⟩
    · exact ⟨v, by rw [List.getElem?_set_self (by rw [← r.len]; exact hl)], h⟩
    · obtain ⟨u, h1, h2⟩ := r.sl j y e1
      exact ⟨u, by rw [List.getElem?_set_ne (Ne.symm ne)]; exact h1, h2⟩
  · obtain ⟨n1, f1⟩ := key j lj e1
    obtain ⟨n2, f2⟩ := key k lk e2
    rw [List.getElem?_set_ne (Ne.symm n1)] at e3
    rw [List.getElem?_set_ne (Ne.symm n2)] at e4
    exact r.ap j k lj lk a ne f1 f2 e3 e4
/-- behind a block: the slots as they were -/
theorem Rel.back (r : Rel K E g env c σ H) (r' : Rel K E g' env' c' σ' H') (m : Mv g H g' H') : Rel K E g' env c' σ H' := by
  refine ⟨r'.mo, r'.md, r'.mt, r'.dn, r'.nf, r'.fr, r.nw, r'.ex, fun i x e => ?_, r.ap, r'.dk, r.len⟩
  obtain ⟨v, h1, h2⟩ := r.sl i x e
  refine ⟨v, h1, ?_⟩
  cases x with
  | dat d => exact dp_mono m.f h2
  | exc _ => exact h2
  | deck =>
    obtain ⟨p, q, e, z⟩ := h2
    exact ⟨p, q, by rw [m.d]; exact e, z⟩
  | own l =>
    obtain ⟨a, xs, rfl, h3, h4, h5, h6⟩ := h2
    refine ⟨a, xs, rfl, ?_, fun z => h4 (m.toMo.isDk z), m.fr a _ h5 h4, dpAll_mono m.f h6⟩
    cases q : g'.F a with
    | none => rfl
    | some o =>
      rcases m.nf a o q with w | w
      · rw [h3] at w
        cases w
      · rw [h5] at w
        cases w
def wipeE (env : Ev) : List Nat → Ev
  | [] => env
  | v :: vs => (wipeE env vs).set v none
theorem wipeE_len : ∀ vs : List Nat, (wipeE env vs).length = env.length
  | [] => rfl
  | v :: vs => by
    unfold wipeE
    rw [List.length_set, wipeE_len vs]
theorem wipeE_some {i : Nat} {x : Vl} : ∀ {vs : List Nat}, (wipeE env vs)[i]? = some (some x) → env[i]? = some (some x) ∧ i ∉ vs
  | [], h => ⟨h, by simp⟩
  | v :: vs, h => by
    unfold wipeE at h
    by_cases hi : v = i
    · subst hi
      by_cases hv : v < (wipeE env vs).length
      · rw [List.getElem?_set_self hv] at h; cases h
      · rw [List.getElem?_eq_none (by simpa using hv)] at h; cases h
    · rw [List.getElem?_set_ne hi] at h
      obtain ⟨h1, h2⟩ := wipeE_some h
      exact ⟨h1, by simp only [List.mem_cons, not_or]; exact ⟨fun e => hi e.symm, h2⟩⟩
theorem wipe_out {i : Nat} : ∀ {vs : List Nat}, i ∉ vs → (wipe σ vs)[i]? = σ[i]?
  | [], _ => rfl
  | v :: vs, h => by
    unfold wipe
    rw [List.getElem?_set_ne (fun e => h (by rw [e]; exact List.mem_cons_self)), wipe_out fun z => h (List.mem_cons_of_mem _ z)]
theorem wipe_in {i : Nat} : ∀ {vs : List Nat}, i ∈ vs → i < σ.length → (wipe σ vs)[i]? = some none
  | [], h, _ => by cases h
  | v :: vs, h, hl => by
    unfold wipe
    by_cases e : v = i
    · subst e
      rw [List.getElem?_set_self (by rw [wipe_length]; exact hl)]
    · rw [List.getElem?_set_ne e]
      exact wipe_in ((List.mem_cons.mp h).resolve_left fun z => e z.symm) hl
theorem Rel.wipe (r : Rel K E g env c σ H) (vs : List Nat) : Rel K E g (wipeE env vs) c (L2.wipe σ vs) H := by
  refine ⟨r.mo, r.md, r.mt, r.dn, r.nf, r.fr, fun i l e a ea => ?_, r.ex, fun i x e => ?_, fun i j li lj a ne e1 e2 e3 e4 => ?_, r.dk, by rw [wipeE_len, wipe_length]; exact r.len⟩
  · obtain ⟨e1, n1⟩ := wipeE_some e
    rw [wipe_out n1] at ea
    exact r.nw i l e1 a ea
  · obtain ⟨e1, n1⟩ := wipeE_some e
    rw [wipe_out n1]
    exact r.sl i x e1
  · obtain ⟨f1, n1⟩ := wipeE_some e1
    obtain ⟨f2, n2⟩ := wipeE_some e2
    rw [wipe_out n1] at e3
    rw [wipe_out n2] at e4
    exact r.ap i j li lj a ne f1 f2 e3 e4
theorem ag_wipe {ws vs : List Nat} (h : Ag ws (wipe σ vs) σ') (hs : ∀ i ∈ ws, i ∈ vs) : wipe σ' vs = wipe σ vs := by
  have hl : σ'.length = σ.length := by rw [h.1, wipe_length]
  apply List.ext_getElem?
  intro i
  by_cases hv : i ∈ vs
  · by_cases hi : i < σ.length
    · rw [wipe_in hv hi, wipe_in hv (by rw [hl]; exact hi)]
    · rw [List.getElem?_eq_none (by rw [wipe_length, hl]; omega), List.getElem?_eq_none (by rw [wipe_length]; omega)]
  · rw [wipe_out hv, h.2 i fun z => hv (hs i z)]
end

/-! ### targets -/
def gNm (i : Nat) : DG := fun x env k => k (env.set i (some x))
def gsNil : DGs := fun ds env k => match ds with
  | [] => k env
  | _ => False
def gsCons (t : DG) (u : DGs) : DGs := fun ds env k => match ds with
  | d :: r => t (.dat d) env fun env' => u r env' k
  | [] => False
def gTu (n : Nat) (u : DGs) : DG := fun x env k => datK x fun d => match d with
  | .tuple ds => ds.length = n ∧ u ds env k
  | _ => False
section
variable {X : Cx} {E : En} {pos : Pos}
theorem dg_name (i : Nat) {x : Str} (hN : X.N.Nodup) (hi : X.N[i]? = some x := by rfl) (hx : Loc X.env.scope x := by first | exact Or.inl rfl | exact Or.inr rfl) (hf : X.fn x = true ∨ X.env.scope.names.lookup x = some .local := by first | exact .inl rfl | exact .inr rfl | assumption) : DPG X E [i] (.Name x pos) (gNm i) := by
  refine pg_imp (pg_name hN hi hx hf) fun v σ H Q h => ?_
  obtain ⟨g, env, c, x, P, rel, o, f, q, k⟩ := h
  exact k _ g _ H q (Mv.refl g H) (rel.set i o f) ⟨by simp, fun j hj => List.getElem?_set_ne fun e => hj (by simp [e])⟩
theorem dgs_nil : DPGs X E [] [] gsNil := by
  refine ⟨fun pins s σ H vs us Q I r h => pgs_nil.run pins s σ H vs us Q I r ?_⟩
  obtain ⟨g, env, c, ds, P, rel, o, q, k⟩ := h
  cases ds with
  | cons d r => exact q.elim
  | nil =>
    cases o
    exact ⟨rfl, k _ g _ H q (Mv.refl g H) rel ⟨rfl, fun _ _ => rfl⟩⟩
theorem dgs_cons {e : Expr} {es : List Expr} {t : DG} {u : DGs} {ws vs : List Nat} (h1 : DPG X E ws e t) (h2 : DPGs X E vs es u)
    (h3 : (assignEach (e :: es) X.env).map (·.2) = assign e X.env :: (assignEach es X.env).map (·.2) := by rfl) : DPGs X E (ws ++ vs) (e :: es) (gsCons t u) := by
  refine ⟨fun pins s σ H vs' us Q I r h => (pgs_cons h1 h2 h3).run pins s σ H vs' us Q I r ?_⟩
  obtain ⟨g, env, c, ds, P, rel, o, q, k⟩ := h
  cases ds with
  | nil => exact q.elim
  | cons d rr =>
    cases o with
    | cons o1 o2 =>
      refine ⟨_, _, rfl, g, env, c, .dat d, _, rel, o1, trivial, q, fun env1 g1 σ1 H1 p1 m1 r1 a1 => ⟨g1, env1, c, rr, _, r1, dpAll_mono m1.f o2, p1, fun env2 g2 σ2 H2 p2 m2 r2 a2 => k _ g2 σ2 H2 p2 (m1.trans m2) r2 ⟨a2.1.trans a1.1, fun i hi => ?_⟩⟩⟩
      rw [List.mem_append, not_or] at hi
      rw [a2.2 i hi.2, a1.2 i hi.1]
theorem dg_tup {es : List Expr} {kk : Nat} {t : DGs} {n : Nat} {ws : List Nat} (h : DPGs X E ws es t) (hc : X.calm = true := by rfl)
    (hn : (assignEach es X.env).length = n := by rfl) (hst : (assignEach es X.env).findIdx? (·.1) = none := by rfl) : DPG X E ws (.Tuple es kk pos) (gTu n t) := by
  refine pg_imp (pg_tup hc h hn hst) fun v σ H Q h => ?_
  obtain ⟨g, env, c, x, P, rel, o, f, q, k⟩ := h
  cases x with
  | deck => exact q.elim
  | exc _ => exact q.elim
  | own l => exact f.elim
  | dat d =>
    cases d <;> try exact q.elim
    rename_i ds
    have o : Dp X.K g.F v (.tuple ds) := o
    cases o with
    | tup hs ha => exact ⟨_, _, rfl, seqT rel.ex hs, (DpAll.len ha).trans q.1, g, env, c, ds, _, rel, ha, q.2, k⟩
end
end DL
namespace DL
open PySem PySem.Spec PyProof.Rows L2
/-! ### comparisons as tests -/
section
variable {X : Cx} {E : En} {a b : Expr} {da db : DE} {pos : Pos}
theorem tB_up {K : PySem.W.Frag} {t : TE} (i : ∀ σ H Q, up K E da σ H Q → t σ H Q) {σ : L2.St} {H : Hp} {Q : Bool → Hp → Prop} (h : upT K E (tVal da) σ H Q) : tB t σ H Q := by
  obtain ⟨g, env, c, P, rel, q, k⟩ := h
  refine i σ H _ ⟨g, env, c, _, rel, q, fun x c1 g1 H1 v p1 m1 r1 o1 f1 => ?_⟩
  cases x with
  | deck => exact p1.elim
  | exc _ => exact p1.elim
  | own l => exact p1.elim
  | dat d =>
    cases d <;> try exact p1.elim
    exact ⟨_, dp_bl o1, k _ _ g1 H1 p1 m1 r1⟩
theorem dt_cmp {op : CmpOp} {r : R2} {rd : PyData → PyData → (PyData → Prop) → Prop} (ho : OpR X (compareOp op) r) (hd : OpD X.K r rd) (ha : DPE X E a da) (hb : DPE X E b db) (hm : behindInMarks op b = false := by first | exact nobehind _ (by decide) (by decide) | rfl) :
    DPT X E (.Compare a [op] [b] pos) (tVal (dOp rd da db)) := pt_imp (pt_cmpR ho ha hb hm) fun _ _ _ h => tB_up (fun _ _ _ h => op_up hd h) h
theorem dt_lt (ha : DPE X E a da) (hb : DPE X E b db) : DPT X E (.Compare a [.Lt] [b] pos) (tVal (dOp rdLt da db)) := dt_cmp op_lt (opd_I0 fun _ _ _ _ => .bl _) ha hb
theorem dt_le (ha : DPE X E a da) (hb : DPE X E b db) : DPT X E (.Compare a [.LtE] [b] pos) (tVal (dOp rdLe da db)) := dt_cmp op_le (opd_I0 fun _ _ _ _ => .bl _) ha hb
theorem dt_gt (ha : DPE X E a da) (hb : DPE X E b db) : DPT X E (.Compare a [.Gt] [b] pos) (tVal (dOp rdGt da db)) := dt_cmp op_gt (opd_I0 fun _ _ _ _ => .bl _) ha hb
theorem dt_ge (ha : DPE X E a da) (hb : DPE X E b db) : DPT X E (.Compare a [.GtE] [b] pos) (tVal (dOp rdGe da db)) := dt_cmp op_ge (opd_I0 fun _ _ _ _ => .bl _) ha hb
theorem dt_eq {k : Nat} (hr : Room k X.A) (ha : DPE X E a da) (hb : DPE X E b db) : DPT X E (.Compare a [.Eq] [b] pos) (tVal (dOp rdEq da db)) := dt_cmp (op_or op_eq (op_eqD hr.units)) opd_eq ha hb
theorem dt_ne {k : Nat} (hr : Room k X.A) (ha : DPE X E a da) (hb : DPE X E b db) : DPT X E (.Compare a [.NotEq] [b] pos) (tVal (dOp rdNe da db)) := dt_cmp (op_or op_ne (op_neD hr.units)) opd_ne ha hb
theorem isN_up {K : PySem.W.Frag} {σ : L2.St} {H : Hp} {Q : VK} (h : up K E (dUn rdIsN da) σ H Q) : tIsN (up K E da) σ H Q := by
  obtain ⟨g, env, c, P, rel, q, k⟩ := h
  refine ⟨g, env, c, _, rel, q, fun x c1 g1 H1 v p1 m1 r1 o1 f1 => ?_⟩
  cases x with
  | deck => exact p1.elim
  | exc _ => exact p1.elim
  | own l => exact p1.elim
  | dat d =>
    rcases dp_isN o1 with ⟨rfl, rfl⟩ | ⟨n1, n2⟩
    · exact k _ _ g1 H1 (.bl (decide (V.non = .non))) p1 m1 r1 (.bl _) trivial
    · have p1' : P (.dat (.bool false)) c1 := by
        cases d <;> first | exact absurd rfl n1 | exact p1
      rw [decide_eq_false n2]
      exact k _ _ g1 H1 (.bl false) p1' m1 r1 (.bl _) trivial
theorem notN_up {K : PySem.W.Frag} {σ : L2.St} {H : Hp} {Q : VK} (h : up K E (dUn rdNotN da) σ H Q) : tNotN (up K E da) σ H Q := by
  obtain ⟨g, env, c, P, rel, q, k⟩ := h
  refine ⟨g, env, c, _, rel, q, fun x c1 g1 H1 v p1 m1 r1 o1 f1 => ?_⟩
  cases x with
  | deck => exact p1.elim
  | exc _ => exact p1.elim
  | own l => exact p1.elim
  | dat d =>
    rcases dp_isN o1 with ⟨rfl, rfl⟩ | ⟨n1, n2⟩
    · exact k _ _ g1 H1 (.bl (!decide (V.non = .non))) p1 m1 r1 (.bl _) trivial
    · have p1' : P (.dat (.bool true)) c1 := by
        cases d <;> first | exact absurd rfl n1 | exact p1
      rw [decide_eq_false n2]
      exact k _ _ g1 H1 (.bl true) p1' m1 r1 (.bl _) trivial
theorem dt_isN {j} {p2 : Pos} (ha : DPE X E a da) : DPT X E (.Compare a [.Is] [.Constant .none j p2] pos) (tVal (dUn rdIsN da)) := pt_imp (pt_cmp (pc_isN ha) rfl) fun _ _ _ h => tB_up (fun _ _ _ h => isN_up h) h
theorem dt_notN {j} {p2 : Pos} (ha : DPE X E a da) : DPT X E (.Compare a [.IsNot] [.Constant .none j p2] pos) (tVal (dUn rdNotN da)) := pt_imp (pt_cmp (pc_notN ha) rfl) fun _ _ _ h => tB_up (fun _ _ _ h => notN_up h) h
end
end DL
namespace DL
open PySem PySem.Spec PyProof.Rows L2

/-! ### statements -/
def sNx : DS := fun D env c => D.nx env c
def sSeq (s t : DS) : DS := fun D env c => s { D with nx := t D } env c
def sRet (da : DE) : DS := fun D env c => da env c D.rt
def sRetN : DS := fun D _ c => D.rt (.dat .none) c
def sAsg (da : DE) (dg : DG) : DS := fun D env c => da env c fun x c1 => dg x env fun env' => D.nx env' c1
def sIf (t : DT) (s u : DS) : DS := fun D env c => t env c fun b c1 => if b = true then s D env c1 else u D env c1
def sDrop (da : DE) : DS := fun D env c => da env c fun _ c1 => D.nx env c1
def sBrk : DS := fun D env c => D.bk env c
def sCnt : DS := fun D env c => D.ct env c
section
variable {X : Cx} {E : En} {st : Stmt} {rest : List Stmt} {t u : DS} {a : Expr} {da : DE} {pos : Pos}
theorem ds_nil : DPSs X E [] sNx := by
  refine pss_imp pss_nil fun D σ H h => ?_
  obtain ⟨g, env, c, P, rel, q, k, _⟩ := h
  exact k _ _ g σ H q (Same.refl _) rel
theorem ds_pass : DPS X E (.Pass pos) sNx := by
  refine ps_imp ps_pass fun D σ H h => ?_
  obtain ⟨g, env, c, P, rel, q, k, _⟩ := h
  exact k _ _ g σ H q (Same.refl _) rel
theorem ds_brk : DPS X E (.Break pos) sBrk := by
  refine ps_imp ps_break fun D σ H h => ?_
  obtain ⟨g, env, c, P, rel, q, _, _, k, _⟩ := h
  exact k _ _ g σ H q (Same.refl _) rel
theorem ds_cnt : DPS X E (.Continue pos) sCnt := by
  refine ps_imp ps_continue fun D σ H h => ?_
  obtain ⟨g, env, c, P, rel, q, _, _, _, k⟩ := h
  exact k _ _ g σ H q (Same.refl _) rel
theorem ds_cons (h1 : DPS X E st t) (h2 : DPSs X E rest u) : DPSs X E (st :: rest) (sSeq t u) := by
  refine pss_imp (pss_cons h1 h2) fun D σ H h => ?_
  obtain ⟨g, env, c, P, rel, q, k1, k2, k3, k4⟩ := h
  refine ⟨g, env, c, _, rel, q, fun env1 c1 g1 σ1 H1 p1 m1 r1 => ⟨g1, env1, c1, P, r1, p1, fun env2 c2 g2 σ2 H2 p2 m2 r2 => k1 env2 c2 g2 σ2 H2 p2 (m1.trans m2) r2, fun x c2 env2 g2 σ2 H2 v p2 m2 r2 => k2 x c2 env2 g2 σ2 H2 v p2 (m1.trans m2) r2,
    fun env2 c2 g2 σ2 H2 p2 m2 r2 => k3 env2 c2 g2 σ2 H2 p2 (m1.trans m2) r2, fun env2 c2 g2 σ2 H2 p2 m2 r2 => k4 env2 c2 g2 σ2 H2 p2 (m1.trans m2) r2⟩, k2, k3, k4⟩
theorem ds_one (h1 : DPS X E st t) : DPSs X E [st] t := pss_one h1
theorem ds_ret (h : DPE X E a da) : DPS X E (.Return (some a) pos) (sRet da) := by
  refine ps_imp (ps_ret h) fun D σ H h => ?_
  obtain ⟨g, env, c, P, rel, q, _, k, _⟩ := h
  exact ⟨g, env, c, _, rel, q, fun x c1 g1 H1 v p1 m1 r1 o1 f1 => k x c1 env g1 σ H1 v p1 m1.f r1 o1 f1⟩
theorem ds_retN : DPS X E (.Return none pos) sRetN := by
  refine ps_imp ps_retN fun D σ H h => ?_
  obtain ⟨g, env, c, P, rel, q, _, k, _⟩ := h
  exact k _ c env g σ H .non q (Same.refl _) rel .non trivial
theorem asg_up {K : PySem.W.Frag} {ws : List Nat} {dg : DG} {D : Ends} {σ : L2.St} {H : Hp} (h : upS K E (sAsg da dg) D σ H) : tAsg (up K E da) (upG K E ws dg) D σ H := by
  obtain ⟨g, env, c, P, rel, q, k, _⟩ := h
  exact ⟨g, env, c, _, rel, q, fun x c1 g1 H1 v p1 m1 r1 o1 f1 => ⟨g1, env, c1, x, _, r1, o1, f1, p1, fun env2 g2 σ2 H2 p2 m2 r2 _ => k env2 c1 g2 σ2 H2 p2 (m1.f.trans m2.f) r2⟩⟩
theorem asgN_up {K : PySem.W.Frag} {i : Nat} {D : Ends} {σ : L2.St} {H : Hp} (h : upS K E (sAsg da (gNm i)) D σ H) : tAsg (up K E da) (gName i) D σ H := by
  obtain ⟨g, env, c, P, rel, q, k, _⟩ := h
  exact ⟨g, env, c, _, rel, q, fun x c1 g1 H1 v p1 m1 r1 o1 f1 => k _ c1 g1 _ H1 p1 m1.f (r1.set i o1 f1)⟩
/-- x = e -/
theorem ds_set (i : Nat) {x : Str} {p2 : Pos} (hN : X.N.Nodup) (h : DPE X E a da) (hi : X.N[i]? = some x := by rfl) (hx : Loc X.env.scope x := by first | exact Or.inl rfl | exact Or.inr rfl) (hs : swapsWith a (some (.Name x p2)) pos.line X.env = pure false := by rfl) (hf : X.fn x = true ∨ X.env.scope.names.lookup x = some .local := by first | exact .inl rfl | exact .inr rfl | assumption) :
    DPS X E (.Assign [.Name x p2] a pos) (sAsg da (gNm i)) := ps_imp (ps_set hN hi hx h hs hf) fun _ _ _ h => asgN_up h
/-- target = e -/
theorem ds_asg {tg : Expr} {ws : List Nat} {dg : DG} (h : DPE X E a da) (hg : DPG X E ws tg dg) (hs : swapsWithSole [tg] a pos.line X.env = pure false := by rfl) (hw : swappedStores [tg] a X.env = pure none := by rfl)
    (h1 : (assignEach [tg] X.env).map (·.2) = [assign tg X.env] := by rfl) : DPS X E (.Assign [tg] a pos) (sAsg da dg) := ps_imp (ps_asg h hg hs hw h1) fun _ _ _ h => asg_up h
theorem ds_if {tt : DT} {s1 s2 : List Stmt} (h : DPT X E a tt) (h1 : DPSs X E s1 t) (h2 : DPSs X E s2 u) : DPS X E (.If a s1 s2 pos) (sIf tt t u) := by
  refine ps_imp (ps_if h h1 h2) fun D σ H h => ?_
  obtain ⟨g, env, c, P, rel, q, k1, k2, k3, k4⟩ := h
  refine ⟨g, env, c, _, rel, q, fun b c1 g1 H1 p1 m1 r1 => ?_⟩
  have fin : ∀ {w : DS}, w P env c1 → upS X.K E w D σ H1 := fun {w} p => ⟨g1, env, c1, P, r1, p, fun env2 c2 g2 σ2 H2 p2 m2 r2 => k1 env2 c2 g2 σ2 H2 p2 (m1.f.trans m2) r2, fun x c2 env2 g2 σ2 H2 v p2 m2 r2 => k2 x c2 env2 g2 σ2 H2 v p2 (m1.f.trans m2) r2,
    fun env2 c2 g2 σ2 H2 p2 m2 r2 => k3 env2 c2 g2 σ2 H2 p2 (m1.f.trans m2) r2, fun env2 c2 g2 σ2 H2 p2 m2 r2 => k4 env2 c2 g2 σ2 H2 p2 (m1.f.trans m2) r2⟩
  cases b with
  | true => exact iteT (fin p1)
  | false => exact iteF (fin p1)
theorem ds_drop (h : DPE X E a da) (hs : swapsWith a none pos.line X.env = pure false := by rfl) : DPS X E (.Expr a pos) (sDrop da) := by
  refine ps_imp (ps_expr h hs) fun D σ H h => ?_
  obtain ⟨g, env, c, P, rel, q, k, _⟩ := h
  exact ⟨g, env, c, _, rel, q, fun x c1 g1 H1 v p1 m1 r1 o1 f1 => k _ c1 g1 _ H1 p1 m1.f r1⟩
/-- a, b = e1, e2 -/
def sPar (i j : Nat) (da : DA) : DS := fun D env c => da env c fun xs c1 => match xs with
  | [x, y] => D.nx ((env.set i (some x)).set j (some y)) c1
  | _ => False
theorem par_up {K : PySem.W.Frag} {i j : Nat} {dr : DA} {D : Ends} {σ : L2.St} {H : Hp} (h : upS K E (sPar i j dr) D σ H) : tPar i j (upA K E dr) D σ H := by
  obtain ⟨g, env, c, P, rel, q, k, _⟩ := h
  refine ⟨g, env, c, _, rel, q, fun xs c1 g1 H1 vs p1 m1 r1 o1 f1 => ?_⟩
  split at p1
  · rename_i x y
    match vs, o1 with
    | [v, w], o1 =>
      refine ⟨v, w, rfl, k _ c1 g1 _ H1 p1 m1.f ((r1.set i o1.1 (f1 x (by simp))).set j o1.2.1 (f1 y (by simp)))⟩
  · exact p1.elim
end

theorem ds_par {X : Cx} {E : En} (i j : Nat) {x y : Str} {a b : Expr} {dr : DA} {px py pt pos : Pos} {kt k2 pt2} (hN : X.N.Nodup) (ha : DPA X E [a, b] dr) (hij : i ≠ j := by decide) (hi : X.N[i]? = some x := by rfl) (hj : X.N[j]? = some y := by rfl)
    (hx : X.env.scope.names.lookup x = some .local := by rfl) (hy : X.env.scope.names.lookup y = some .local := by rfl) (hc : X.calm = true := by rfl)
    (hw : swappedStores [.Tuple [.Name x px, .Name y py] kt pt] (.Tuple [a, b] k2 pt2) X.env = pure (some [x, y]) := by rfl)
    (hs : swapsWithSole [.Tuple [.Name x px, .Name y py] kt pt] (.Tuple [a, b] k2 pt2) pos.line X.env = pure false := by rfl) : DPS X E (.Assign [.Tuple [.Name x px, .Name y py] kt pt] (.Tuple [a, b] k2 pt2) pos) (sPar i j dr) :=
  ps_imp (ps_par hc hN hi hj hij hx hy ha hw hs) fun _ _ _ h => par_up h

/-! ### what is walked -/
/-- the walk J gives the items, new pairs or what stands there -/
def WalkD (K : PySem.W.Frag) (g : Gh) (J : It) (items : List PyData) : Prop := ∃ G Y, Walk J items.length G Y ∧ (∀ (g' : Gh) (H' : Hp), Same g.F g'.F → Same g'.F H' → G H') ∧
  ∀ i H x H' d, items[i]? = some d → Y i H x H' → (H' = H ∧ Dp K g.F x d) ∨ ∃ T o, H T = none ∧ H' = upd H T o ∧ ∀ F, Same g.F F → F T = none → Dp K (upd F T o) x d
def upI (K : PySem.W.Frag) (E : En) (dw : DI) : TI := fun σ H R => ∃ g env c P, Rel K E g env c σ H ∧ dw env c P ∧
  ∀ items c' g' H' J, P items c' → Mv g H g' H' → Rel K E g' env c' σ H' → WalkD K g' J items → R J H'
abbrev DPI (X : Cx) (E : En) (tg e : Expr) (dw : DI) : Prop := PI X tg e (upI X.K E dw)
def wL (da : DE) : DI := fun env c P => da env c fun x c1 => datK x fun d => match d with
  | .list ds => P ds c1
  | _ => False
def wT (da : DE) : DI := fun env c P => da env c fun x c1 => datK x fun d => match d with
  | .tuple ds => P ds c1
  | _ => False
def rangeD (lo : Int) (n : Nat) : List PyData := (List.range n).map fun (k : Nat) => PyData.int (lo + k)
def wR1 (da : DA) : DI := fun env c P => da env c fun xs c1 => datsK xs fun ds => match ds with
  | [.int n] => -(2 ^ 62) ≤ n ∧ n < 2 ^ 62 ∧ P (rangeD 0 n.toNat) c1
  | _ => False
def wR2 (da : DA) : DI := fun env c P => da env c fun xs c1 => datsK xs fun ds => match ds with
  | [.int i, .int j] => (-(2 ^ 62) ≤ i ∧ i < 2 ^ 62 ∧ -(2 ^ 62) ≤ j ∧ j < 2 ^ 62) ∧ P (rangeD i (j - i).toNat) c1
  | _ => False
theorem rangeD_len (lo : Int) (n : Nat) : (rangeD lo n).length = n := by simp [rangeD]
theorem walkD_range {K : PySem.W.Frag} {g : Gh} {lo : Int} {n : Nat} : WalkD K g (Itr lo n) (rangeD lo n) := by
  refine ⟨_, _, by rw [rangeD_len]; exact walk_range, fun _ _ _ _ => trivial, fun i H x H' d e y => ?_⟩
  obtain ⟨rfl, rfl⟩ := y
  unfold rangeD at e
  rw [List.getElem?_map] at e
  by_cases hi : i < n
  · rw [List.getElem?_range hi] at e
    cases e
    exact .inl ⟨rfl, .int _⟩
  · rw [List.getElem?_eq_none (by simpa using hi)] at e
    cases e
section
variable {X : Cx} {E : En} {tg a b : Expr} {da db : DE} {dr : DA} {pos p : Pos}
theorem dw_list (h : DPE X E a da) : DPI X E tg a (wL da) := by
  refine pi_imp (pi_list h) fun σ H R h => ?_
  obtain ⟨g, env, c, P, rel, q, k⟩ := h
  refine ⟨g, env, c, _, rel, q, fun x c1 g1 H1 v p1 m1 r1 o1 f1 => ?_⟩
  cases x with
  | deck => exact p1.elim
  | exc _ => exact p1.elim
  | own l => exact p1.elim
  | dat d =>
    cases d <;> try exact p1.elim
    rename_i ds
    have o1 : Dp X.K g1.F v (.list ds) := o1
    cases o1 with
    | lst hs ha =>
      refine ⟨_, rfl, ⟨_, r1.ex.seq hs⟩, k _ c1 g1 H1 _ p1 m1 r1 ⟨_, _, by rw [← DpAll.len ha]; exact walk_list, fun g' H' m e => e.seq (m.seq hs), fun i H2 x2 H3 d2 e y => ?_⟩⟩
      obtain ⟨rfl, hx⟩ := y
      obtain ⟨d3, e3, h3⟩ := DpAll.getV ha hx
      rw [e] at e3
      cases e3
      exact .inl ⟨rfl, h3⟩
theorem dw_tup (h : DPE X E a da) : DPI X E tg a (wT da) := by
  refine pi_imp (pi_tup h) fun σ H R h => ?_
  obtain ⟨g, env, c, P, rel, q, k⟩ := h
  refine ⟨g, env, c, _, rel, q, fun x c1 g1 H1 v p1 m1 r1 o1 f1 => ?_⟩
  cases x with
  | deck => exact p1.elim
  | exc _ => exact p1.elim
  | own l => exact p1.elim
  | dat d =>
    cases d <;> try exact p1.elim
    rename_i ds
    have o1 : Dp X.K g1.F v (.tuple ds) := o1
    cases o1 with
    | tup hs ha =>
      refine ⟨_, rfl, ⟨_, seqT r1.ex hs⟩, k _ c1 g1 H1 _ p1 m1 r1 ⟨_, _, by rw [← DpAll.len ha]; exact walk_tup, fun g' H' m e => seqT e (seqT m hs), fun i H2 x2 H3 d2 e y => ?_⟩⟩
      obtain ⟨rfl, hx⟩ := y
      obtain ⟨d3, e3, h3⟩ := DpAll.getV ha hx
      rw [e] at e3
      cases e3
      exact .inl ⟨rfl, h3⟩
theorem dw_r1 (ha : DPA X E [a] dr) (hm : X.mg "range" = none) (hg : Gl X "range" := by rfl) (hs : starEach [a] X.env = [(false, eval a X.env)] := by rfl) : DPI X E tg (.Call (.Name "range" p) [a] [] pos) (wR1 dr) := by
  refine pi_imp (pi_range1 hg hm ha hs) fun σ H R h => ?_
  obtain ⟨g, env, c, P, rel, q, k⟩ := h
  refine ⟨g, env, c, _, rel, q, fun xs c1 g1 H1 vs p1 m1 r1 o1 f1 => ?_⟩
  obtain ⟨ds, h1, h2⟩ := datsK_all o1 p1
  split at h1
  · cases h2 with
    | cons h3 t =>
      cases t
      exact ⟨_, by rw [dp_int h3], h1.1, h1.2.1, k _ c1 g1 H1 _ h1.2.2 m1 r1 walkD_range⟩
  · exact h1.elim
theorem dw_r2 (ha : DPA X E [a, b] dr) (hm : X.mg "range" = none) (hg : Gl X "range" := by rfl) (hs : starEach [a, b] X.env = [(false, eval a X.env), (false, eval b X.env)] := by rfl) (hs2 : starEach [b] X.env = [(false, eval b X.env)] := by rfl) : DPI X E tg (.Call (.Name "range" p) [a, b] [] pos) (wR2 dr) := by
  refine pi_imp (pi_range2 hg hm ha hs hs2) fun σ H R h => ?_
  obtain ⟨g, env, c, P, rel, q, k⟩ := h
  refine ⟨g, env, c, _, rel, q, fun xs c1 g1 H1 vs p1 m1 r1 o1 f1 => ?_⟩
  obtain ⟨ds, h1, h2⟩ := datsK_all o1 p1
  split at h1
  · cases h2 with
    | cons h3 t =>
      cases t with
      | cons h4 t =>
        cases t
        exact ⟨_, _, by rw [dp_int h3, dp_int h4], h1.1, k _ c1 g1 H1 _ h1.2 m1 r1 walkD_range⟩
  · exact h1.elim
end

/-! ### for -/
def forL (dg : DG) (db : DS) (D : DEnds) : List PyData → Ev → Nat → Prop
  | [], env, c => D.nx env c
  | d :: ds, env, c => dg (.dat d) env fun env' => db { nx := forL dg db D ds, ct := forL dg db D ds, bk := D.nx, rt := D.rt } env' c
def sFor (dw : DI) (dg : DG) (db : DS) : DS := fun D env c => dw env c fun items c1 => forL dg db D items env c1
section
variable {X : Cx} {E : En} {tg a : Expr} {pos : Pos}
theorem drop_cons {α : Type} {l : List α} {i : Nat} (h : i < l.length) : l.drop i = l[i] :: l.drop (i + 1) := (List.drop_eq_getElem_cons h)
theorem ds_for {dw : DI} {ws : List Nat} {dg : DG} {db : DS} {body : List Stmt} (hi : DPI X E tg a dw) (hg : DPG X E ws tg dg) (hb : DPSs X E body db) (hp : PassesOwn (model X.prog X.w) X.A X.env X.xe := by exact PassesOwn.never) (hc : X.calm = true := by rfl)
    (hs : ∀ x, foldedSetIterable a X.env x = pure x := by intro _; rfl) : DPS X E (.For tg a body [] pos) (sFor dw dg db) := by
  refine ps_imp (ps_for hp hc hi hg hb hs) fun D σ H h => ?_
  obtain ⟨g, env, c, P, rel, q, k1, k2, k3, k4⟩ := h
  refine ⟨g, env, c, _, rel, q, fun items c1 g1 H1 J p1 m1 r1 wk => ?_⟩
  obtain ⟨G, Y, W, hG, hY⟩ := wk
  refine for_it W (fun i σ' H' => ∃ g' env' c', Same g1.F g'.F ∧ Rel X.K E g' env' c' σ' H' ∧ forL dg db P (items.drop i) env' c') ⟨g1, env, c1, Same.refl _, r1, p1⟩ (fun i σ' H' _ ⟨g', env', c', m, r, _⟩ => hG g' H' m r.ex) (fun i x σ' H' H2 hi hP y => ?_) (fun σ' H' hP => ?_)
  · obtain ⟨g', env', c', m, r, hf⟩ := hP
    rw [drop_cons hi] at hf
    have hd : items[i]? = some items[i] := List.getElem?_eq_getElem hi
    have step : ∃ g2, Mv g' H' g2 H2 ∧ Rel X.K E g2 env' c' σ' H2 ∧ Dp X.K g2.F x items[i] := by
      rcases hY i H' x H2 _ hd y with ⟨rfl, h1⟩ | ⟨T, o, hT, rfl, h1⟩
      · exact ⟨g', Mv.refl g' _, r, dp_mono m h1⟩
      · obtain ⟨r2, m2⟩ := r.new o hT
        exact ⟨_, m2, r2, h1 g'.F m (r.ex.free hT)⟩
    obtain ⟨g2, m2, r2, d2⟩ := step
    refine ⟨g2, env', c', .dat items[i], _, r2, d2, trivial, hf, fun env3 g3 σ3 H3 p3 m3 r3 _ => ⟨g3, env3, c', _, r3, p3, fun env4 c4 g4 σ4 H4 p4 m4 r4 => ?_, fun x4 c4 env4 g4 σ4 H4 v4 p4 m4 r4 => ?_, fun env4 c4 g4 σ4 H4 p4 m4 r4 => ?_, fun env4 c4 g4 σ4 H4 p4 m4 r4 => ?_⟩⟩
    · exact ⟨g4, env4, c4, (m.trans m2.f).trans (m3.f.trans m4), r4, p4⟩
    · exact k2 x4 c4 env4 g4 σ4 H4 v4 p4 (m1.f.trans ((m.trans m2.f).trans (m3.f.trans m4))) r4
    · exact k1 env4 c4 g4 σ4 H4 p4 (m1.f.trans ((m.trans m2.f).trans (m3.f.trans m4))) r4
    · exact ⟨g4, env4, c4, (m.trans m2.f).trans (m3.f.trans m4), r4, p4⟩
  · obtain ⟨g', env', c', m, r, hf⟩ := hP
    rw [List.drop_eq_nil_of_le (Nat.le_refl _)] at hf
    exact k1 env' c' g' σ' H' hf (m1.f.trans m) r
end

/-! ### [e for target in iter if t] -/
def lcL (dg : DG) (dt : DT) (de : DE) (env : Ev) : List PyData → List PyData → Nat → (List PyData → Nat → Prop) → Prop
  | [], acc, c, k => k acc c
  | d :: ds, acc, c, k => dg (.dat d) env fun env' => dt env' c fun b c1 => if b = true then de env' c1 fun x c2 => datK x fun z => lcL dg dt de env ds (acc ++ [z]) c2 k else lcL dg dt de env ds acc c1 k
def dLc (dw : DI) (dg : DG) (dt : DT) (de : DE) (vs : List Nat) : DE := fun env c P => dw env c fun items c1 => items.length < sizeLine ∧ lcL dg dt de (wipeE env vs) items [] c1 fun out c2 => P (.dat (.list out)) c2
def tOn : DT := fun _ c P => P true c
abbrev DPTs (X : Cx) (E : En) (e : List Expr) (dt : DT) : Prop := PTs X e (upT X.K E dt)
/-! ### a list that nobody knows yet -/
abbrev DF := Ev → Nat → (List PyData → Nat → Prop) → Prop
/-- a value that is a new list, known to nobody -/
def upF (K : PySem.W.Frag) (E : En) (dt : DF) : TE := fun σ H Q => ∃ g env c P, Rel K E g env c σ H ∧ dt env c P ∧
  ∀ l c' g' H' p xs, P l c' → Mv g H g' H' → Rel K E g' env c' σ H' → H p = none → H' p = some (.lst xs) → g'.F p = none → DpAll K g'.F xs l → Q (.ref p) H'
abbrev DPF (X : Cx) (E : En) (e : Expr) (dt : DF) : Prop := PE X e (upF X.K E dt)
/-- a new object that nobody knows -/
theorem Rel.skip {K : PySem.W.Frag} {E : En} {g : Gh} {env : Ev} {c : Nat} {σ : L2.St} {H : Hp} (r : Rel K E g env c σ H) {p : Addr} (o : HO) (hp : H p = none) : Rel K E g env c σ (upd H p o) ∧ Mv g H g (upd H p o) := by
  have keep : ∀ b x, H b = some x → upd H p o b = some x := fun b x e => by
    rw [upd_ne (ne_of_none e hp)]
    exact e
  refine ⟨⟨r.mo, r.md, r.mt, r.dn, r.nf, fun b x e n => keep b x (r.fr b x e n), r.nw, fun b x e => keep b x (r.ex b x e), fun i x e => ?_, r.ap, fun a b e => ?_, r.len⟩, ⟨Mo.refl _, fun b x e _ => keep b x e, fun b x e => ⟨x, keep b x e⟩, fun b x e => .inl e⟩⟩
  · obtain ⟨v, h1, h2⟩ := r.sl i x e
    refine ⟨v, h1, ?_⟩
    cases x with
    | dat d => exact h2
    | deck => exact h2
    | exc _ => exact h2
    | own l =>
      obtain ⟨b, xs, e1, h3, h4, h5, h6⟩ := h2
      exact ⟨b, xs, e1, h3, h4, keep b _ h5, h6⟩
  · obtain ⟨h1, h2, h3, ns, h4, h5, h6, yk, h7, h8⟩ := r.dk a b e
    exact ⟨h1, h2, h3, ns, h4, h5, keep b _ h6, yk, keep a _ h7, h8⟩
/-- a list that nobody knew becomes data -/
theorem Rel.know {K : PySem.W.Frag} {E : En} {g : Gh} {env : Ev} {c : Nat} {σ : L2.St} {H : Hp} (r : Rel K E g env c σ H) {p : Addr} {xs : List V} (hl : H p = some (.lst xs)) (hF : g.F p = none) (nd : ¬ isDk g p) (hE : E.H p = none)
    (no : ∀ (j : Nat) (l : List PyData), env[j]? = some (some (.own l)) → σ[j]? ≠ some (some (.ref p))) : Rel K E ⟨upd g.F p (.lst xs), g.dk⟩ env c σ H ∧ Same g.F (upd g.F p (.lst xs)) := by
  have sF : Same g.F (upd g.F p (.lst xs)) := fun b o e => by
    rw [upd_ne (ne_of_none e hF)]
    exact e
  refine ⟨⟨r.mo.trans sF, r.md, r.mt, r.dn, fun b o e => ?_, r.fr, r.nw, fun b o e => ?_, fun j y e => ?_, r.ap, fun a b e => ?_, r.len⟩, sF⟩
  · have e : upd g.F p (.lst xs) b = some o := e
    by_cases hb : b = p
    · exact .inr (by rw [hb]; exact hE)
    · rw [upd_ne hb] at e
      exact r.nf b o e
  · have e : upd g.F p (.lst xs) b = some o := e
    by_cases hb : b = p
    · subst hb
      rw [upd_same] at e
      rw [hl]
      exact e
    · rw [upd_ne hb] at e
      exact r.ex b o e
  · obtain ⟨v, h1, h2⟩ := r.sl j y e
    refine ⟨v, h1, ?_⟩
    cases y with
    | dat d => exact dp_mono sF h2
    | deck => exact h2
    | exc _ => exact h2
    | own l =>
      obtain ⟨b, ys, e1, h3, h4, h5, h6⟩ := h2
      refine ⟨b, ys, e1, ?_, h4, h5, dpAll_mono sF h6⟩
      show upd g.F p (.lst xs) b = none
      rw [upd_ne fun z => no j l e (by rw [h1, e1, z])]
      exact h3
  · obtain ⟨h1, h2, h3, ns, h4, h5, h6, yk, h7, h8⟩ := r.dk a b e
    have np : ∀ b, isDk g b → b ≠ p := fun b hb z => nd (z ▸ hb)
    refine ⟨h1, ?_, ?_, ns, h4, h5, h6, yk, h7, h8.mono sF⟩
    · show upd g.F p (.lst xs) a = none
      rw [upd_ne (np a ⟨a, b, e, .inl rfl⟩)]
      exact h2
    · show upd g.F p (.lst xs) b = none
      rw [upd_ne (np b ⟨a, b, e, .inr rfl⟩)]
      exact h3
theorem Rel.noDk {K : PySem.W.Frag} {E : En} {g g' : Gh} {env : Ev} {c : Nat} {σ : L2.St} {H H' : Hp} (r : Rel K E g env c σ H) (m : Mv g H g' H') {p : Addr} (hp : H p = none) : ¬ isDk g' p := fun z => by
  obtain ⟨o, e⟩ := r.deckLive (m.toMo.isDk z)
  rw [hp] at e
  cases e
theorem Rel.noOwn {K : PySem.W.Frag} {E : En} {g : Gh} {env : Ev} {c : Nat} {σ : L2.St} {H : Hp} (r : Rel K E g env c σ H) {p : Addr} (hp : H p = none) (j : Nat) (l : List PyData) (e : env[j]? = some (some (.own l))) : σ[j]? ≠ some (some (.ref p)) := fun z => by
  obtain ⟨v, h1, a, xs, e1, h3, h4, h5, h6⟩ := r.sl j _ e
  rw [h1] at z
  cases z
  cases e1
  rw [hp] at h5
  cases h5
/-- as data -/
theorem f_up {K : PySem.W.Frag} {E : En} {dt : DF} {σ : L2.St} {H : Hp} {Q : VK} (h : up K E (fun env c P => dt env c fun l c' => P (.dat (.list l)) c') σ H Q) : upF K E dt σ H Q := by
  obtain ⟨g, env, c, P, rel, q, k⟩ := h
  refine ⟨g, env, c, _, rel, q, fun l c' g' H' p xs hl m r hp hp' hF ha => ?_⟩
  obtain ⟨r2, sF⟩ := r.know hp' hF (rel.noDk m hp) (rel.oldN hp) (fun j l e => rel.noOwn hp j l e)
  refine k _ c' ⟨upd g'.F p (.lst xs), g'.dk⟩ H' _ hl ⟨⟨m.f.trans sF, m.d⟩, m.fr, m.lv, fun a o e => ?_⟩ r2 (.lst (.of upd_same) (dpAll_mono sF ha)) trivial
  have e : upd g'.F p (.lst xs) a = some o := e
  by_cases ha : a = p
  · right
    rw [ha]
    exact hp
  · rw [upd_ne ha] at e
    exact m.nf a o e
def fLc (dw : DI) (dg : DG) (dt : DT) (de : DE) (vs : List Nat) : DF := fun env c P => dw env c fun items c1 => items.length < sizeLine ∧ lcL dg dt de (wipeE env vs) items [] c1 P
section
variable {X : Cx} {E : En} {tg a elt : Expr} {pos : Pos}
theorem dts_nil : DPTs X E [] tOn := by
  refine ⟨fun pins s σ H Q I h => pts_nil.run pins s σ H Q I ?_⟩
  obtain ⟨g, env, c, P, rel, q, k⟩ := h
  exact k true c g H q (Mv.refl g H) rel
theorem dts_one {e : Expr} {t : DT} (h : DPT X E e t) : DPTs X E [e] t := pts_one h
theorem lcF_up {K : PySem.W.Frag} {dw : DI} {ws vs : List Nat} {dg : DG} {dt : DT} {de : DE} (hws : ∀ i ∈ ws, i ∈ vs) {σ : L2.St} {H : Hp} {Q : VK} (h : upF K E (fLc dw dg dt de vs) σ H Q) : tLc (upI K E dw) (upG K E ws dg) (upT K E dt) (up K E de) vs σ H Q := by
  obtain ⟨g, env, c, P, rel, q, k⟩ := h
  refine ⟨g, env, c, _, rel, q, fun items c1 g1 H1 J p1 m1 r1 wk Dl hD => ?_⟩
  obtain ⟨hlen, p1⟩ := p1
  obtain ⟨G, Y, W, hG, hY⟩ := wk
  have fresh0 : g1.F Dl = none := r1.ex.free hD
  -- the state between two turns: the list at Dl is known to nobody
  have out0 : ∀ {g' : Gh} {H' : Hp}, Mv g1 H1 g' H' → H1 Dl = none → True := fun _ _ => trivial
  have rel0 : Rel K E g1 env c1 σ (upd H1 Dl (.lst [])) ∧ Mv g1 H1 g1 (upd H1 Dl (.lst [])) := by
    have keep : ∀ b o, H1 b = some o → upd H1 Dl (.lst []) b = some o := fun b o e => by
      rw [upd_ne (ne_of_none e hD)]
      exact e
    refine ⟨⟨r1.mo, r1.md, r1.mt, r1.dn, r1.nf, fun b o e n => keep b o (r1.fr b o e n), r1.nw, fun b o e => keep b o (r1.ex b o e), fun i x e => ?_, r1.ap, fun p q e => ?_, r1.len⟩, ⟨Mo.refl _, fun b o e _ => keep b o e, fun b o e => ⟨o, keep b o e⟩, fun b o e => .inl e⟩⟩
    · obtain ⟨v, h1, h2⟩ := r1.sl i x e
      refine ⟨v, h1, ?_⟩
      cases x with
      | dat d => exact h2
      | deck => exact h2
      | exc _ => exact h2
      | own l =>
        obtain ⟨b, xs, e1, h3, h4, h5, h6⟩ := h2
        exact ⟨b, xs, e1, h3, h4, keep b _ h5, h6⟩
    · obtain ⟨h1, h2, h3, ns, h4, h5, h6, yk, h7, h8⟩ := r1.dk p q e
      exact ⟨h1, h2, h3, ns, h4, h5, keep q _ h6, yk, keep p _ h7, h8⟩
  refine lc_it W (fun i H' => ∃ g' c' xs acc, Mv g1 H1 g' H' ∧ g'.F Dl = none ∧ Rel K E g' env c' σ H' ∧ H' Dl = some (.lst xs) ∧ DpAll K g'.F xs acc ∧ acc.length ≤ i ∧ lcL dg dt de (wipeE env vs) (items.drop i) acc c' P)
    ⟨g1, c1, [], [], rel0.2, fresh0, rel0.1, upd_same, .nil, Nat.le_refl _, p1⟩ (fun i H' _ ⟨g', c', xs, acc, m, _, r, _⟩ => hG g' H' m.f r.ex) (fun i x H' H2 hi hP y => ?_) (fun H' hP => ?_)
  · obtain ⟨g', c', xs, acc, m, fD, r, hl, ha, hle, hf⟩ := hP
    rw [drop_cons hi] at hf
    have hd : items[i]? = some items[i] := List.getElem?_eq_getElem hi
    have nd : ∀ {g3 : Gh} {H3 : Hp}, Mv g' H' g3 H3 → ¬ isDk g3 Dl := fun {g3 H3} m3 z => by
      have z1 : isDk g1 Dl := (m.trans m3).toMo.isDk z
      obtain ⟨o, e⟩ := r1.deckLive z1
      rw [hD] at e
      cases e
    have step : ∃ g2, Mv g' H' g2 H2 ∧ Rel K E g2 env c' σ H2 ∧ Dp K g2.F x items[i] := by
      rcases hY i H' x H2 _ hd y with ⟨rfl, h1⟩ | ⟨T, o, hT, rfl, h1⟩
      · exact ⟨g', Mv.refl g' _, r, dp_mono m.f h1⟩
      · obtain ⟨r2, m2⟩ := r.new o hT
        exact ⟨_, m2, r2, h1 g'.F m.f (r.ex.free hT)⟩
    obtain ⟨g2, m2, r2, d2⟩ := step
    have freshD : ∀ {g3 : Gh} {H3 : Hp}, Mv g' H' g3 H3 → g3.F Dl = none := fun {g3 H3} m3 => by
      cases w : g3.F Dl with
      | none => rfl
      | some o =>
        rcases m3.nf Dl o w with z | z
        · rw [fD] at z
          cases z
        · rw [hl] at z
          cases z
    have atD : ∀ {g3 : Gh} {H3 : Hp}, Mv g' H' g3 H3 → H3 Dl = some (.lst xs) := fun m3 => m3.fr Dl _ hl (nd (Mv.refl g' H'))
    refine ⟨g2, wipeE env vs, c', .dat items[i], _, r2.wipe vs, d2, trivial, hf, fun env3 g3 σ3 H3 p3 m3 r3 a3 => ⟨ag_wipe a3 hws, g3, env3, c', _, r3, p3, fun b c4 g4 H4 p4 m4 r4 => ?_⟩⟩
    cases b with
    | false =>
      refine iteF ⟨g4, c4, xs, acc, m.trans (m2.trans (m3.trans m4)), freshD (m2.trans (m3.trans m4)), r.back r4 (m2.trans (m3.trans m4)), atD (m2.trans (m3.trans m4)), dpAll_mono (m2.trans (m3.trans m4)).f ha, Nat.le_succ_of_le hle, p4⟩
    | true =>
      refine iteT ⟨g4, env3, c4, _, r4, p4, fun x5 c5 g5 H5 v5 p5 m5 r5 o5 f5 => ?_⟩
      have mm : Mv g' H' g5 H5 := m2.trans (m3.trans (m4.trans m5))
      cases x5 with
      | deck => exact p5.elim
      | exc _ => exact p5.elim
      | own l => exact p5.elim
      | dat z =>
        have hlx : xs.length = acc.length := DpAll.len ha
        refine ⟨xs, atD mm, by omega, ?_⟩
        have rb : Rel K E g5 env c5 σ H5 := r.back r5 mm
        have keep : ∀ b o, b ≠ Dl → H5 b = some o → upd H5 Dl (.lst (xs ++ [v5])) b = some o := fun b o n e => by
          rw [upd_ne n]
          exact e
        have fd5 : g5.F Dl = none := freshD mm
        have nf5 : ∀ b o, g5.F b = some o → b ≠ Dl := fun b o e z => by
          rw [z, fd5] at e
          cases e
        refine ⟨g5, c5, xs ++ [v5], acc ++ [z], ?_, fd5, ?_, upd_same, DpAll.app (dpAll_mono mm.f ha) (.cons o5 .nil), by simp; omega, p5⟩
        · refine ⟨(m.trans mm).toMo, fun b o e n => keep b o (ne_of_none e hD) ((m.trans mm).fr b o e n), fun b o e => ?_, (m.trans mm).nf⟩
          obtain ⟨o', e'⟩ := (m.trans mm).lv b o e
          exact ⟨o', keep b o' (ne_of_none e hD) e'⟩
        · have oldD : E.H Dl = none := r1.oldN hD
          refine ⟨rb.mo, rb.md, rb.mt, rb.dn, rb.nf, fun b o e n => keep b o (ne_of_none e oldD) (rb.fr b o e n), rb.nw, fun b o e => keep b o (nf5 b o e) (rb.ex b o e), fun j y e => ?_, rb.ap, fun p q e => ?_, rb.len⟩
          · obtain ⟨v, h1, h2⟩ := rb.sl j y e
            refine ⟨v, h1, ?_⟩
            cases y with
            | dat d => exact h2
            | deck => exact h2
            | exc _ => exact h2
            | own l =>
              obtain ⟨b, ys, e1, h3, h4, h5, h6⟩ := h2
              refine ⟨b, ys, e1, h3, h4, keep b _ (fun z => ?_) h5, h6⟩
              obtain ⟨v', h1', b', ys', e1', h3', h4', h5', h6'⟩ := r1.sl j _ e
              rw [h1] at h1'
              cases h1'
              subst e1
              cases e1'
              rw [z, hD] at h5'
              cases h5'
          · obtain ⟨h1, h2, h3, ns, h4, h5, h6, yk, h7, h8⟩ := rb.dk p q e
            have np : ∀ b, isDk g5 b → b ≠ Dl := fun b hb z => nd mm (z ▸ hb)
            exact ⟨h1, h2, h3, ns, h4, h5, keep q _ (np q ⟨p, q, e, .inr rfl⟩) h6, yk, keep p _ (np p ⟨p, q, e, .inl rfl⟩) h7, h8⟩
  · obtain ⟨g', c', xs, acc, m, fD, r, hl, ha, hle, hf⟩ := hP
    rw [List.drop_eq_nil_of_le (Nat.le_refl _)] at hf
    refine k acc c' g' H' Dl xs hf (m1.trans m) r ?_ hl fD ha
    cases w : H Dl with
    | none => rfl
    | some o2 =>
      obtain ⟨o3, e3⟩ := m1.lv Dl o2 w
      rw [hD] at e3
      cases e3
theorem lc_up {K : PySem.W.Frag} {dw : DI} {ws vs : List Nat} {dg : DG} {dt : DT} {de : DE} (hws : ∀ i ∈ ws, i ∈ vs) {σ : L2.St} {H : Hp} {Q : VK} (h : up K E (dLc dw dg dt de vs) σ H Q) : tLc (upI K E dw) (upG K E ws dg) (upT K E dt) (up K E de) vs σ H Q := lcF_up hws (f_up h)
end
end DL
namespace DL
open PySem PySem.Spec PyProof.Rows L2

section
variable {X : Cx} {E : En} {tg a elt : Expr} {pos : Pos}
theorem de_lc {ifs : List Expr} {scope : Scope} (own : List (Str × Nat)) {dw : DI} {ws : List Nat} {dg : DG} {dt : DT} {de : DE} (hN : X.N.Nodup) (hi : DPI X E tg a dw) (ok : BlkOk X.N X.env.scope scope own)
    (hg : ∀ (s : Shared) (H : Hp) (C : Addr) (cl : List (Str × Addr)) (fp : List Addr), DPG (X.blk s H scope (compEnvC scope cl C X.env) fp) E ws tg dg)
    (ht : ∀ (s : Shared) (H : Hp) (C : Addr) (cl : List (Str × Addr)) (fp : List Addr), DPTs (X.blk s H scope (compEnvC scope cl C X.env) fp) E ifs dt)
    (he : ∀ (s : Shared) (H : Hp) (C : Addr) (cl : List (Str × Addr)) (fp : List Addr), DPE (X.blk s H scope (compEnvC scope cl C X.env) fp) E elt de)
    (hws : ∀ i ∈ ws, i ∈ own.map (·.2) := by decide) (hc : X.calm = true := by rfl) (hs : ∀ x, foldedSetIterable a X.env x = pure x := by intro _; rfl) :
    DPE X E (.ListComp elt [⟨tg, a, ifs, 0⟩] scope pos) (dLc dw dg dt de (own.map (·.2))) :=
  pe_imp (pe_lc hc hN hi ok hg ht he hs) fun _ _ _ h => lc_up hws h
/-- y = [..] -/
theorem ds_setLc {ifs : List Expr} {scope : Scope} {spos py : Pos} {y : Str} (i : Nat) (own : List (Str × Nat)) {dw : DI} {ws : List Nat} {dg : DG} {dt : DT} {de : DE} (hN : X.N.Nodup) (hi : DPI X E tg a dw) (ok : BlkOk X.N X.env.scope scope own)
    (hg : ∀ (s : Shared) (H : Hp) (C : Addr) (cl : List (Str × Addr)) (fp : List Addr), DPG (X.blk s H scope (compEnvC scope cl C X.env) fp) E ws tg dg)
    (ht : ∀ (s : Shared) (H : Hp) (C : Addr) (cl : List (Str × Addr)) (fp : List Addr), DPTs (X.blk s H scope (compEnvC scope cl C X.env) fp) E ifs dt)
    (he : ∀ (s : Shared) (H : Hp) (C : Addr) (cl : List (Str × Addr)) (fp : List Addr), DPE (X.blk s H scope (compEnvC scope cl C X.env) fp) E elt de)
    (hsw : swapsWith (.ListComp elt [⟨tg, a, ifs, 0⟩] scope pos) (some (.Name y py)) spos.line X.env = pure true)
    (hws : ∀ i ∈ ws, i ∈ own.map (·.2) := by decide) (hy : X.N[i]? = some y := by rfl) (hyl : X.env.scope.names.lookup y = some .local := by rfl) (hc : X.calm = true := by rfl) (hs : ∀ x, foldedSetIterable a X.env x = pure x := by intro _; rfl) :
    DPS X E (.Assign [.Name y py] (.ListComp elt [⟨tg, a, ifs, 0⟩] scope pos) spos) (sAsg (dLc dw dg dt de (own.map (·.2))) (gNm i)) := by
  refine ps_imp (ps_setLc (g := upG X.K E ws dg) (tt := upT X.K E dt) (te := up X.K E de) hc hN hy hyl hsw hi ok hg ht he hs) fun D σ H h => ?_
  have h2 := asgN_up h
  exact lc_up hws h2
end

/-! ### defs, called where no repr is under way -/
structure FnG (P : Program) (w : World) (K : PySem.W.Frag) (mg : Str → Option Value) (base : Heap) (k : Nat) (f : Addr) (fd : FuncData) (ps : List Str) (sp : Sp) : Prop where
  len : ∀ vs H Q E, sp vs H Q E → vs.length = ps.length
  run : ∀ (A : Around) (outer : List Env) (s : Shared) (H : Hp) (us : List Value) (vs : List V) (Q : VK), Room k A → A.guards = some [] → Env0 P w K mg base A outer s H → BindsTo s fd ⟨us, []⟩ (ps.zip us) → Vals vs us → sp vs H Q E0 →
    codeAny (model P w) A (.call (.ref f) ⟨us, []⟩) (CR CX0 outer P w H s Q E0) s
theorem FnG.mono {P : Program} {w : World} {K : PySem.W.Frag} {mg : Str → Option Value} {base : Heap} {j k : Nat} {f : Addr} {fd : FuncData} {ps : List Str} {sp : Sp} (F : FnG P w K mg base j f fd ps sp) (h : j ≤ k) : FnG P w K mg base k f fd ps sp :=
  ⟨F.len, fun A outer s H us vs Q hr => F.run A outer s H us vs Q (hr.mono h)⟩
section
variable {P : Program} {w : World} {K : PySem.W.Frag} {mg : Str → Option Value} {base : Heap}
theorem fnG_of {x qual : Str} {st : Stmt} {f : Addr} {fd : FuncData} {N ps : List Str} {k : Nat} {sp : Sp} (F : Fun K x qual st f fd) (S : FnScope N ps (defScope st)) (len : ∀ vs H Q E, sp vs H Q E → vs.length = ps.length)
    (hb : ∀ (cdv : Value) (A : Around) (outer : List Env) (s : Shared) (H : Hp) (vs : List V) (Q : VK), Room k (A.deeper (envOfC qual (defScope st) s.heap.objs.size f cdv)) → A.guards = some [] → sp vs H Q E0 →
      ∃ t, PSs (cxOf CX0 P w K mg base N qual (defScope st) f cdv A outer s H E0).nox (defBody st) t ∧ t { nx := fun _ H' => Q .non H', rt := Q } (start N vs) H) : FnG P w K mg base (k + 1) f fd ps sp := by
  obtain ⟨oc, od, kV, doc, pm, an, cdv, ct, osl, rfl, lk, hcd⟩ := F.ex
  refine ⟨len, fun A outer s H us vs Q room quiet env0 bind vals want => ?_⟩
  have inK := env0.mod.kin.keeps fun b o e => (env0.bs b o e).1
  have nolim := env0.mod.nolimit.keeps fun b o e => (env0.bs b o e).1
  refine codeAny_call_function room.depth (inK _ _ lk) rfl S.co S.gen rfl (PySem.W.codeRec_of inK hcd) (bind _ _ _ _ ?_)
  refine wpAny_newFunctionEnv_cells S.kind (fun y hy => ?_) fun env he s1 ic => ?_
  · rcases S.par y.1 (List.of_mem_zip (a := y.1) (b := y.2) hy).1 with q | q
    · exact Or.inl q
    · exact Or.inr ⟨q, PySem.W.cellsFrom_some _ _ _ (Or.inl q)⟩
  · subst he
    refine ⟨nolim.keeps ic.toInCall.keep, codeAny_func ?_⟩
    obtain ⟨t, derivation, reading⟩ := hb cdv A outer s H vs Q (room.deeper _) quiet want
    have J0 := inv_start (CX := CX0) (E := E0) (P := P) (w := w) (mg := mg) S room.hd env0 (len _ _ _ _ want) vals ic
    refine wpAny_mono (derivation.nox.run [] s1 (start N vs) H _ J0 reading) (fun fl s' done => ?_) (fun e s' bad => bad)
    cases fl with
    | next =>
      obtain ⟨σ', H', J, q⟩ := done
      exact ⟨V.non, H', J.os, J.bare, J.base, J.hok, rfl, q⟩
    | ret u =>
      obtain ⟨v, σ', H', J, rv, q⟩ := done
      exact ⟨v, H', J.os, J.bare, J.base, J.hok, rv, q⟩
    | brk =>
      obtain ⟨σ', H', J, q⟩ := done
      exact False.elim q
    | cont =>
      obtain ⟨σ', H', J, q⟩ := done
      exact False.elim q
end
section
variable {X : Cx} {k : Nat} {f : Addr} {fd : FuncData} {ps : List Str} {sp : Sp} {x : Str} {p pos : Pos} {e : Expr} {es : List Expr} {t : TA}
theorem pe_callG (F : FnG X.prog X.w X.K X.mg X.base k f fd ps sp) (hr : Room k X.A) (hgd : X.A.guards = some []) (hg : Gl X x) (hm : X.mg x = some (.ref f)) (hk : PySem.W.keepIn X.K (.ref f) = true) (hb : Binds X.K fd ps []) (ha : PA X (e :: es) t)
    (hdb : (x == ("__debug__" : Str)) = false := by decide) (he : starEach (e :: es) X.env = (false, eval e X.env) :: starEach es X.env := by rfl) (hpl : (backTo pos (starEach es X.env)).any (·.1) = false := by rfl) :
    PE X (.Call (.Name x p) (e :: es) [] pos) (tCall sp [] E0 t) := by
  constructor
  intro pins s σ H Q I h
  refine wpAny_Call_Name_kw (ld_glob I hg hm (PySem.W.callWith_K (h₀ := X.base) I.ok.mod.kin hk ?_ he hpl) hdb)
  refine thn (ha.run pos pins s σ H _ I h) fun us s1 hq => ?_
  obtain ⟨vs, H1, I1, r, q⟩ := hq
  have q2 : sp vs H1 Q E0 := by
    have q3 : sp (vs ++ []) H1 Q E0 := q
    rwa [List.append_nil] at q3
  have hl : us.length = ps.length := by
    rw [← r.length]
    exact F.len _ _ _ _ q2
  have hbd := hb s1 us I1.kIn (by rw [List.append_nil]; exact hl)
  rw [List.append_nil] at hbd
  refine ⟨I1.kIn, wpAny_call (codeAny_mono (F.run X.A X.stack s1 H1 us vs Q hr hgd I1.env0 hbd r q2) fun rr s' hrr => ?_)⟩
  match rr, hrr with
  | .error _, z => exact z.elim
  | .ok .next, z => exact z.elim
  | .ok .brk, z => exact z.elim
  | .ok .cont, z => exact z.elim
  | .ok (.ret u), z => exact I1.after z
end

/-! ### promises over data -/
abbrev Spec := List Vl → Nat → (Vl → Nat → Prop) → Prop
def spD (K : PySem.W.Frag) (n : Nat) (spec : Spec) : Sp := fun vs H Q _ => ∃ g c args P, Same g.F H ∧ DeckOk g H c ∧ VOks K g H vs args ∧ (∀ x ∈ args, free x) ∧ args.length = n ∧ spec args c P ∧
  ∀ x c' g' H' v, P x c' → Mv g H g' H' → Same g'.F H' → DeckOk g' H' c' → VOk K g' H' v x → free x → Q v H'
theorem VOks.len {K : PySem.W.Frag} {g : Gh} {H : Hp} : ∀ {vs : List V} {xs : List Vl}, VOks K g H vs xs → vs.length = xs.length
  | [], [], _ => rfl
  | v :: vs, x :: xs, h => by simp [VOks.len h.2]
  | [], _ :: _, h => h.elim
  | _ :: _, [], h => h.elim
theorem VOks.at {K : PySem.W.Frag} {g : Gh} {H : Hp} : ∀ {vs : List V} {xs : List Vl} {i : Nat} {x : Vl}, VOks K g H vs xs → xs[i]? = some x → ∃ v, vs[i]? = some v ∧ VOk K g H v x
  | [], [], _, _, _, e => by simp at e
  | v :: vs, y :: xs, 0, x, h, e => by
    simp at e
    subst e
    exact ⟨v, rfl, h.1⟩
  | v :: vs, y :: xs, i + 1, x, h, e => by
    obtain ⟨u, h1, h2⟩ := VOks.at (i := i) (x := x) h.2 (by simpa using e)
    exact ⟨u, by simpa using h1, h2⟩
  | [], _ :: _, _, _, h, _ => h.elim
  | _ :: _, [], _, _, h, _ => h.elim
/-- behind a call -/
theorem Rel.call {K : PySem.W.Frag} {E : En} {g g' : Gh} {env : Ev} {c c' : Nat} {σ : L2.St} {H H' : Hp} (r : Rel K E g env c σ H) (m : Mv g H g' H') (ex : Same g'.F H') (dk : DeckOk g' H' c') : Rel K E g' env c' σ H' := by
  have key : ∀ a o, E.H a = some o → ¬ isDk E.g a → ¬ isDk g a := fun a o e n z => by
    rcases r.dn a z with w | w
    · exact n w
    · rw [e] at w
      cases w
  refine ⟨r.mo.trans m.f, fun h => m.d.trans (r.md h), r.mt, fun a h => r.dn a (m.toMo.isDk h), fun a o e => ?_, fun a o e n => m.fr a o (r.fr a o e n) (key a o e n), r.nw, ex, fun i x e => ?_, r.ap, dk, r.len⟩
  · rcases m.nf a o e with h | h
    · exact r.nf a o h
    · exact Or.inr (r.oldN h)
  · obtain ⟨v, h1, h2⟩ := r.sl i x e
    refine ⟨v, h1, ?_⟩
    cases x with
    | dat d => exact dp_mono m.f h2
    | exc _ => exact h2
    | deck =>
      obtain ⟨p, q, e, z⟩ := h2
      exact ⟨p, q, by rw [m.d]; exact e, z⟩
    | own l =>
      obtain ⟨a, xs, rfl, h3, h4, h5, h6⟩ := h2
      refine ⟨a, xs, rfl, ?_, fun z => h4 (m.toMo.isDk z), m.fr a _ h5 h4, dpAll_mono m.f h6⟩
      cases q : g'.F a with
      | none => rfl
      | some o =>
        rcases m.nf a o q with w | w
        · rw [h3] at w
          cases w
        · rw [h5] at w
          cases w
section
variable {X : Cx} {E : En} {k n : Nat} {f : Addr} {fd : FuncData} {ps : List Str} {spec : Spec} {x : Str} {p pos : Pos} {e : Expr} {es : List Expr} {dr : DA}
/-- what a caller holds of a def -/
structure Def (P : Program) (w : World) (K : PySem.W.Frag) (mg : Str → Option Value) (base : Heap) (k : Nat) (x : Str) (n : Nat) (spec : Spec) : Prop where
  ex : ∃ f fd ps, FnG P w K mg base k f fd ps (spD K n spec) ∧ mg x = some (.ref f) ∧ PySem.W.keepIn K (.ref f) = true ∧ Binds K fd ps []
theorem de_call (F : Def X.prog X.w X.K X.mg X.base k x n spec) (hr : Room k X.A) (hgd : X.A.guards = some []) (ha : DPA X E (e :: es) dr) (hn : (e :: es).length = n := by rfl) (hg : Gl X x := by rfl)
    (hdb : (x == ("__debug__" : Str)) = false := by decide) (he : starEach (e :: es) X.env = (false, eval e X.env) :: starEach es X.env := by rfl) (hpl : (backTo pos (starEach es X.env)).any (·.1) = false := by rfl) :
    DPE X E (.Call (.Name x p) (e :: es) [] pos) (dCall (fun xs c P => xs.length = n ∧ spec xs c P) dr) := by
  obtain ⟨f, fd, ps, F, hm, hk, hb⟩ := F.ex
  refine pe_imp (pe_callG F hr hgd hg hm hk hb ha hdb he hpl) fun σ H Q h => ?_
  obtain ⟨g, env, c, P, rel, q, kk⟩ := h
  refine ⟨g, env, c, _, rel, q, fun xs c1 g1 H1 vs p1 m1 r1 o1 f1 => ?_⟩
  show spD X.K n spec (vs ++ []) H1 Q E0
  rw [List.append_nil]
  exact ⟨g1, c1, xs, P, r1.ex, r1.dk, o1, f1, p1.1, p1.2, fun y c2 g2 H2 v p2 m2 ex dk ok fr => kk y c2 g2 H2 v p2 (m1.trans m2) (r1.call m2 ex dk) ok fr⟩
end
/-- the slots at the entry -/
def startE (N : Nat) (args : List Vl) : Ev := args.map some ++ List.replicate (N - args.length) none
def bodySpec (N : Nat) (dt : DS) : Spec := fun args c P => dt { nx := fun _ c' => P (.dat .none) c', rt := P, bk := fun _ _ => False, ct := fun _ _ => False } (startE N args) c
theorem start_rel {K : PySem.W.Frag} {g : Gh} {c : Nat} {N : List Str} {vs : List V} {args : List Vl} {H : Hp} (ex : Same g.F H) (dk : DeckOk g H c) (ok : VOks K g H vs args) (fr : ∀ x ∈ args, free x) : Rel K ⟨g, H, false⟩ g (startE N.length args) c (start N vs) H := by
  have hl := VOks.len ok
  have key : ∀ (i : Nat) (x : Vl), (startE N.length args)[i]? = some (some x) → args[i]? = some x := fun i x e => by
    unfold startE at e
    by_cases hi : i < args.length
    · rw [List.getElem?_append_left (by simpa using hi), List.getElem?_map] at e
      cases q : args[i]? with
      | none => rw [q] at e; cases e
      | some y => rw [q] at e; cases e; rfl
    · rw [List.getElem?_append_right (by simpa using hi), List.getElem?_replicate] at e
      split at e <;> cases e
  have noown : ∀ (i : Nat) (l : List PyData), (startE N.length args)[i]? ≠ some (some (Vl.own l)) := fun i l e => fr _ (List.mem_of_getElem? (key i _ e))
  refine ⟨Same.refl _, fun _ => rfl, (fun z => by cases z), fun a h => Or.inl h, fun a o h => Or.inl h, fun a o e _ => e, fun i l e => absurd e (noown i l), ex, fun i x e => ?_, fun i j li lj a _ e => absurd e (noown i li), dk, by simp [startE, L2.start, hl]⟩
  have e2 := key i x e
  obtain ⟨v, h1, h2⟩ := VOks.at ok e2
  refine ⟨v, ?_, h2⟩
  unfold L2.start
  have hi : i < vs.length := (List.getElem?_eq_some_iff.mp h1).1
  rw [List.getElem?_append_left (by simpa using hi), List.getElem?_map, h1]
  rfl
section
variable {P : Program} {w : World} {K : PySem.W.Frag} {mg : Str → Option Value} {base : Heap}
/-- the context of a def's body -/
abbrev bodyCx (P : Program) (w : World) (K : PySem.W.Frag) (mg : Str → Option Value) (base : Heap) (N : List Str) (qual : Str) (st : Stmt) (f : Addr) (cdv : Value) (A : Around) (outer : List Env) (s : Shared) (H : Hp) : Cx :=
  (cxOf CX0 P w K mg base N qual (defScope st) f cdv A outer s H E0).nox
theorem def_of {x qual : Str} {st : Stmt} {f : Addr} {fd : FuncData} {N ps : List Str} {k n : Nat} {dt : DS} (F : Fun K x qual st f fd) (S : FnScope N ps (defScope st)) (hm : mg x = some (.ref f)) (hb : Binds K fd ps []) (hn : ps.length = n)
    (h : ∀ (cdv : Value) (A : Around) (outer : List Env) (s : Shared) (H : Hp) (E : En), Room k (A.deeper (envOfC qual (defScope st) s.heap.objs.size f cdv)) → (A.deeper (envOfC qual (defScope st) s.heap.objs.size f cdv)).guards = some [] →
      DPSs (bodyCx P w K mg base N qual st f cdv A outer s H) E (defBody st) dt) : Def P w K mg base (k + 1) x n (bodySpec N.length dt) := by
  refine ⟨f, fd, ps, fnG_of F S (fun vs H Q E q => ?_) (fun cdv A outer s H vs Q hr hgd q => ?_), hm, F.kp, hb⟩
  · obtain ⟨g, c, args, P, _, _, ok, _, hl, _⟩ := q
    rw [VOks.len ok, hl, hn]
  · obtain ⟨g, c, args, P', ex, dk, ok, fr, hl, hs, kk⟩ := q
    refine ⟨_, h cdv A outer s H ⟨g, H, false⟩ hr hgd, g, _, c, _, start_rel ex dk ok fr, hs, fun env' c' g' σ' H' p m r => ?_, fun y c' env' g' σ' H' v p m r o f => ?_, fun _ _ _ _ _ p => p.elim, fun _ _ _ _ _ p => p.elim⟩
    · exact kk _ c' g' H' .non p ⟨⟨r.mo, r.md rfl⟩, r.fr, fun a o e => r.old e, r.nf⟩ r.ex r.dk .non trivial
    · exact kk y c' g' H' v p ⟨⟨r.mo, r.md rfl⟩, r.fr, fun a o e => r.old e, r.nf⟩ r.ex r.dk o f
end
end DL
namespace DL
open PySem PySem.Spec PyProof.Rows L2

/-! ### the deck -/
def drawSpec : Spec := fun args c P => match args with
  | [.deck, .dat (.int m)] => 0 < m ∧ m < 2 ^ 200 ∧ c < 10000000 ∧ ∀ r : Int, 0 ≤ r → r < m → P (.dat (.int r)) (c + 1)
  | _ => False
/-- the deck behind a draw -/
theorem deck_after {g : Gh} {H H' : Hp} {c : Nat} {p q : Addr} {ns : List Int} {ys : List V} (ex : Same g.F H) (hd : g.dk = some (p, q)) (hpq : p ≠ q) (fp : g.F p = none) (fq : g.F q = none) (hs : ∀ b o, b ≠ p → b ≠ q → H b = some o → H' b = some o)
    (h0 : ∀ n ∈ ns, 0 ≤ n) (h1 : ns.length ≤ 63) (hq : H' q = some (.lst (ns.map V.int))) (hp : H' p = some (.lst ys)) (hy : DShape g.F q c ys ns) : Mv g H g H' ∧ Same g.F H' ∧ DeckOk g H' c := by
  refine ⟨⟨Mo.refl g, fun a o e n => ?_, fun a o e => ?_, fun a o e => .inl e⟩, fun a o e => ?_, fun p' q' e => ?_⟩
  · exact hs a o (fun z => n ⟨p, q, hd, .inl z⟩) (fun z => n ⟨p, q, hd, .inr z⟩) e
  · by_cases z : a = p
    · exact ⟨_, by rw [z]; exact hp⟩
    · by_cases z2 : a = q
      · exact ⟨_, by rw [z2]; exact hq⟩
      · exact ⟨o, hs a o z z2 e⟩
  · exact hs a o (ne_of_none e fp) (ne_of_none e fq) (ex a o e)
  · rw [hd] at e
    cases e
    exact ⟨hpq, fp, fq, ns, h0, h1, hq, ys, hp, hy⟩
/-- what _law_deck hands back -/
def spDeck (K : PySem.W.Frag) : Sp := fun vs H Q _ => ∃ (a : Addr) (ns : List Int), vs = [.ref a] ∧ SqL K H a (ns.map V.int) ∧ ns.length ≤ 63 ∧
  ∀ H' p q (ms : List Int) (ys : List V) (F0 : Hp), Same H H' → H p = none → H q = none → p ≠ q → (∀ n ∈ ms, 0 ≤ n) → ms.length ≤ 63 → H' q = some (.lst (ms.map V.int)) → H' p = some (.lst ys) →
    Same F0 H' → (∀ a o, F0 a = some o → H a = none) → F0 p = none → F0 q = none → DShape F0 q 0 ys ms → Q (.ref p) H'
def jn (F F0 : Hp) : Hp := fun a => match F a with
  | some o => some o
  | none => F0 a
theorem jn_l {F F0 : Hp} : Same F (jn F F0) := fun a o e => by
  show (match F a with | some o => some o | none => F0 a) = some o
  rw [e]
theorem jn_r {F F0 : Hp} (h : ∀ a o, F0 a = some o → F a = none) : Same F0 (jn F F0) := fun a o e => by
  show (match F a with | some o => some o | none => F0 a) = some o
  rw [h a o e]
  exact e
theorem jn_or {F F0 : Hp} {a : Addr} {o : HO} (h : jn F F0 a = some o) : F a = some o ∨ F0 a = some o := by
  have h : (match F a with | some o => some o | none => F0 a) = some o := h
  cases e : F a with
  | some x =>
    rw [e] at h
    exact .inl h
  | none =>
    rw [e] at h
    exact .inr h
theorem jn_none {F F0 : Hp} {a : Addr} (h : F a = none) (h0 : F0 a = none) : jn F F0 a = none := by
  show (match F a with | some o => some o | none => F0 a) = none
  rw [h]
  exact h0
/-- deck = _law_deck(script): the script stands in slot j -/
def plain : Option Vl → Prop
  | some (.dat _) => True
  | none => True
  | _ => False
def sDeck (i j : Nat) : DS := fun D env c => (∃ ns : List Int, ns.length ≤ 63 ∧ env[j]? = some (some (.dat (.list (ns.map PyData.int))))) ∧ (∀ x ∈ env, plain x) ∧ D.nx (env.set i (some .deck)) 0
theorem dp_ints {K : PySem.W.Frag} {F : Hp} : ∀ {xs : List V} {ns : List Int}, DpAll K F xs (ns.map PyData.int) → xs = ns.map V.int := fun {xs ns} h => intsOf_dp (intsOf_map ns) h
theorem ds_deck {X : Cx} {E : En} {k : Nat} {f : Addr} {fd : FuncData} {ps : List Str} {x y z : Str} {p1 p2 p3 p4 p5 : Pos} (i j : Nat) (F : FnG X.prog X.w X.K X.mg X.base k f fd ps (spDeck X.K)) (hr : Room k X.A) (hgd : X.A.guards = some []) (hm : X.mg x = some (.ref f)) (hk : PySem.W.keepIn X.K (.ref f) = true) (hb : Binds X.K fd ps [])
    (hN : X.N.Nodup) (ht : E.top = true) (hj : PE X (.Name z p3) (tVar j)) (hg : Gl X x := by rfl) (hi : X.N[i]? = some y := by rfl) (hx : Loc X.env.scope y := by first | exact Or.inl rfl | exact Or.inr rfl)
    (hdb : (x == ("__debug__" : Str)) = false := by decide) (he : starEach [.Name z p3] X.env = (false, eval (.Name z p3) X.env) :: starEach [] X.env := by rfl) (hpl : (backTo p4 (starEach [] X.env)).any (·.1) = false := by rfl)
    (hs : swapsWith (.Call (.Name x p2) [.Name z p3] [] p4) (some (.Name y p1)) p5.line X.env = pure false := by rfl) (hf : X.fn y = true ∨ X.env.scope.names.lookup y = some .local := by first | exact .inl rfl | exact .inr rfl | assumption) :
    DPS X E (.Assign [.Name y p1] (.Call (.Name x p2) [.Name z p3] [] p4) p5) (sDeck i j) := by
  refine ps_imp (ps_set hN hi hx (pe_callG F hr hgd hg hm hk hb (pa_cons hj pa_nil he) hdb he hpl) hs hf) fun D σ H h => ?_
  obtain ⟨g, env, c, P, rel, ⟨⟨ns, hlen, hv⟩, hpl, q⟩, k1, _⟩ := h
  obtain ⟨v, e1, o1⟩ := rel.sl j _ hv
  have o1 : Dp X.K g.F v (.list (ns.map PyData.int)) := o1
  cases o1 with
  | lst hsq ha =>
    have ex := dp_ints ha
    subst ex
    refine ⟨_, e1, ?_⟩
    refine ⟨_, ns, rfl, rel.ex.seq hsq, hlen, fun H' p q' ms ys F0 sm hp hq hpq h0 h63 hq' hp' f0 fn fp fq hy => ?_⟩
    have dj : ∀ a o, F0 a = some o → g.F a = none := fun a o e => rel.ex.free (fn a o e)
    refine k1 _ 0 ⟨jn g.F F0, some (p, q')⟩ _ H' q jn_l ?_
    have exF : Same (jn g.F F0) H' := fun a o e => by
      rcases jn_or e with z | z
      · exact sm a o (rel.ex a o z)
      · exact f0 a o z
    have notown : ∀ (n : Nat) (l : List PyData), (env.set i (some Vl.deck))[n]? ≠ some (some (Vl.own l)) := fun n l e => by
      rcases set_get e with ⟨_, _, z⟩ | ⟨_, z⟩
      · cases z
      · exact hpl _ (List.mem_of_getElem? z)
    refine ⟨rel.mo.trans jn_l, (fun z => by rw [ht] at z; cases z), rel.mt, fun a hd => .inr ?_, fun a o e => ?_, fun a o e n => sm a o (rel.fr a o e n), fun n l e => absurd e (notown n l), exF, fun n y2 e => ?_, fun n m ln lm a _ e => absurd e (notown n ln), fun p2 q2 e => ?_, by simpa using rel.len⟩
    · obtain ⟨u, v2, e, z⟩ := hd
      cases e
      rcases z with rfl | rfl
      · exact rel.oldN hp
      · exact rel.oldN hq
    · rcases jn_or e with z | z
      · exact rel.nf a o z
      · exact .inr (rel.oldN (fn a o z))
    · rcases set_get e with ⟨rfl, hl, rfl⟩ | ⟨ne, e2⟩
      · exact ⟨.ref p, by rw [List.getElem?_set_self (by rw [← rel.len]; exact hl)], p, q', rfl, rfl⟩
      · obtain ⟨u, h1, h2⟩ := rel.sl n y2 e2
        refine ⟨u, by rw [List.getElem?_set_ne (Ne.symm ne)]; exact h1, ?_⟩
        cases y2 with
        | dat d => exact dp_mono jn_l h2
        | deck => exact (hpl _ (List.mem_of_getElem? e2)).elim
        | exc _ => exact (hpl _ (List.mem_of_getElem? e2)).elim
        | own l => exact (hpl _ (List.mem_of_getElem? e2)).elim
    · cases e
      exact ⟨hpq, jn_none (rel.ex.free hp) fp, jn_none (rel.ex.free hq) fq, ms, h0, h63, hq', ys, hp', hy.mono (jn_r dj)⟩

/-! ### the law's end -/
section
variable {P : Program} {w : World} {K : PySem.W.Frag} {mg : Str → Option Value} {base : Heap}
/-- the law's own frame: it begins with the script, no deck yet -/
def spTop (K : PySem.W.Frag) (spec : Spec) : Sp := fun vs H Q _ => ∃ (a : Addr) (ns : List Int) (P : Vl → Nat → Prop), vs = [.ref a] ∧ SqL K H a (ns.map V.int) ∧ ns.length ≤ 63 ∧ spec [.dat (.list (ns.map PyData.int))] 0 P ∧ ∀ x c' g' H' v, P x c' → VOk K g' H' v x → free x → Q v H'
theorem dpAll_ints {K : PySem.W.Frag} {F : Hp} : ∀ ns : List Int, DpAll K F (ns.map V.int) (ns.map PyData.int)
  | [] => .nil
  | n :: r => .cons (.int n) (dpAll_ints r)
theorem top_of {x qual : Str} {st : Stmt} {f : Addr} {fd : FuncData} {N ps : List Str} {k : Nat} {dt : DS} (F : Fun K x qual st f fd) (S : FnScope N ps (defScope st)) (hn : ps.length = 1)
    (h : ∀ (cdv : Value) (A : Around) (outer : List Env) (s : Shared) (H : Hp) (E : En), E.top = true → Room k (A.deeper (envOfC qual (defScope st) s.heap.objs.size f cdv)) → (A.deeper (envOfC qual (defScope st) s.heap.objs.size f cdv)).guards = some [] →
      DPSs (bodyCx P w K mg base N qual st f cdv A outer s H) E (defBody st) dt) : FnG P w K mg base (k + 1) f fd ps (spTop K (bodySpec N.length dt)) := by
  refine fnG_of F S (fun vs H Q E q => ?_) (fun cdv A outer s H vs Q hr hgd q => ?_)
  · obtain ⟨a, ns, P, rfl, _⟩ := q
    rw [hn]
    rfl
  · obtain ⟨a, ns, P', rfl, hs, hl, hsp, kk⟩ := q
    have ok : VOks K ⟨H, none⟩ H [.ref a] [.dat (.list (ns.map PyData.int))] := ⟨.lst hs (dpAll_ints ns), trivial⟩
    have r0 := start_rel (K := K) (g := ⟨H, none⟩) (c := 0) (N := N) (Same.refl H) (fun p q e => by cases e) ok (fun y hy => by rw [List.mem_singleton] at hy; subst hy; trivial)
    have r1 : Rel K ⟨⟨H, none⟩, H, true⟩ ⟨H, none⟩ (startE N.length [.dat (.list (ns.map PyData.int))]) 0 (L2.start N [.ref a]) H := ⟨r0.mo, (fun z => by cases z), fun _ => rfl, r0.dn, r0.nf, r0.fr, r0.nw, r0.ex, r0.sl, r0.ap, r0.dk, r0.len⟩
    exact ⟨_, h cdv A outer s H ⟨⟨H, none⟩, H, true⟩ rfl hr hgd, _, _, _, _, r1, hsp, fun env' c' g' σ' H' p m r => kk _ c' g' H' .non p .non trivial, fun y c' env' g' σ' H' v p m r o f => kk y c' g' H' v p o f, fun _ _ _ _ _ p => p.elim, fun _ _ _ _ _ p => p.elim⟩
end
end DL
namespace DL
open PySem PySem.Spec PyProof.Rows L2

/-! ### the call of the law, where no repr is under way -/
section
variable {P : Program} {w : World} {K : PySem.W.Frag} {mg mb : Str → Option Value} {k : Nat} {fa a : Addr} {fd : FuncData} {x : Str} {sp : Sp} {s : Shared} {vs : List Value} {ns : List Int}
/-- over one abstract heap: at most the script is told, and locked -/
theorem end_at (KX : K.In s.heap) (hns : s.heap.Ns mainGlobals mg) (hb : s.heap.Ns builtinsNs mb) (hbb : ∀ y : Str, y ≠ "__name__" → mb y = bootBuiltins y) (hlim : s.heap.NoLimit) (hg : s.gens = #[])
    (sc : s.heap.get? a = some { cls := .type "list", data := .seq vs.toArray }) (hr : Room k callerA)
    (F : ∀ base : Heap, K.In base → base.Ns mainGlobals mg → FnG P w K mg base k fa fd [x] sp) (bd : ∀ (s : Shared) (u : Value), BindsTo s fd ⟨[u], []⟩ [(x, u)])
    (H : Hp) (only : Only H) (sq : sp [.ref a] H (fun v _ => v = .bl true) E0) (ok : HOk P w H s.heap) (alone : ∀ b o, H b = some o → b = a) (away : ∀ o, H a = some o → K.lookup a = none) :
    codeAny (model P w) callerA (.call (.ref fa) ⟨[.ref a], []⟩) (fun r s' => r = .ok (.ret (.bool true)) ∧ OldK s.heap s'.heap ∧ s'.os = s.os ∧ AllBare s'.gens) s := by
  -- what is no list is not told
  have quiet : ∀ {b : Addr} {ob : Obj} {es : Array DictEntry} {ep : Nat}, s.heap.get? b = some ob → ob.data = .dict es ep → H b = none := by
    intro b ob es ep e de
    cases hb' : H b with
    | none => rfl
    | some u =>
      rw [alone b u hb', sc] at e
      cases e
      cases de
  have nsOf : ∀ {b : Addr} {m : Str → Option Value}, s.heap.Ns b m → (hidT s.heap H).Ns b m := by
    rintro b m ⟨ob, es, ep, e, de, rest⟩
    exact ⟨ob, es, ep, hidT_get e (quiet e de), de, rest⟩
  have inB : K.In (hidT s.heap H) := by
    intro b ob e
    refine hidT_get (KX b ob e) ?_
    cases hb' : H b with
    | none => rfl
    | some u =>
      have eb := alone b u hb'
      subst eb
      rw [away u hb'] at e
      cases e
  have lim2 : (hidT s.heap H).NoLimit := by
    obtain ⟨mc, h1, h2⟩ := hlim
    exact ⟨mc, nsOf h1, h2⟩
  have e0 : Env0 P w K mg (hidT s.heap H) callerA [] s H :=
    { frames := rfl, mod := ⟨inB, nsOf hns, ⟨mb, nsOf hb, hbb⟩, lim2⟩, bs := fun b o e => of_hidT e, bsz := Nat.le_of_eq (hidT_size _ _), funs := trivial, frf := (fun b h => by cases h), hok := ok, bare := .of_eq hg }
  have go := (F _ inB (nsOf hns)).run callerA [] s H [.ref a] [.ref a] _ hr rfl e0 (bd s (.ref a)) (.cons rfl .nil) sq
  refine codeAny_mono go fun r s' hq => ?_
  match r, hq with
  | .error _, z => exact z.elim
  | .ok .next, z => exact z.elim
  | .ok .brk, z => exact z.elim
  | .ok .cont, z => exact z.elim
  | .ok (.ret u), z =>
    obtain ⟨v, H', os, bare, un, ok', rv, q⟩ := z
    have q : v = .bl true := q
    subst q
    have ru : u = Value.bool true := rv
    subst ru
    refine ⟨rfl, OldK.of_keep fun b o e => ?_, os, bare⟩
    cases hb' : H b with
    | none => exact un.keep b o e hb' (fun z => by cases z) (fun z => by cases z)
    | some t =>
      rcases only b with z | ⟨ob, xs, z⟩
      · rw [hb'] at z
        cases z
      · have kept := (ok' b _ (un.frzs b ob _ z)).1
        have was := (ok b _ z).1
        rw [was] at e
        cases e
        exact kept
theorem law_end (KX : K.In s.heap) (hns : s.heap.Ns mainGlobals mg) (hb : s.heap.Ns builtinsNs mb) (hbb : ∀ y : Str, y ≠ "__name__" → mb y = bootBuiltins y) (hlim : s.heap.NoLimit) (hg : s.gens = #[])
    (sc : s.heap.get? a = some { cls := .type "list", data := .seq vs.toArray }) (iv : IntsAre vs ns) (hl : ns.length ≤ sizeLine) (hr : Room k callerA)
    (F : ∀ base : Heap, K.In base → base.Ns mainGlobals mg → FnG P w K mg base k fa fd [x] sp) (bd : ∀ (s : Shared) (u : Value), BindsTo s fd ⟨[u], []⟩ [(x, u)])
    (want : ∀ H : Hp, Only H → SqL K H a (ns.map V.int) → sp [.ref a] H (fun v _ => v = .bl true) E0) :
    codeAny (model P w) callerA (.call (.ref fa) ⟨[.ref a], []⟩) (fun r s' => r = .ok (.ret (.bool true)) ∧ OldK s.heap s'.heap ∧ s'.os = s.os ∧ AllBare s'.gens) s := by
  have rel := vals_ints iv
  have hlen : vs.length = ns.length := by
    have := rel.length
    rw [List.length_map] at this
    exact this.symm
  by_cases hk : K.lookup a = none
  · -- the script, locked
    refine end_at KX hns hb hbb hlim hg sc hr F bd (fun b => if b = a then some (.frz { cls := .type "list", data := .seq vs.toArray } (.lst (ns.map V.int))) else none) (fun b => ?_) (want _ (fun b => ?_) (.inl (.inr ⟨_, if_pos rfl⟩))) (fun b u e => ?_) (fun b u e => ?_) (fun _ _ => hk)
    · by_cases e : b = a
      · exact .inr ⟨_, _, if_pos e⟩
      · exact .inl (if_neg e)
    · by_cases e : b = a
      · exact .inr ⟨_, _, if_pos e⟩
      · exact .inl (if_neg e)
    · by_cases hba : b = a
      · subst hba
        have e2 := (if_pos rfl).symm.trans e
        cases e2
        exact ⟨sc, by rw [List.length_map]; exact hl, vs, _, rel, sc⟩
      · have e2 := (if_neg hba).symm.trans e
        cases e2
    · by_cases hba : b = a
      · exact hba
      · have e2 := (if_neg hba).symm.trans e
        cases e2
  · -- the script stands in the written part
    obtain ⟨ob, eo⟩ := Option.ne_none_iff_exists'.mp hk
    have e := KX a ob eo
    rw [sc] at e
    cases e
    refine end_at KX hns hb hbb hlim hg sc hr F bd (fun _ => none) (fun _ => .inl rfl) (want _ (fun _ => .inl rfl) (.inr ⟨_, vs.toArray, _, eo, rfl, rfl, rfl, by rw [List.size_toArray, hlen]; exact hl, by simpa using rel⟩)) (fun b u z => ?_) (fun b u z => ?_) (fun u z => ?_)
    · have z : (none : Option HO) = some u := z
      cases z
    · have z : (none : Option HO) = some u := z
      cases z
    · have z : (none : Option HO) = some u := z
      cases z
end
/-- the row's end -/
theorem walk_end {l : PySem.W.OpenLaw} {n k : Nat} {q : Program} {loose : List Str} {XP : (Str → Option Value) → Heap → Prop} {YP : World → Heap → Prop} {d : DefRec} {K : Params → PySem.W.Frag} {sp : PySem.W.Frag → Sp} {x : Str}
    (hn : l.most = some n) (hn2 : n ≤ sizeLine) (hdf : d.params.defaults = []) (hr : Room k callerA) (hY : ∀ (w : World) (h : Heap), YP w h → (K w.params).In h)
    (F : ∀ (w : World) (mg : Str → Option Value) (fa : Addr) (h : Heap), (K w.params).In h → h.Ns mainGlobals mg → mg d.name = some (.ref fa) →
      ∃ fd : FuncData, (∀ (s : Shared) (u : Value), BindsTo s fd ⟨[u], []⟩ [(x, u)]) ∧ ∀ base : Heap, (K w.params).In base → base.Ns mainGlobals mg → FnG l.prog w (K w.params) mg base k fa fd [x] (sp (K w.params)))
    (want : ∀ (K : PySem.W.Frag) (H : Hp) (a : Addr) (ns : List Int), ns.length ≤ n → SqL K H a (ns.map V.int) → sp K [.ref a] H (fun v _ => v = .bl true) E0) :
    PySem.W.WalkO q loose XP YP l.row.toRowW d [] (fun f vs => PySem.call f vs) := by
  refine Att.attach_call hn hdf fun w s₀ s₁ mg mb fa o pm cd doc a vs ns G Y ho hd hcd hmg hobj hints hlen hg => ?_
  obtain ⟨fd, bd, hF⟩ := F w mg fa _ (hY w _ Y) G.T.g hmg
  exact law_end (hY w _ Y) G.T.g G.T.b G.T.builtins G.T.nolimit hg hobj hints (Nat.le_trans hlen hn2) hr hF bd fun H _ hS => want _ H a ns hlen hS
end DL
namespace DL
open PySem PySem.Spec PyProof.Rows L2
/-! ### loops over data -/
theorem forL_inv {dg : DG} {db : DS} {D : DEnds} {items : List PyData} (I : Nat → Ev → Nat → Prop)
    (step : ∀ (j : Nat) (d : PyData) (env : Ev) (c : Nat) (k : Ev → Nat → Prop), items[j]? = some d → I j env c → (∀ env' c', I (j + 1) env' c' → k env' c') → dg (.dat d) env fun env' => db { nx := k, ct := k, bk := D.nx, rt := D.rt } env' c)
    {env : Ev} {c : Nat} (h0 : I 0 env c) (hend : ∀ env c, I items.length env c → D.nx env c) : forL dg db D items env c := by
  have key : ∀ (m j : Nat) (env : Ev) (c : Nat), m + j = items.length → I j env c → forL dg db D (items.drop j) env c := by
    intro m
    induction m with
    | zero =>
      intro j env c e h
      have e : j = items.length := by omega
      subst e
      rw [List.drop_length]
      exact hend env c h
    | succ m ih =>
      intro j env c e h
      have hj : j < items.length := by omega
      rw [List.drop_eq_getElem_cons hj]
      exact step j items[j] env c _ (List.getElem?_eq_getElem hj) h fun env' c' h' => ih (j + 1) env' c' (by omega) h'
  exact key items.length 0 env c (by omega) h0
/-- a comprehension whose element draws nothing -/
theorem lcL_pure {i : Nat} {dt : DT} {de : DE} {env : Ev} (f : PyData → Bool) (h : PyData → PyData) : ∀ (items acc : List PyData) (c : Nat) (k : List PyData → Nat → Prop),
    (∀ d ∈ items, ∀ P : Bool → Nat → Prop, P (f d) c → dt (env.set i (some (.dat d))) c P) → (∀ d ∈ items, f d = true → ∀ P : Vl → Nat → Prop, P (.dat (h d)) c → de (env.set i (some (.dat d))) c P) →
    k (acc ++ (items.filter f).map h) c → lcL (gNm i) dt de env items acc c k
  | [], acc, c, k, _, _, hk => by
    simpa [lcL] using hk
  | d :: ds, acc, c, k, h1, h2, hk => by
    unfold lcL gNm
    refine h1 d List.mem_cons_self _ ?_
    cases hf : f d with
    | false =>
      refine iteF (lcL_pure f h ds acc c k (fun e he => h1 e (List.mem_cons_of_mem _ he)) (fun e he => h2 e (List.mem_cons_of_mem _ he)) ?_)
      rw [List.filter_cons_of_neg (by rw [hf]; decide)] at hk
      exact hk
    | true =>
      refine iteT (h2 d List.mem_cons_self hf _ (lcL_pure f h ds (acc ++ [h d]) c k (fun e he => h1 e (List.mem_cons_of_mem _ he)) (fun e he => h2 e (List.mem_cons_of_mem _ he)) ?_))
      rw [List.filter_cons_of_pos hf, List.map_cons] at hk
      simpa using hk
/-- a comprehension that draws: what holds of what was made so far -/
theorem lcL_inv {i : Nat} {de : DE} {env : Ev} {items : List PyData} (N : Nat) (I : List PyData → Nat → Prop)
    (step : ∀ (d : PyData) (acc : List PyData) (c : Nat) (k : Vl → Nat → Prop), d ∈ items → acc.length < N → I acc c → (∀ z c', I (acc ++ [z]) c' → k (.dat z) c') → de (env.set i (some (.dat d))) c k)
    {k : List PyData → Nat → Prop} {c : Nat} {acc : List PyData} (hN : acc.length + items.length = N) (h0 : I acc c) (hend : ∀ out c', I out c' → out.length = N → k out c') : lcL (gNm i) tOn de env items acc c k := by
  induction items generalizing acc c with
  | nil => exact hend acc c h0 (by simpa using hN)
  | cons d ds ih =>
    rw [List.length_cons] at hN
    unfold lcL gNm tOn
    refine iteT (step d acc c _ List.mem_cons_self (by omega) h0 fun z c' hz => ?_)
    refine ih (fun e acc c k he => step e acc c k (List.mem_cons_of_mem _ he)) ?_ hz
    rw [List.length_append, List.length_singleton]
    omega
theorem ix_ok {ds : List PyData} {i : Int} {z : PyData} {P : PyData → Prop} (e : atI ds i = some z) (h : P z) : ixK ds (.int i) P := by
  unfold ixK intK
  simp only [e]
  exact h
theorem rangeD_mem {lo : Int} {n : Nat} {d : PyData} (h : d ∈ rangeD lo n) : ∃ k : Nat, k < n ∧ d = .int (lo + k) := by
  unfold rangeD at h
  obtain ⟨k, hk, rfl⟩ := List.mem_map.mp h
  exact ⟨k, List.mem_range.mp hk, rfl⟩
theorem rangeD_get {lo : Int} {n j : Nat} {d : PyData} (h : (rangeD lo n)[j]? = some d) : j < n ∧ d = .int (lo + j) := by
  unfold rangeD at h
  rw [List.getElem?_map] at h
  by_cases hj : j < n
  · rw [List.getElem?_range hj] at h
    cases h
    exact ⟨hj, rfl⟩
  · rw [List.getElem?_eq_none (by simpa using hj)] at h
    cases h
/-! ### how long a text repr makes -/
mutual
def cost : PyData → Nat
  | .none => 4
  | .bool _ => 5
  | .int _ => 1921
  | .str x => (reprText x).length
  | .list xs => costs xs + 2
  | .tuple xs => costs xs + 2
  | .dict _ => 0
def costs : List PyData → Nat
  | [] => 0
  | x :: xs => cost x + 2 + costs xs
end
theorem listText_le : ∀ ts : List Str, (listText ts).length ≤ piled ts + 2
  | [] => by decide +kernel
  | t :: r => by
    have h := textFrom_length_pos r 1 (("[" : Str) ++ (if (0 : Nat) > 0 then ", " else "" : String) ++ t) (Nat.succ_pos 0)
    have e1 : ((("[" : Str) ++ (if (0 : Nat) > 0 then ", " else "" : String) ++ t)).length = 1 + t.length := by
      rw [strLen_append, strLen_append]
      rfl
    have e2 : (listText (t :: r)).length = (textFrom 1 (("[" : Str) ++ (if (0 : Nat) > 0 then ", " else "" : String) ++ t) r).length + 1 := by
      show ((textFrom 1 (("[" : Str) ++ (if (0 : Nat) > 0 then ", " else "" : String) ++ t) r) ++ (("]" : String) : Str)).length = _
      rw [strLen_append]
      rfl
    rw [e2, h, e1, piled_cons]
    omega
mutual
theorem shown_le : ∀ d : PyData, d.showable = true → d.hasDict = false → d.shown.length ≤ cost d
  | .none, _, _ => by
    simp only [PyData.shown, cost]
    decide +kernel
  | .bool b, _, _ => by
    simp only [PyData.shown, cost]
    cases b <;> decide +kernel
  | .int i, h, _ => by
    simp only [PyData.shown, cost]
    have e := int_text_length_le (k := 1920) (by decide) (of_decide_eq_true h)
    rw [PySem.ofString_length]
    omega
  | .str x, _, _ => by
    simp only [PyData.shown, cost]
    exact Nat.le_refl _
  | .list xs, h, hd => by
    simp only [PyData.shown, cost]
    have := shownAll_le xs (by simpa [PyData.showable] using h) (by simpa [PyData.hasDict] using hd)
    have := listText_le (PyData.shownAll xs)
    omega
  | .tuple xs, h, hd => by
    simp only [PyData.shown, cost]
    have := shownAll_le xs (by simpa [PyData.showable] using h) (by simpa [PyData.hasDict] using hd)
    have := fmt_text (PyData.shownAll xs)
    omega
  | .dict _, _, hd => by simp [PyData.hasDict] at hd
theorem shownAll_le : ∀ ds : List PyData, PyData.showableAll ds = true → PyData.hasDictAll ds = false → piled (PyData.shownAll ds) ≤ costs ds
  | [], _, _ => by simp [PyData.shownAll, costs, piled]
  | d :: ds, h, hd => by
    simp only [PyData.showableAll, Bool.and_eq_true] at h
    simp only [PyData.hasDictAll, Bool.or_eq_false_iff] at hd
    simp only [PyData.shownAll, costs]
    rw [piled_cons]
    have := shown_le d h.1 hd.1
    have := shownAll_le ds h.2 hd.2
    omega
end
/-- dInts within this bound are shown -/
theorem show_int {i : Int} (h : i.natAbs < 2 ^ 1000) : PyData.showable (.int i) = true := by
  simp only [PyData.showable, decide_eq_true_eq]
  by_cases h0 : i.natAbs = 0
  · rw [h0]
    decide
  · exact Nat.lt_of_lt_of_le ((Nat.log2_lt h0).mpr h) (by decide)
theorem shows_of {d : PyData} (h1 : d.showable = true) (h2 : d.hasDict = false) (h3 : d.depth ≤ 60) (h4 : cost d ≤ sizeLine) : shows d := ⟨h1, h3, Nat.le_trans (shown_le d h1 h2) h4⟩
/-! ### lists of ints -/
def dInts (ns : List Int) : List PyData := ns.map PyData.int
theorem dInts_showable : ∀ {ns : List Int}, (∀ n ∈ ns, n.natAbs < 2 ^ 1000) → PyData.showableAll (dInts ns) = true
  | [], _ => rfl
  | n :: ns, h => by
    simp only [dInts, List.map_cons, PyData.showableAll, Bool.and_eq_true]
    exact ⟨show_int (h n List.mem_cons_self), dInts_showable fun m hm => h m (List.mem_cons_of_mem _ hm)⟩
theorem dInts_noDict : ∀ ns : List Int, PyData.hasDictAll (dInts ns) = false
  | [] => rfl
  | n :: ns => by
    simp only [dInts, List.map_cons, PyData.hasDictAll, PyData.hasDict, Bool.false_or]
    exact dInts_noDict ns
theorem dInts_depth : ∀ ns : List Int, PyData.depthAll (dInts ns) = 0
  | [] => rfl
  | n :: ns => by
    simp only [dInts, List.map_cons, PyData.depthAll, PyData.depth]
    have := dInts_depth ns
    simp only [dInts] at this
    rw [this]
    rfl
theorem dInts_costs : ∀ ns : List Int, costs (dInts ns) = 1923 * ns.length
  | [] => rfl
  | n :: ns => by
    simp only [dInts, List.map_cons, costs, cost, List.length_cons]
    have := dInts_costs ns
    simp only [dInts] at this
    omega
theorem shows_tup {ns : List Int} (h : ∀ n ∈ ns, n.natAbs < 2 ^ 1000) (hl : ns.length ≤ 1000) : shows (.tuple (dInts ns)) := by
  refine shows_of (by simpa [PyData.showable] using dInts_showable h) (by simpa [PyData.hasDict] using dInts_noDict ns) (by simp [PyData.depth, dInts_depth]) ?_
  simp only [cost, dInts_costs]
  rw [sizeLine_eq]
  omega
theorem shows_lst {ns : List Int} (h : ∀ n ∈ ns, n.natAbs < 2 ^ 1000) (hl : ns.length ≤ 1000) : shows (.list (dInts ns)) := by
  refine shows_of (by simpa [PyData.showable] using dInts_showable h) (by simpa [PyData.hasDict] using dInts_noDict ns) (by simp [PyData.depth, dInts_depth]) ?_
  simp only [cost, dInts_costs]
  rw [sizeLine_eq]
  omega
theorem dInts_at {ms : List Int} {r : Int} (h0 : 0 ≤ r) (h1 : r < ms.length) : ∃ z, atI (dInts ms) r = some (.int z) ∧ z ∈ ms := by
  have hlt : r.toNat < ms.length := by omega
  refine ⟨ms[r.toNat], ?_, List.getElem_mem hlt⟩
  have e : (dInts ms)[r.toNat]? = some (.int ms[r.toNat]) := by
    unfold dInts
    rw [List.getElem?_map, List.getElem?_eq_getElem hlt]
    rfl
  have e2 := atI_nat e
  rwa [show ((r.toNat : Nat) : Int) = r by omega] at e2
theorem ne_self {a : Str} {P : PyData → Prop} (h : P (.bool false)) : rdNe (.str a) (.str a) P := by
  unfold rdNe rdEq
  simpa using h
theorem eq_self {a : Str} {P : PyData → Prop} (h : P (.bool true)) : rdEq (.str a) (.str a) P := by
  unfold rdEq
  simpa using h
theorem sum_abs {B : Nat} : ∀ {l : List Int}, (∀ m ∈ l, m.natAbs ≤ B) → l.sum.natAbs ≤ l.length * B
  | [], _ => by simp
  | m :: l, h => by
    have h1 := h m List.mem_cons_self
    have h2 := sum_abs (l := l) fun x hx => h x (List.mem_cons_of_mem _ hx)
    rw [List.sum_cons, List.length_cons, Nat.succ_mul]
    have := Int.natAbs_add_le m l.sum
    omega
end DL
namespace DL
open PySem PySem.Spec PyProof.Rows L2

/-! ### isinstance -/
def tyN : PyData → String
  | .none => "NoneType"
  | .bool _ => "bool"
  | .int _ => "int"
  | .str _ => "str"
  | .list _ => "list"
  | .tuple _ => "tuple"
  | .dict _ => "dict"
theorem dp_ty {K : PySem.W.Frag} {H : Hp} {v : V} {d : PyData} (h : Dp K H v d) : TyX K H v (.type (tyN d)) := by
  cases h with
  | non => exact .base .non
  | bl b => exact .base (.bl b)
  | int i => exact .base (.int i)
  | str x => exact .base (.str x)
  | lst hs ha =>
    rcases hs with (e | ⟨o, e⟩) | ⟨o, its, n, e, c, _⟩
    · exact .base (.lst e)
    · exact .base (.frz e)
    · exact .kList e c
  | tup hs ha =>
    rcases hs with (e | ⟨o, e⟩) | ⟨o, its, n, e, c, _⟩
    · exact .base (.tup e)
    · exact .fTuple e
    · exact .kTuple e c
  | dct hs ha => exact .base (.dK hs)
def isTup : PyData → Bool
  | .tuple _ => true
  | _ => false
def isInt : PyData → Bool
  | .int _ => true
  | .bool _ => true
  | _ => false
def isBool : PyData → Bool
  | .bool _ => true
  | _ => false
theorem kit_tup : ∀ d : PyData, kitB (tyN d) "tuple" = some (isTup d)
  | .none => (by decide +kernel : kitB "NoneType" "tuple" = some false)
  | .bool _ => (by decide +kernel : kitB "bool" "tuple" = some false)
  | .int _ => (by decide +kernel : kitB "int" "tuple" = some false)
  | .str _ => (by decide +kernel : kitB "str" "tuple" = some false)
  | .list _ => (by decide +kernel : kitB "list" "tuple" = some false)
  | .tuple _ => (by decide +kernel : kitB "tuple" "tuple" = some true)
  | .dict _ => (by decide +kernel : kitB "dict" "tuple" = some false)
theorem kit_int : ∀ d : PyData, kitB (tyN d) "int" = some (isInt d)
  | .none => (by decide +kernel : kitB "NoneType" "int" = some false)
  | .bool _ => (by decide +kernel : kitB "bool" "int" = some true)
  | .int _ => (by decide +kernel : kitB "int" "int" = some true)
  | .str _ => (by decide +kernel : kitB "str" "int" = some false)
  | .list _ => (by decide +kernel : kitB "list" "int" = some false)
  | .tuple _ => (by decide +kernel : kitB "tuple" "int" = some false)
  | .dict _ => (by decide +kernel : kitB "dict" "int" = some false)
theorem kit_bool : ∀ d : PyData, kitB (tyN d) "bool" = some (isBool d)
  | .none => (by decide +kernel : kitB "NoneType" "bool" = some false)
  | .bool _ => (by decide +kernel : kitB "bool" "bool" = some true)
  | .int _ => (by decide +kernel : kitB "int" "bool" = some false)
  | .str _ => (by decide +kernel : kitB "str" "bool" = some false)
  | .list _ => (by decide +kernel : kitB "list" "bool" = some false)
  | .tuple _ => (by decide +kernel : kitB "tuple" "bool" = some false)
  | .dict _ => (by decide +kernel : kitB "dict" "bool" = some false)
def rdTy (f : PyData → Bool) : PyData → (PyData → Prop) → Prop := fun d P => P (.bool (f d))
section
variable {X : Cx} {E : En} {a b c : Expr} {da db dc : DE} {pos : Pos}
theorem de_isi {T : String} {x : Str} {f : PyData → Bool} {p p2 : Pos} (hT : ∀ d, kitB (tyN d) T = some (f d)) (mi : X.mg "isinstance" = none) (mT : X.mg x = none) (bT : bootBuiltins x = some (.type T)) (ha : DPE X E a da) (hg : Gl X "isinstance" := by rfl) (hg2 : Gl X x := by rfl)
    (hn : x ≠ "__name__" := by decide) (hdb : (x == ("__debug__" : Str)) = false := by decide)
    (he : starEach [a, .Name x p2] X.env = (false, eval a X.env) :: starEach [.Name x p2] X.env := by rfl) (he2 : starEach [.Name x p2] X.env = (false, eval (.Name x p2) X.env) :: starEach [] X.env := by rfl)
    (hpl : (backTo pos (starEach [.Name x p2] X.env)).any (·.1) = false := by rfl) :
    DPE X E (.Call (.Name "isinstance" p) [a, .Name x p2] [] pos) (dUn (rdTy f) da) := by
  refine pe_imp (pe_callB call_isi hg mi (by decide +kernel) (pa_cons ha (pa_cons (pe_bltn (v := .ty T) hg2 mT bT rfl hn hdb) pa_nil he2) he) (by decide) (by decide) he hpl) fun σ H Q h => ?_
  obtain ⟨g, env, c, P, rel, q, k⟩ := h
  refine ⟨g, env, c, _, rel, q, fun x c1 g1 H1 v p1 m1 r1 o1 f1 => ?_⟩
  cases x with
  | deck => exact p1.elim
  | exc _ => exact p1.elim
  | own l => exact p1.elim
  | dat d => exact ⟨v, .ty T, _, _, _, rfl, .ty T, dp_ty (dpF r1 o1), kit_ty (hT d), k _ _ g1 H1 _ p1 m1 r1 (.bl _) trivial⟩

/-! ### tuples -/
def rdAddU : PyData → PyData → (PyData → Prop) → Prop := fun d e P => match d, e with
  | .int i, .int j => P (.int (i + j))
  | .tuple xs, .tuple ys => xs.length + ys.length ≤ sizeLine ∧ P (.tuple (xs ++ ys))
  | _, _ => False
theorem opd_addU {K : PySem.W.Frag} : OpD K (fun x y H Q => rI0 (fun i j => .int (i + j)) x y H Q ∨ rCatA K x y H Q) rdAddU := by
  intro E g env c σ H x y d e P Q r hx hy q k
  unfold rdAddU at q
  split at q
  · exact .inl ⟨_, _, dp_int hx, dp_int hy, k _ g H _ q (Mv.refl g H) r (.int _)⟩
  · rename_i xs ys
    cases hx with
    | tup h1 a1 =>
      cases hy with
      | tup h2 a2 =>
        refine .inr ⟨_, _, _, _, rfl, rfl, seqT r.ex h1, seqT r.ex h2, by rw [DpAll.len a1, DpAll.len a2]; exact q.1, fun e => ?_, fun _ e => ?_, fun _ _ p hp => ?_⟩
        · subst e
          cases a1
          exact k _ g H _ q.2 (Mv.refl g H) r (.tup h2 a2)
        · subst e
          cases a2
          have q2 := q.2
          rw [List.append_nil] at q2
          exact k _ g H _ q2 (Mv.refl g H) r (.tup h1 a1)
        · obtain ⟨r2, m2⟩ := r.new (.tup _) hp
          exact k _ _ _ _ q.2 m2 r2 (.tup (.of upd_same) (DpAll.app (dpAll_mono m2.f a1) (dpAll_mono m2.f a2)))
  · exact q.elim
theorem de_addU (ha : DPE X E a da) (hb : DPE X E b db) : DPE X E (.BinOp a .Add b pos) (dOp rdAddU da db) := de_op (OpR.or op_add op_catA) opd_addU ha hb
def cutD (ds : List PyData) (lo hi : Option Int) : List PyData := (ds.drop (HT.sIx ds.length 0 lo)).take (HT.sIx ds.length ds.length hi - HT.sIx ds.length 0 lo)
theorem dpAll_cut {K : PySem.W.Frag} {F : Hp} {xs : List V} {ds : List PyData} (ha : DpAll K F xs ds) (l u : Option Int) : DpAll K F (cutV xs l u) (cutD ds l u) := by
  unfold cutV cutD
  rw [DpAll.len ha]
  exact DpAll.take _ (DpAll.drop _ ha)
abbrev DO := Ev → Nat → (Option Int → Nat → Prop) → Prop
def upO (K : PySem.W.Frag) (E : En) (dt : DO) : TO := fun σ H Q => ∃ g env c P, Rel K E g env c σ H ∧ dt env c P ∧ ∀ o c' g' H', P o c' → Mv g H g' H' → Rel K E g' env c' σ H' → Q o H'
abbrev DPO (X : Cx) (E : En) (e : Option Expr) (dt : DO) : Prop := PO X e (upO X.K E dt)
def oNo : DO := fun _ c P => P none c
def oSome (da : DE) : DO := fun env c P => da env c fun x c1 => datK x fun d => intK d fun i => P (some i) c1
theorem do_none : DPO X E none oNo := by
  refine ⟨fun pins s σ H Q I h => po_none.run pins s σ H Q I ?_⟩
  obtain ⟨g, env, c, P, rel, q, k⟩ := h
  exact k none c g H q (Mv.refl g H) rel
theorem do_some (h : DPE X E a da) : DPO X E (some a) (oSome da) := by
  refine ⟨fun pins s σ H Q I h2 => (po_some h).run pins s σ H Q I ?_⟩
  obtain ⟨g, env, c, P, rel, q, k⟩ := h2
  refine ⟨g, env, c, _, rel, q, fun x c1 g1 H1 v p1 m1 r1 o1 f1 => ?_⟩
  cases x with
  | deck => exact p1.elim
  | exc _ => exact p1.elim
  | own l => exact p1.elim
  | dat d =>
    cases d <;> try exact p1.elim
    exact ⟨_, dp_int o1, k _ _ g1 H1 p1 m1 r1⟩
def dSlT (da : DE) (lo hi : DO) : DE := fun env c P => da env c fun x c1 => datK x fun d => lo env c1 fun l c2 => hi env c2 fun u c3 => match d with
  | .tuple ds => P (.dat (.tuple (cutD ds l u))) c3
  | _ => False
theorem de_slT {lo hi : Option Expr} {dl dh : DO} {p2 : Pos} (h : DPE X E a da) (hl : DPO X E lo dl) (hu : DPO X E hi dh) : DPE X E (.Subscript a (.Slice lo hi none p2) pos) (dSlT da dl dh) := by
  refine pe_imp (pe_slice sl_tupA h hl hu) fun σ H Q h => ?_
  obtain ⟨g, env, c, P, rel, q, k⟩ := h
  refine ⟨g, env, c, _, rel, q, fun x c1 g1 H1 v p1 m1 r1 o1 f1 => ?_⟩
  cases x with
  | deck => exact p1.elim
  | exc _ => exact p1.elim
  | own l => exact p1.elim
  | dat d =>
    refine ⟨g1, env, c1, _, r1, p1, fun l c2 g2 H2 p2 m2 r2 => ⟨g2, env, c2, _, r2, p2, fun u c3 g3 H3 p3 m3 r3 => ?_⟩⟩
    cases d <;> try exact p3.elim
    rename_i ds
    have o1 : Dp X.K g1.F v (.tuple ds) := o1
    have o3 := dp_mono (m2.trans m3).f o1
    cases o3 with
    | tup hs ha =>
      have hlen := DpAll.len ha
      refine ⟨_, _, rfl, seqT r3.ex hs, fun e => ?_, fun _ p hp => ?_⟩
      · have e2 : cutD ds l u = ds := by
          unfold cutD
          rw [hlen] at e
          rw [e.1, e.2, List.drop_zero, Nat.sub_zero, List.take_length]
        have p3 : P (Vl.dat (.tuple (cutD ds l u))) c3 := p3
        rw [e2] at p3
        exact k _ _ g3 H3 _ p3 (m1.trans (m2.trans m3)) r3 (.tup hs ha) trivial
      · obtain ⟨r4, m4⟩ := r3.new (.tup _) hp
        refine k _ _ _ _ _ p3 ((m1.trans (m2.trans m3)).trans m4) r4 (.tup (.of upd_same) ?_) trivial
        exact dpAll_mono m4.f (dpAll_cut ha l u)

/-! ### a < b < c -/
def dChain (r r' : PyData → PyData → (PyData → Prop) → Prop) (da db dc : DE) : DE := fun env c P => da env c fun x c1 => datK x fun d => db env c1 fun y c2 => datK y fun e => r d e fun z => boolK z fun k => if k = true then dc env c2 fun w c3 => datK w fun u => r' e u fun z => P (.dat z) c3 else P (.dat (.bool false)) c2
theorem chain_up {K : PySem.W.Frag} {r r' : R2} {rd rd' : PyData → PyData → (PyData → Prop) → Prop} (h1 : OpD K r rd) (h2 : OpD K r' rd') {σ : L2.St} {H : Hp} {Q : VK} (h : up K E (dChain rd rd' da db dc) σ H Q) : tChain r r' (up K E da) (up K E db) (up K E dc) σ H Q := by
  obtain ⟨g, env, c, P, rel, q, k⟩ := h
  refine ⟨g, env, c, _, rel, q, fun x c1 g1 H1 v p1 m1 r1 o1 f1 => ?_⟩
  cases x with
  | deck => exact p1.elim
  | exc _ => exact p1.elim
  | own l => exact p1.elim
  | dat d =>
    refine ⟨g1, env, c1, _, r1, p1, fun y c2 g2 H2 u p2 m2 r2 o2 f2 => ?_⟩
    cases y with
    | deck => exact p2.elim
    | exc _ => exact p2.elim
    | own l => exact p2.elim
    | dat e =>
      refine h1 E g2 env c2 σ H2 v u d e _ _ r2 (dp_mono m2.f o1) o2 p2 fun z g3 H3 w pz m3 r3 dz => ?_
      cases z <;> try exact pz.elim
      rename_i kb
      refine ⟨kb, dp_bl dz, ?_⟩
      cases kb with
      | false => exact iteF (k _ _ g3 H3 _ pz ((m1.trans m2).trans m3) r3 (.bl _) trivial)
      | true =>
        refine iteT ⟨g3, env, c2, _, r3, pz, fun y2 c4 g4 H4 u4 p4 m4 r4 o4 f4 => ?_⟩
        cases y2 with
        | deck => exact p4.elim
        | exc _ => exact p4.elim
        | own l => exact p4.elim
        | dat e2 =>
          exact h2 E g4 env c4 σ H4 u u4 e e2 _ Q r4 (dp_mono (m3.trans m4).f o2) o4 p4 fun z g5 H5 w5 pz5 m5 r5 dz5 => k _ _ g5 H5 w5 pz5 ((((m1.trans m2).trans m3).trans m4).trans m5) r5 dz5 trivial
theorem de_chain {op op' : CmpOp} {r r' : R2} {rd rd' : PyData → PyData → (PyData → Prop) → Prop} (ho : OpR X (compareOp op) r) (ho' : OpR X (compareOp op') r') (h1 : OpD X.K r rd) (h2 : OpD X.K r' rd') (ha : DPE X E a da) (hb : DPE X E b db) (hc : DPE X E c dc)
    (hm : lastMarks [op, op'] [b, c] = false := by with_unfolding_all rfl) : DPE X E (.Compare a [op, op'] [b, c] pos) (dChain rd rd' da db dc) := pe_imp (pe_chain ho ho' ha hb hc hm) fun _ _ _ h => chain_up h1 h2 h

theorem dt_chain {op op' : CmpOp} {r r' : R2} {rd rd' : PyData → PyData → (PyData → Prop) → Prop} (ho : OpR X (compareOp op) r) (ho' : OpR X (compareOp op') r') (h1 : OpD X.K r rd) (h2 : OpD X.K r' rd') (ha : DPE X E a da) (hb : DPE X E b db) (hc : DPE X E c dc)
    (hm : lastMarks [op, op'] [b, c] = false := by with_unfolding_all rfl) : DPT X E (.Compare a [op, op'] [b, c] pos) (tVal (dChain rd rd' da db dc)) := pt_imp (pt_chain ho ho' ha hb hc hm) fun _ _ _ h => tB_up (fun _ _ _ h => chain_up h1 h2 h) h
theorem od_lt {K : PySem.W.Frag} : OpD K (rI0 fun i j => .bl (decide (i < j))) rdLt := opd_I0 fun _ _ _ _ => .bl _
theorem od_le {K : PySem.W.Frag} : OpD K (rI0 fun i j => .bl (decide (i ≤ j))) rdLe := opd_I0 fun _ _ _ _ => .bl _

/-! ### sorted -/
def rdSorted : List PyData → (PyData → Prop) → Prop := fun ds P => match ds with
  | [.list xs] => ∃ ns, intsOf xs = some ns ∧ ns.length < 64 ∧ ∀ ms : List Int, ms.Perm ns → ms.Pairwise (· ≤ ·) → P (.list (dInts ms))
  | _ => False
theorem cd_sorted {K : PySem.W.Frag} : CallD K (rSorted K) rdSorted := by
  intro E g env c σ H xs ds P Q r h q k
  unfold rdSorted at q
  split at q
  · cases h with
    | cons h1 t =>
      cases t
      cases h1 with
      | lst hs ha =>
        obtain ⟨ns, e, hl, q⟩ := q
        have ex := intsOf_dp e ha
        subst ex
        refine ⟨_, ns, rfl, r.ex.seq hs, hl, fun ms p h1 h2 hp => ?_⟩
        obtain ⟨r2, m2⟩ := r.new (.lst (ms.map V.int)) hp
        exact k _ _ _ _ (q ms h1 h2) m2 r2 (.lst (.of upd_same) (dpAll_ints ms))
  · exact q.elim

/-! ### zip of two tuples -/
def wZipT (da : DA) : DI := fun env c P => da env c fun xs c1 => datsK xs fun ds => match ds with
  | [.tuple xs, .tuple ys] => P ((xs.zip ys).map fun z => .tuple [z.1, z.2]) c1
  | _ => False
theorem walk_zipT {K : PySem.W.Frag} {a b : Addr} {xs ys : List V} {n : Nat} (hn : n = min xs.length ys.length) : Walk (RZ.ItzT K a b) n (fun H => SqT K H a xs ∧ SqT K H b ys) (YPair (fun i => xs[i]?) (fun i => ys[i]?)) := by
  refine ⟨fun i H hi h => ⟨xs, ys, xs[i]'(by omega), ys[i]'(by omega), h.1, h.2, List.getElem?_eq_getElem _, List.getElem?_eq_getElem _⟩, fun H h => ⟨xs, ys, h.1, h.2, by omega⟩, fun i H v H' hi h y => ?_⟩
  obtain ⟨T, x, y, e1, e2, e3, f1, f2⟩ := y
  exact ⟨T, x, y, e1, e2, e3, f1 xs h.1, f2 ys h.2⟩
theorem dw_zipT {elts : List Expr} {kk : Nat} {dr : DA} {p tpos : Pos} (ha : DPA X E [a, b] dr) (hm : X.mg "zip" = none) (hg : Gl X "zip" := by rfl) (hs : starEach [a, b] X.env = (false, eval a X.env) :: starEach [b] X.env := by rfl) (hpl : (backTo pos (starEach [b] X.env)).any (·.1) = false := by rfl) :
    DPI X E (.Tuple elts kk tpos) (.Call (.Name "zip" p) [a, b] [] pos) (wZipT dr) := by
  refine pi_imp (RZ.pi_zipA hg hm ha hs hpl) fun σ H R h => ?_
  obtain ⟨g, env, c, P, rel, q, k⟩ := h
  refine ⟨g, env, c, _, rel, q, fun xs c1 g1 H1 vs p1 m1 r1 o1 f1 => ?_⟩
  obtain ⟨ds, h1, h2⟩ := datsK_all o1 p1
  split at h1
  · rename_i us ws
    cases h2 with
    | cons h3 t =>
      cases t with
      | cons h4 t =>
        cases t
        cases h3 with
        | tup s1 a1 =>
          cases h4 with
          | tup s2 a2 =>
            refine ⟨_, _, _, _, rfl, .inr ⟨seqT r1.ex s1, seqT r1.ex s2, k _ c1 g1 H1 _ h1 m1 r1 ⟨_, _, walk_zipT (by rw [List.length_map, List.length_zip, DpAll.len a1, DpAll.len a2]), fun g' H' m e => ⟨seqT e (seqT m s1), seqT e (seqT m s2)⟩, fun i H2 x2 H3 d2 e y => ?_⟩⟩⟩
            obtain ⟨T, x, y, rfl, hT, rfl, hx, hy⟩ := y
            obtain ⟨dx, ex, px⟩ := DpAll.getV a1 hx
            obtain ⟨dy, ey, py⟩ := DpAll.getV a2 hy
            have e2 : d2 = .tuple [dx, dy] := by
              rw [List.getElem?_map, (List.getElem?_zip_eq_some (z := (dx, dy))).mpr ⟨ex, ey⟩] at e
              exact (Option.some.inj e).symm
            subst e2
            refine .inr ⟨T, _, hT, rfl, fun F hF hFT => .tup (.of upd_same) ?_⟩
            have sF : Same F (upd F T (.tup [x, y])) := fun b o e => by
              rw [upd_ne (ne_of_none e hFT)]
              exact e
            exact .cons (dp_mono (hF.trans sF) px) (.cons (dp_mono (hF.trans sF) py) .nil)
  · exact h1.elim
end
/-! ### comprehensions with any target -/
theorem lcL_gen {dg : DG} {dt : DT} {de : DE} {env : Ev} (f : PyData → Bool) (h : PyData → PyData) : ∀ (items acc : List PyData) (c : Nat) (k : List PyData → Nat → Prop),
    (∀ d ∈ items, ∀ k2 : List PyData → Nat → Prop, ∀ rest : List PyData → Nat → (List PyData → Nat → Prop) → Prop, ∀ acc, (if f d = true then rest (acc ++ [h d]) c k2 else rest acc c k2) → dg (.dat d) env fun env' => dt env' c fun b c1 => if b = true then de env' c1 fun x c2 => datK x fun z => rest (acc ++ [z]) c2 k2 else rest acc c1 k2) →
    k (acc ++ (items.filter f).map h) c → lcL dg dt de env items acc c k
  | [], acc, c, k, _, hk => by
    simpa [lcL] using hk
  | d :: ds, acc, c, k, h1, hk => by
    unfold lcL
    refine h1 d List.mem_cons_self k (fun a c k => lcL dg dt de env ds a c k) acc ?_
    cases hf : f d with
    | false =>
      refine iteF (lcL_gen f h ds acc c k (fun e he => h1 e (List.mem_cons_of_mem _ he)) ?_)
      rw [List.filter_cons_of_neg (by rw [hf]; decide)] at hk
      exact hk
    | true =>
      refine iteT (lcL_gen f h ds (acc ++ [h d]) c k (fun e he => h1 e (List.mem_cons_of_mem _ he)) ?_)
      rw [List.filter_cons_of_pos hf, List.map_cons] at hk
      simpa using hk
end DL
namespace DL
open PySem PySem.Spec PyProof.Rows L2
/-! ### what can be shown, part by part -/
structure Sm (k N : Nat) (d : PyData) : Prop where
  s : d.showable = true
  h : d.hasDict = false
  k : d.depth ≤ k
  c : cost d ≤ N
structure Sms (k N L : Nat) (ds : List PyData) : Prop where
  s : PyData.showableAll ds = true
  h : PyData.hasDictAll ds = false
  k : PyData.depthAll ds ≤ k
  c : costs ds ≤ N * L
theorem sms_nil {k N : Nat} : Sms k N 0 [] := ⟨rfl, rfl, Nat.zero_le _, Nat.zero_le _⟩
theorem sms_cons {k N L : Nat} {d : PyData} {ds : List PyData} (h : Sm k N d) (t : Sms k (N + 2) L ds) : Sms k (N + 2) (L + 1) (d :: ds) := by
  refine ⟨?_, ?_, ?_, ?_⟩
  · simp only [PyData.showableAll, h.s, t.s, Bool.and_self]
  · simp only [PyData.hasDictAll, h.h, t.h, Bool.or_self]
  · simp only [PyData.depthAll]
    have := h.k
    have := t.k
    omega
  · simp only [costs]
    have := h.c
    have := t.c
    rw [Nat.mul_succ]
    omega
theorem sms_of {k N : Nat} : ∀ {ds : List PyData}, (∀ d ∈ ds, Sm k N d) → Sms k (N + 2) ds.length ds
  | [], _ => sms_nil
  | d :: ds, h => sms_cons (h d List.mem_cons_self) (sms_of fun e he => h e (List.mem_cons_of_mem _ he))
theorem sm_tup {k N : Nat} {ds : List PyData} (L : Nat) (h : ∀ d ∈ ds, Sm k N d) (hl : ds.length ≤ L) : Sm (k + 1) ((N + 2) * L + 2) (.tuple ds) := by
  have t := sms_of h
  refine ⟨by simpa [PyData.showable] using t.s, by simpa [PyData.hasDict] using t.h, by simpa [PyData.depth] using t.k, ?_⟩
  simp only [cost]
  have := t.c
  have := Nat.mul_le_mul_left (N + 2) hl
  omega
theorem sm_lst {k N : Nat} {ds : List PyData} (L : Nat) (h : ∀ d ∈ ds, Sm k N d) (hl : ds.length ≤ L) : Sm (k + 1) ((N + 2) * L + 2) (.list ds) := by
  have t := sms_of h
  refine ⟨by simpa [PyData.showable] using t.s, by simpa [PyData.hasDict] using t.h, by simpa [PyData.depth] using t.k, ?_⟩
  simp only [cost]
  have := t.c
  have := Nat.mul_le_mul_left (N + 2) hl
  omega
theorem sm_int {i : Int} (h : i.natAbs < 2 ^ 200) : Sm 0 1921 (.int i) := ⟨show_int (Nat.lt_of_lt_of_le h (Nat.pow_le_pow_right (by decide) (by decide))), rfl, Nat.le_refl _, Nat.le_refl _⟩
theorem sm_none : Sm 0 1921 .none := ⟨rfl, rfl, Nat.le_refl _, by decide⟩
theorem sm_bool (b : Bool) : Sm 0 1921 (.bool b) := ⟨rfl, rfl, Nat.le_refl _, by simp only [cost]; decide⟩
theorem Sm.mono {k k' N N' : Nat} {d : PyData} (h : Sm k N d) (h1 : k ≤ k') (h2 : N ≤ N') : Sm k' N' d := ⟨h.s, h.h, Nat.le_trans h.k h1, Nat.le_trans h.c h2⟩
theorem Sm.shows {k N : Nat} {d : PyData} (h : Sm k N d) (h1 : k ≤ 60) (h2 : N ≤ 16000000) : DL.shows d := shows_of h.s h.h (Nat.le_trans h.k h1) (Nat.le_trans h.c (by rw [sizeLine_eq]; omega))
/-- two sorted lists of one content are one -/
theorem sorted_one : ∀ {l m : List Int}, l.Perm m → l.Pairwise (· ≤ ·) → m.Pairwise (· ≤ ·) → l = m
  | [], m, p, _, _ => (List.nil_perm.mp p).symm
  | a :: l, [], p, _, _ => (List.perm_nil.mp p)
  | a :: l, b :: m, p, hl, hm => by
    have h1 := List.pairwise_cons.mp hl
    have h2 := List.pairwise_cons.mp hm
    have e : a = b := by
      have ha : a ∈ b :: m := p.mem_iff.mp List.mem_cons_self
      have hb : b ∈ a :: l := p.mem_iff.mpr List.mem_cons_self
      have x1 : b ≤ a := by
        rcases List.mem_cons.mp ha with z | z
        · omega
        · exact h2.1 a z
      have x2 : a ≤ b := by
        rcases List.mem_cons.mp hb with z | z
        · omega
        · exact h1.1 b z
      omega
    subst e
    rw [sorted_one (List.perm_cons a |>.mp p) h1.2 h2.2]
/-! ### rules as data -/
structure R4 where
  f : Int
  s : Int
  l : Int
  m : Option Int
def optD : Option Int → PyData
  | none => .none
  | some m => .int m
def rD (r : R4) : PyData := .tuple [.int r.f, .int r.s, .int r.l, optD r.m]
def rDs (rs : List R4) : PyData := .tuple (rs.map rD)
/-- a rule for n, as the laws draw them -/
structure R4.Ok (n : Int) (r : R4) : Prop where
  f0 : 0 ≤ r.f
  f1 : r.f < n
  s0 : 1 ≤ r.s
  s1 : r.s ≤ n
  l0 : 0 ≤ r.l
  l1 : r.l.natAbs < 2 ^ 200
  m0 : ∀ m, r.m = some m → 0 ≤ m ∧ m.natAbs < 2 ^ 200
theorem sm_opt {n : Int} {r : R4} (h : r.Ok n) : Sm 0 1921 (optD r.m) := by
  cases e : r.m with
  | none => exact sm_none
  | some m => exact sm_int (h.m0 m e).2
theorem sm_rule {n : Int} {r : R4} (hn : n ≤ 1000) (h : r.Ok n) : Sm 1 7694 (rD r) := by
  have h1 : r.f.natAbs < 2 ^ 200 := Nat.lt_of_lt_of_le (by have := h.f0; have := h.f1; omega : r.f.natAbs < 1001) (by decide)
  have h2 : r.s.natAbs < 2 ^ 200 := Nat.lt_of_lt_of_le (by have := h.s0; have := h.s1; omega : r.s.natAbs < 1001) (by decide)
  refine sm_tup (k := 0) (N := 1921) (ds := [.int r.f, .int r.s, .int r.l, optD r.m]) 4 (fun d hd => ?_) (by show 4 ≤ 4; decide)
  simp only [List.mem_cons, List.not_mem_nil, or_false] at hd
  rcases hd with rfl | rfl | rfl | rfl
  · exact sm_int h1
  · exact sm_int h2
  · exact sm_int h.l1
  · exact sm_opt h
theorem sm_rules {n : Int} {rs : List R4} (hn : n ≤ 1000) (hl : rs.length ≤ 40) (h : ∀ r ∈ rs, r.Ok n) : Sm 2 307842 (rDs rs) := by
  refine sm_tup (k := 1) (N := 7694) (ds := rs.map rD) 40 (fun d hd => ?_) (by rw [List.length_map]; exact hl)
  obtain ⟨r, hr, rfl⟩ := List.mem_map.mp hd
  exact sm_rule hn (h r hr)
theorem atI_mem {ds : List PyData} {r : Int} (h0 : 0 ≤ r) (h1 : r < ds.length) : ∃ z, atI ds r = some z ∧ z ∈ ds := by
  have hlt : r.toNat < ds.length := by omega
  refine ⟨ds[r.toNat], ?_, List.getElem_mem hlt⟩
  have e2 := atI_nat (List.getElem?_eq_getElem hlt)
  rwa [show ((r.toNat : Nat) : Int) = r by omega] at e2
theorem small_len {n : Nat} (h : n ≤ 100000) : n < sizeLine := by
  rw [sizeLine_eq]
  omega
theorem dInts_len (ns : List Int) : (dInts ns).length = ns.length := by simp [dInts]
theorem small_le {n : Nat} (h : n ≤ 100000) : n ≤ sizeLine := Nat.le_of_lt (small_len h)
theorem iteD {c A B : Prop} [Decidable c] (hc : c) (h : A) : if decide c = true then A else B := by
  rw [if_pos (decide_eq_true hc)]
  exact h
theorem iteNB {b : Bool} {A B : Prop} (hb : b = true) (h : B) : if (!b) = true then A else B := by
  subst hb
  exact iteF h
theorem iteB {b : Bool} {A B : Prop} (hb : b = true) (h : A) : if b = true then A else B := by
  subst hb
  exact iteT h
theorem iteDN {c A B : Prop} [Decidable c] (hc : ¬ c) (h : B) : if decide c = true then A else B := by
  rw [if_neg fun z => hc (of_decide_eq_true z)]
  exact h
theorem dInts_eqv : ∀ ns : List Int, PyData.eqvAll (dInts ns) (dInts ns) = true
  | [] => rfl
  | n :: ns => by
    simp only [dInts, List.map_cons, PyData.eqvAll, PyData.eqv, beq_self_eq_true, Bool.true_and]
    exact dInts_eqv ns
theorem dInts_lay : ∀ ns : List Int, PyData.canLayAll0 (dInts ns) = true
  | [] => rfl
  | n :: ns => by
    simp only [dInts, List.map_cons, PyData.canLayAll0, PyData.canLay0, Bool.true_and]
    exact dInts_lay ns
theorem shaped_lst (ns : List Int) : SeqAt.shaped (.list (dInts ns)) = true := by
  unfold SeqAt.shaped
  simp [PyData.canLay0, dInts_lay, PyData.depth, dInts_depth]
theorem lst_eqv (us : List Int) : PyData.eqv (.list (dInts us)) (.list (dInts us)) = true := by
  simp only [PyData.eqv, dInts_eqv]
theorem ne_lst {us : List Int} {P : PyData → Prop} (h : P (.bool false)) : rdNe (.list (dInts us)) (.list (dInts us)) P := by
  refine ⟨shaped_lst us, shaped_lst us, ?_⟩
  have e : PyData.eqv (.list (dInts us)) (.list (dInts us)) = true := by
    simp only [PyData.eqv, dInts_eqv]
  show (match PyData.bool (PyData.eqv (.list (dInts us)) (.list (dInts us))) with | .bool b => P (.bool (!b)) | _ => False)
  rw [e]
  exact h
end DL
namespace DL
open PySem PySem.Spec PyProof.Rows L2

/-! ### lists that the frame alone knows -/
section
variable {K : PySem.W.Frag} {E : En} {g g' : Gh} {env : Ev} {c : Nat} {σ : L2.St} {H : Hp}
theorem Rel.newOwn (r : Rel K E g env c σ H) (i : Nat) {p : Addr} {xs : List V} {l : List PyData} (hp : H p = none) (ha : DpAll K g.F xs l) : Rel K E g (env.set i (some (.own l))) c (σ.set i (some (.ref p))) (upd H p (.lst xs)) := by
  have keep : ∀ b o, H b = some o → upd H p (.lst xs) b = some o := fun b o e => by
    rw [upd_ne (ne_of_none e hp)]
    exact e
  have nd : ¬ isDk g p := fun h => by
    obtain ⟨o', e⟩ := r.deckLive h
    rw [hp] at e
    cases e
  have live : ∀ (j : Nat) (m : List PyData), env[j]? = some (some (Vl.own m)) → σ[j]? ≠ some (some (V.ref p)) := fun j m e z => by
    obtain ⟨v, h1, b, ys, e1, _, _, h5, _⟩ := r.sl j _ e
    rw [z] at h1
    cases h1
    cases e1
    rw [hp] at h5
    cases h5
  refine ⟨r.mo, r.md, r.mt, r.dn, r.nf, fun a o e n => keep a o (r.fr a o e n), fun j m e a ea => ?_, fun a o e => keep a o (r.ex a o e), fun j y e => ?_, fun j k lj lk a ne e1 e2 e3 e4 => ?_, fun a b e => ?_, by simpa using r.len⟩
  · rcases set_get e with ⟨rfl, hl, _⟩ | ⟨ne, e2⟩
    · rw [List.getElem?_set_self (by rw [← r.len]; exact hl)] at ea
      cases ea
      exact r.oldN hp
    · rw [List.getElem?_set_ne (Ne.symm ne)] at ea
      exact r.nw j m e2 a ea
  · rcases set_get e with ⟨rfl, hl, rfl⟩ | ⟨ne, e2⟩
    · exact ⟨.ref p, by rw [List.getElem?_set_self (by rw [← r.len]; exact hl)], p, xs, rfl, r.ex.free hp, nd, upd_same, ha⟩
    · obtain ⟨v, h1, h2⟩ := r.sl j y e2
      refine ⟨v, by rw [List.getElem?_set_ne (Ne.symm ne)]; exact h1, ?_⟩
      cases y with
      | dat d => exact h2
      | deck => exact h2
      | exc _ => exact h2
      | own m =>
        obtain ⟨b, ys, e1, h3, h4, h5, h6⟩ := h2
        exact ⟨b, ys, e1, h3, h4, keep b _ h5, h6⟩
  · rcases set_get e1 with ⟨rfl, hl, _⟩ | ⟨n1, f1⟩
    · rw [List.getElem?_set_self (by rw [← r.len]; exact hl)] at e3
      cases e3
      rcases set_get e2 with ⟨z, _, _⟩ | ⟨n2, f2⟩
      · exact ne z.symm
      · rw [List.getElem?_set_ne (Ne.symm n2)] at e4
        exact live k lk f2 e4
    · rw [List.getElem?_set_ne (Ne.symm n1)] at e3
      rcases set_get e2 with ⟨rfl, hl, _⟩ | ⟨n2, f2⟩
      · rw [List.getElem?_set_self (by rw [← r.len]; exact hl)] at e4
        cases e4
        exact live j lj f1 e3
      · rw [List.getElem?_set_ne (Ne.symm n2)] at e4
        exact r.ap j k lj lk a ne f1 f2 e3 e4
  · obtain ⟨h1, h2, h3, ns, h4, h5, h6, ys, h7, h8⟩ := r.dk a b e
    exact ⟨h1, h2, h3, ns, h4, h5, keep b _ h6, ys, keep a _ h7, h8⟩
/-- the list in slot i is written -/
theorem Rel.writeOwn (r : Rel K E g env c σ H) (i : Nat) {l m : List PyData} {p : Addr} {ys : List V} (e : env[i]? = some (some (.own l))) (es : σ[i]? = some (some (.ref p))) (ha : DpAll K g.F ys m) : Rel K E g (env.set i (some (.own m))) c σ (upd H p (.lst ys)) := by
  obtain ⟨v, h1, a, xs, e1, h3, h4, h5, h6⟩ := r.sl i _ e
  rw [es] at h1
  cases h1
  cases e1
  have keep : ∀ b o, b ≠ p → H b = some o → upd H p (.lst ys) b = some o := fun b o n e => by
    rw [upd_ne n]
    exact e
  have hi : i < env.length := (List.getElem?_eq_some_iff.mp e).1
  have back : ∀ (j : Nat) (q : List PyData), (env.set i (some (Vl.own m)))[j]? = some (some (Vl.own q)) → ∃ q', env[j]? = some (some (Vl.own q')) := fun j q ej => by
    rcases set_get ej with ⟨rfl, _, _⟩ | ⟨_, f⟩
    · exact ⟨l, e⟩
    · exact ⟨q, f⟩
  have oldp : E.H p = none := r.nw i l e p es
  refine ⟨r.mo, r.md, r.mt, r.dn, r.nf, fun b o eb n => keep b o (ne_of_none eb oldp) (r.fr b o eb n), fun j q ej b eb => ?_, fun b o eb => keep b o (ne_of_none eb h3) (r.ex b o eb), fun j y ej => ?_, fun j k lj lk b ne ej ek e3 e4 => ?_, fun b q eb => ?_, by simpa using r.len⟩
  · obtain ⟨q', f⟩ := back j q ej
    exact r.nw j q' f b eb
  · rcases set_get ej with ⟨rfl, hl, rfl⟩ | ⟨ne, f⟩
    · exact ⟨.ref p, es, p, ys, rfl, h3, h4, upd_same, ha⟩
    · obtain ⟨v, g1, g2⟩ := r.sl j y f
      refine ⟨v, g1, ?_⟩
      cases y with
      | dat d => exact g2
      | deck => exact g2
      | exc _ => exact g2
      | own q =>
        obtain ⟨b, zs, e1, k3, k4, k5, k6⟩ := g2
        subst e1
        exact ⟨b, zs, rfl, k3, k4, keep b _ (fun z => r.ap i j l q p (Ne.symm ne) e f es (by rw [g1, z])) k5, k6⟩
  · obtain ⟨qj, fj⟩ := back j lj ej
    obtain ⟨qk, fk⟩ := back k lk ek
    exact r.ap j k qj qk b ne fj fk e3 e4
  · obtain ⟨k1, k2, k3, ns, k4, k5, k6, yk, k7, k8⟩ := r.dk b q eb
    exact ⟨k1, k2, k3, ns, k4, k5, keep q _ (fun z => h4 ⟨b, q, eb, .inr z.symm⟩) k6, yk, keep b _ (fun z => h4 ⟨b, q, eb, .inl z.symm⟩) k7, k8⟩
/-- the list in slot i is data from now on -/
theorem Rel.freeze (r : Rel K E g env c σ H) (i : Nat) {l : List PyData} (e : env[i]? = some (some (.own l))) : ∃ g', Rel K E g' (env.set i (some (.dat (.list l)))) c σ H ∧ Same g.F g'.F := by
  obtain ⟨v, h1, p, xs, e1, h3, h4, h5, h6⟩ := r.sl i _ e
  subst e1
  have sF : Same g.F (upd g.F p (.lst xs)) := fun b o e => by
    rw [upd_ne (ne_of_none e h3)]
    exact e
  have hi : i < env.length := (List.getElem?_eq_some_iff.mp e).1
  have back : ∀ (j : Nat) (q : List PyData), (env.set i (some (Vl.dat (.list l))))[j]? = some (some (Vl.own q)) → j ≠ i ∧ env[j]? = some (some (Vl.own q)) := fun j q ej => by
    rcases set_get ej with ⟨_, _, z⟩ | f
    · cases z
    · exact f
  refine ⟨⟨upd g.F p (.lst xs), g.dk⟩, ⟨r.mo.trans sF, r.md, r.mt, r.dn, fun b o eb => ?_, r.fr, fun j q ej b eb => r.nw j q (back j q ej).2 b eb, fun b o eb => ?_, fun j y ej => ?_, fun j k lj lk b ne ej ek => r.ap j k lj lk b ne (back j lj ej).2 (back k lk ek).2, fun b q eb => ?_, by simpa using r.len⟩, sF⟩
  · have eb : upd g.F p (.lst xs) b = some o := eb
    by_cases hb : b = p
    · exact .inr (by rw [hb]; exact r.nw i l e p h1)
    · rw [upd_ne hb] at eb
      exact r.nf b o eb
  · have eb : upd g.F p (.lst xs) b = some o := eb
    by_cases hb : b = p
    · subst hb
      rw [upd_same] at eb
      rw [h5]
      exact eb
    · rw [upd_ne hb] at eb
      exact r.ex b o eb
  · rcases set_get ej with ⟨rfl, hl, rfl⟩ | ⟨ne, f⟩
    · exact ⟨.ref p, h1, .lst (.of upd_same) (dpAll_mono sF h6)⟩
    · obtain ⟨v, g1, g2⟩ := r.sl j y f
      refine ⟨v, g1, ?_⟩
      cases y with
      | dat d => exact dp_mono sF g2
      | deck => exact g2
      | exc _ => exact g2
      | own q =>
        obtain ⟨b, zs, e1, k3, k4, k5, k6⟩ := g2
        subst e1
        refine ⟨b, zs, rfl, ?_, k4, k5, dpAll_mono sF k6⟩
        show upd g.F p (.lst xs) b = none
        rw [upd_ne fun z => r.ap i j l q p (Ne.symm ne) e f h1 (by rw [g1, z])]
        exact k3
  · obtain ⟨k1, k2, k3, ns, k4, k5, k6, yk, k7, k8⟩ := r.dk b q eb
    refine ⟨k1, ?_, ?_, ns, k4, k5, k6, yk, k7, k8.mono sF⟩
    · show upd g.F p (.lst xs) b = none
      rw [upd_ne fun z => h4 ⟨b, q, eb, .inl z.symm⟩]
      exact k2
    · show upd g.F p (.lst xs) q = none
      rw [upd_ne fun z => h4 ⟨b, q, eb, .inr z.symm⟩]
      exact k3
end
def sNew (i : Nat) : DS := fun D env c => D.nx (env.set i (some (.own []))) c
def sApp (i : Nat) (da : DE) : DS := fun D env c => match env[i]? with
  | some (some (.own l)) => da env c fun x c1 => datK x fun d => l.length < sizeLine ∧ D.nx (env.set i (some (.own (l ++ [d])))) c1
  | _ => False
def sFrz (i : Nat) (dt : DS) : DS := fun D env c => match env[i]? with
  | some (some (.own l)) => dt D (env.set i (some (.dat (.list l)))) c
  | _ => False
section
variable {X : Cx} {E : En} {a b : Expr} {da db : DE} {pos : Pos}
/-- x = [] -/
theorem ds_new (i : Nat) {x : Str} {p1 p2 : Pos} (hN : X.N.Nodup) (hi : X.N[i]? = some x := by rfl) (hx : Loc X.env.scope x := by first | exact Or.inl rfl | exact Or.inr rfl) (hs : swapsWith (.List [] p1) (some (.Name x p2)) pos.line X.env = pure false := by rfl) (hf : X.fn x = true ∨ X.env.scope.names.lookup x = some .local := by first | exact .inl rfl | exact .inr rfl | assumption) :
    DPS X E (.Assign [.Name x p2] (.List [] p1) pos) (sNew i) := by
  refine ps_imp (ps_set hN hi hx (pe_lst pa_nil) hs hf) fun D σ H h => ?_
  obtain ⟨g, env, c, P, rel, q, k, _⟩ := h
  exact ⟨Nat.zero_le _, fun p hp => k _ c g _ _ q (Same.refl _) (rel.newOwn i hp .nil)⟩
/-- x.append(e) -/
theorem ds_app (i : Nat) {x : Str} {p1 p2 p3 : Pos} (h : DPE X E a da) (hN : X.N[i]? = some x := by rfl) (hv : Vis X.env.scope x := by first | exact Or.inl rfl | exact Or.inr (Or.inl rfl) | exact Or.inr (Or.inr rfl)) (h1 : (x == ("__debug__" : Str)) = false := by decide)
    (h2 : (x == ("__classdict__" : Str)) = false := by decide) (hb : attributeBase (.Name x p1) "append" X.env (eval (.Name x p1) X.env) = eval (.Name x p1) X.env := by rfl)
    (hfew : ((backTo p3 (starEach [a] X.env)).all (fun x => !x.1) && (backToKw p3 (keywordEach [] X.env)).all (fun x => x.1.isSome) && decide ([a].length + ([] : List Keyword).length + (if ([] : List Keyword).isEmpty then 0 else 1) < 30)) = true := by rfl)
    (hline : (p2.endLine == p3.line) = true := by rfl) (he : starEach [a] X.env = (false, eval a X.env) :: starEach [] X.env := by rfl) (hpl : (backTo p3 (starEach [] X.env)).any (·.1) = false := by rfl)
    (hs : swapsWith (.Call (.Attribute (.Name x p1) "append" p2) [a] [] p3) none pos.line X.env = pure false := by rfl) :
    DPS X E (.Expr (.Call (.Attribute (.Name x p1) "append" p2) [a] [] p3) pos) (sApp i da) := by
  refine ps_imp (ps_expr (pe_bm PySem.F.plainAttrs_list PySem.F.slot_list_append PySem.F.type_list_append mt_append (pe_var hN hv h1 h2) (pa_cons h pa_nil he) hb hfew hline he hpl) hs) fun D σ H h => ?_
  obtain ⟨g, env, c, P, rel, q, k, _⟩ := h
  unfold sApp at q
  split at q
  · rename_i l e
    obtain ⟨v, e1, p, xs, rfl, h3, h4, h5, h6⟩ := rel.sl i _ e
    refine ⟨_, e1, .inl ⟨rfl, _, .of h5⟩, g, env, c, _, rel, q, fun y c1 g1 H1 w p1 m1 r1 o1 f1 => ?_⟩
    cases y with
    | deck => exact p1.elim
    | exc _ => exact p1.elim
    | own l => exact p1.elim
    | dat d =>
      have h5' := m1.fr p _ h5 h4
      refine ⟨p, xs, w, rfl, rfl, h5', by rw [DpAll.len h6]; exact p1.1, k _ c1 g1 _ _ p1.2 m1.f (r1.writeOwn i e e1 (DpAll.app (dpAll_mono m1.f h6) (.cons o1 .nil)))⟩
  · exact q.elim
/-- ahead of what follows, the list in slot i becomes data -/
theorem ds_frz (i : Nat) {sts : List Stmt} {dt : DS} (h : DPSs X E sts dt) : DPSs X E sts (sFrz i dt) := by
  refine pss_imp h fun D σ H h => ?_
  obtain ⟨g, env, c, P, rel, q, k1, k2, k3, k4⟩ := h
  unfold sFrz at q
  split at q
  · rename_i l e
    obtain ⟨g', r', m⟩ := rel.freeze i e
    exact ⟨g', _, c, P, r', q, fun env2 c2 g2 σ2 H2 p2 m2 r2 => k1 env2 c2 g2 σ2 H2 p2 (m.trans m2) r2, fun x c2 env2 g2 σ2 H2 v p2 m2 r2 => k2 x c2 env2 g2 σ2 H2 v p2 (m.trans m2) r2, fun env2 c2 g2 σ2 H2 p2 m2 r2 => k3 env2 c2 g2 σ2 H2 p2 (m.trans m2) r2, fun env2 c2 g2 σ2 H2 p2 m2 r2 => k4 env2 c2 g2 σ2 H2 p2 (m.trans m2) r2⟩
  · exact q.elim
/-! ### x or y, of None and ints -/
def truK (d : PyData) (k : Bool → Prop) : Prop := match d with
  | .none => k false
  | .bool b => k b
  | .int i => k (i != 0)
  | .list xs => k (!xs.isEmpty)
  | .tuple xs => k (!xs.isEmpty)
  | _ => False
def dOrT (da db : DE) : DE := fun env c P => da env c fun x c1 => datK x fun d => truK d fun b => if b = true then P (.dat d) c1 else db env c1 P
theorem isEmpty_dp {K : PySem.W.Frag} {F : Hp} {xs : List V} {ds : List PyData} (h : DpAll K F xs ds) : xs.isEmpty = ds.isEmpty := by cases h <;> rfl
theorem truK_dp {K : PySem.W.Frag} {H : Hp} {v : V} {d : PyData} {k : Bool → Prop} (h : Dp K H v d) (q : truK d k) : ∃ b, TruV K v H b ∧ k b := by
  cases h with
  | non => exact ⟨_, rfl, q⟩
  | bl b => exact ⟨_, rfl, q⟩
  | int i => exact ⟨_, rfl, q⟩
  | str x => exact q.elim
  | lst hs ha => exact ⟨_, .inl ⟨_, hs, rfl⟩, by rw [isEmpty_dp ha]; exact q⟩
  | tup hs ha => exact ⟨_, .inr (.inl ⟨_, hs, rfl⟩), by rw [isEmpty_dp ha]; exact q⟩
  | dct hs ha => exact q.elim
theorem de_orT {rest : List Expr} (h : DPE X E a da) (h2 : DPE X E (.BoolOp .Or (b :: rest) pos) db) : DPE X E (.BoolOp .Or (a :: b :: rest) pos) (dOrT da db) := by
  refine pe_imp (pe_orT h h2) fun σ H Q h => ?_
  obtain ⟨g, env, c, P, rel, q, k⟩ := h
  refine ⟨g, env, c, _, rel, q, fun x c1 g1 H1 v p1 m1 r1 o1 f1 => ?_⟩
  cases x with
  | deck => exact p1.elim
  | exc _ => exact p1.elim
  | own l => exact p1.elim
  | dat d =>
    have p1 : truK d (fun b => if b = true then P (.dat d) c1 else db env c1 P) := p1
    obtain ⟨bb, t, p2⟩ := truK_dp (dpF r1 o1) p1
    refine ⟨bb, t, ?_⟩
    cases bb with
    | true => exact iteT (k _ _ g1 H1 v p2 m1 r1 o1 f1)
    | false => exact iteF ⟨g1, env, c1, _, r1, p2, fun y c2 g2 H2 v2 p3 m2 r2 o2 f2 => k _ _ g2 H2 v2 p3 (m1.trans m2) r2 o2 f2⟩
end
end DL
namespace DL
open PySem PySem.Spec PyProof.Rows L2
/-! ### enumerate of a tuple -/
theorem meets_enum1 {v : Value} {o : Obj} {G : Heap → Prop} (B : Begins v o G) : Meets (Builtin.«enumerate.__new__» ⟨[.type "enumerate", v], []⟩) (fun _ R s => G s.heap ∧
    R (.ok (.ret (.ref (s.heap.push o).objs.size))) { s with heap := (s.heap.push o).push { cls := .type "enumerate", data := .fields #[.none, .bool false, .ref s.heap.objs.size, rawInt 0, .none, .none] } }) := by
  refine .of_wp fun prog w A R st hst => ?_
  obtain ⟨hp, gn, dr, tk, os⟩ := st
  obtain ⟨hg, hR⟩ := hst
  have hsub := sub_enumerate
  have go : ∀ {A' : Around} {E' : Value → Shared → Prop} {Q : Value → Shared → Prop}, Q (.ref hp.objs.size) ⟨hp.push o, gn, dr, tk, os⟩ → wpAny (model prog w) A' (pyIter v) Q E' ⟨hp, gn, dr, tk, os⟩ := fun q => B.iter prog w _ _ ⟨hp, gn, dr, tk, os⟩ _ hg q
  wp_walk using go
  refine wpAny_stack_any (fun stk => wpAny_pure ?_)
  split
  · rename_i cc _ _ _ _ _
    cases (cc == Value.type "enumerate") <;> (wp_walk using go; exact ⟨_, rfl, hR⟩)
  · wp_walk using go
    exact ⟨_, rfl, hR⟩
section
variable {prog : Program} {w : World} {A : Around} {E : Value → Shared → Prop} {s : Shared}
theorem enum_begins1 {v : Value} {o : Obj} {G : Heap → Prop} {Q : Value → Shared → Prop} (B : Begins v o G) (h1 : G s.heap)
    (h : ∀ h', IsEnum h' (s.heap.objs.size + 1) s.heap.objs.size 0 .none → h'.get? s.heap.objs.size = some o → h'.objs.size = s.heap.objs.size + 2 → (∀ b u, s.heap.get? b = some u → h'.get? b = some u) → Q (.ref (s.heap.objs.size + 1)) { s with heap := h' }) :
    wpAny (model prog w) A (call (.type "enumerate") [v]) Q E s := by
  refine callType_new F.called_enumerate (by decide) (F.typeCall_enumerate_1 _) (F.newCall_enumerate_1 _) (fun obj => F.args_object_init_2 obj _) F.entry_enumerate_new (meets_enum1 B) ⟨h1, ?_⟩
  have hz : (s.heap.push o).objs.size = s.heap.objs.size + 1 := Heap.size_push ..
  have he := Heap.get?_push_size (s.heap.push o) (o := { cls := .type "enumerate", data := .fields #[.none, .bool false, .ref s.heap.objs.size, rawInt 0, .none, .none] }) rfl
  rw [hz] at he
  show _ ∧ _
  rw [hz]
  exact ⟨⟨_, he, rfl⟩, h _ he (Heap.get?_push_of_some _ (Heap.get?_push_size _ B.free)) (by rw [Heap.size_push, hz]) fun b u x => Heap.get?_push_of_some _ (Heap.get?_push_of_some _ x)⟩
end
/-- the tuple at a, each item in a new pair with its place -/
def ItE (K : PySem.W.Frag) (a : Addr) : It where
  go := fun i H => ∃ (xs : List V) (x : V), SqT K H a xs ∧ xs[i]? = some x
  yld := fun i H v H' => ∃ T x, v = .ref T ∧ H T = none ∧ H' = upd H T (.tup [.int (i : Nat), x]) ∧ ∀ xs, SqT K H a xs → xs[i]? = some x
  stop := fun i H => ∃ xs : List V, SqT K H a xs ∧ xs.length = i
theorem iter_ne {h : Heap} {it a : Addr} {i : Nat} {its : Array Value} (h1 : h.IsTupleIter it a i) (h2 : h.IsTuple a its) : a ≠ it := fun z => by
  obtain ⟨o, e1, c1, _⟩ := h1
  obtain ⟨o2, e2, c2, _⟩ := h2
  rw [z, e1] at e2
  cases e2
  rw [c1] at c2
  simp at c2
theorem turn_enumT {P : Program} {w : World} {K : PySem.W.Frag} {elts : List Expr} {kk : Nat} {tpos : Pos} (a e it : Addr) (hae : a ≠ e) :
    Turn P w K (.Tuple elts kk tpos) (ItE K a) [e, it] e (fun i h => (∃ old, IsEnum h e it ((i : Nat) : Int) old) ∧ h.IsTupleIter it a i ∧ e ≠ it) where
  mem := List.mem_cons_self
  obj := fun i h st b hb => by
    obtain ⟨⟨old, he⟩, ⟨o, ho, hc, hd⟩, _⟩ := st
    rcases List.mem_cons.mp hb with z | z
    · rw [z]
      exact ⟨_, he, (fun v q => nomatch q)⟩
    · rw [List.mem_singleton.mp z]
      exact ⟨o, ho, fun v q => by rw [hd] at q; cases q⟩
  keep := fun i h h' st k => ⟨st.1.elim fun old he => ⟨old, k e List.mem_cons_self _ he⟩, st.2.1.at fun o q => k it (List.mem_cons_of_mem _ List.mem_cons_self) o q, st.2.2⟩
  item := by
    intro X hP hw hK hc i pins s σ H E I hf st hg
    subst hP hw hK
    obtain ⟨⟨old, he⟩, hit, hne⟩ := st
    obtain ⟨xs, x, hq, hx⟩ := hg
    obtain ⟨its, rv, pt, hz⟩ := I.tuple hq
    obtain ⟨u, hu, ru⟩ := rv.get hx
    have pt : s.heap.IsTuple a its.toArray := pt
    have hai : a ≠ it := iter_ne hit pt
    have hlt : i < its.toArray.size := by simpa using (List.getElem?_eq_some_iff.mp hu).1
    have hel : e < s.heap.objs.size := Heap.lt_size he
    have hil : it < s.heap.objs.size := by
      obtain ⟨_, q, _⟩ := hit
      exact Heap.lt_size q
    refine wpAny_pyNext_enum_itemC (Draws.tuple (A := X.A.in1) (I.ok.hd hc) it a hai its.toArray) he ⟨hit, pt⟩ hlt hne (by simp [hne, hae.symm]) fun x2 h' tk hP2 ho hst' hT hsz hk => ?_
    have ex : x2 = u := by
      have hP3 : its.toArray[i]? = some x2 := hP2
      rw [List.getElem?_toArray, hu] at hP3
      exact (Option.some.inj hP3).symm
    subst ex
    refine ⟨_, rfl, wpAny_letOwnedTupleGo_enum (s := { s with heap := h', toks := tk + 1 }) ho fun h'' he' sb => ?_⟩
    have hT2 : h''.get? s.heap.objs.size = some { cls := .type "tuple", data := .seq #[.int i tk, x2] } := (sb.2 _ (Nat.ne_of_gt hel)).trans hT
    have made : ObjOk X.prog X.w (upd H s.heap.objs.size (.tup [.int (i : Nat), x])) h'' s.heap.objs.size (.tup [.int (i : Nat), x]) := ⟨by show 2 ≤ sizeLine; decide, [.int i tk, x2], .cons ⟨_, rfl⟩ (.cons ru .nil), ⟨_, hT2, rfl, _, rfl⟩⟩
    have J : L2.Inv X pins σ (upd H s.heap.objs.size (.tup [.int (i : Nat), x])) { s with heap := h'', toks := tk + 1 } :=
      I.turnedNew (ch := [e, it]) (fun b ob hb q => (sb.2 b (fun z => hb (by simp [z]))).trans (hk b ob (fun z => hb (by simp [z])) (fun z => hb (by simp [z])) q)) hf (Nat.le_refl _) made
    refine ⟨.ref s.heap.objs.size, _, J, rfl, ⟨_, x, rfl, I.hok.fresh (Nat.le_refl _), rfl, fun ys hy => by rw [I.tuple_inj hy hq]; exact hx⟩, ⟨⟨x2, ?_⟩, hst'.1.at fun o q => (sb.2 it (Ne.symm hne)).trans q, hne⟩, fun b hb => ?_⟩
    · rw [show ((i + 1 : Nat) : Int) = (i : Int) + 1 by omega]
      exact he'
    · have hb' : b < s.heap.objs.size := by
        rcases List.mem_cons.mp hb with z | z
        · rw [z]
          exact hel
        · rw [List.mem_singleton.mp z]
          exact hil
      rw [upd_ne (Nat.ne_of_lt hb')]
      exact (hf b hb).1
  done := by
    intro X hP hw hK hc i pins s σ H E I hf st hg
    subst hP hw hK
    obtain ⟨⟨old, he⟩, hit, hne⟩ := st
    obtain ⟨xs, hq, hx⟩ := hg
    obtain ⟨its, rv, pt, hz⟩ := I.tuple hq
    have pt : s.heap.IsTuple a its.toArray := pt
    have hai : a ≠ it := iter_ne hit pt
    have hl := rv.length
    have hn : its.toArray.size = i := by
      rw [List.size_toArray]
      omega
    obtain ⟨f0, f1, f2, f3, f4, f5⟩ := hf it (List.mem_cons_of_mem _ List.mem_cons_self)
    subst hn
    exact wpAny_pyNext_enum_endD (Draws.tuple (A := X.A.in1) (I.ok.hd hc) it a hai its.toArray) he ⟨hit, pt⟩ fun h' eb => ⟨rfl, I.turned (t' := s.toks) (fun b o hb q => eb b o hb q) f0 f1 f3 f4 f5⟩
  self := fun A i s Q E st h => st.1.elim fun _ he => wpAny_pyIter_enum he h
theorem walk_enumT {K : PySem.W.Frag} {a : Addr} {xs : List V} : Walk (ItE K a) xs.length (fun H => SqT K H a xs) (YPair (fun i => some (.int (i : Nat))) (fun i => xs[i]?)) := by
  refine ⟨fun i H hi h => ⟨xs, xs[i], h, List.getElem?_eq_getElem hi⟩, fun H h => ⟨xs, h, rfl⟩, fun i H v H' hi h y => ?_⟩
  obtain ⟨T, x, e1, e2, e3, f1⟩ := y
  exact ⟨T, .int (i : Nat), x, e1, e2, e3, rfl, f1 xs h⟩
def enumD (ds : List PyData) : List PyData := (List.range ds.length).map fun i => .tuple [.int (i : Nat), ds.getD i .none]
def wEnumerateT (da : DA) : DI := fun env c P => da env c fun xs c1 => datsK xs fun ds => match ds with
  | [.tuple xs] => P (enumD xs) c1
  | _ => False
section
variable {X : Cx} {E : En} {a : Expr} {pos : Pos}
theorem dw_enumerateT {elts : List Expr} {kk : Nat} {dr : DA} {p tpos : Pos} (ha : DPA X E [a] dr) (hm : X.mg "enumerate" = none) (hg : Gl X "enumerate" := by rfl) (hs : starEach [a] X.env = [(false, eval a X.env)] := by rfl) :
    DPI X E (.Tuple elts kk tpos) (.Call (.Name "enumerate" p) [a] [] pos) (wEnumerateT dr) := by
  refine ⟨fun pins s σ H R I h => ?_⟩
  obtain ⟨g, env, c, P, rel, q, k⟩ := h
  refine Call_ (ld_blt I hg hm boot_enumerate (PyProof.Rows.callWith_type1 (thn (ha.run pos pins s σ H (fun vs H1 => ∃ g1 c1 ds, Rel X.K E g1 env c1 σ H1 ∧ Mv g H g1 H1 ∧ DpAll X.K g1.F vs [.tuple ds] ∧ P (enumD ds) c1) I ⟨g, env, c, _, rel, q, fun xs c1 g1 H1 vs p1 m1 r1 o1 f1 => ?_⟩) fun us s1 hq => ?_) hs rfl))
  · obtain ⟨ds, h1, h2⟩ := datsK_all o1 p1
    split at h1
    · exact ⟨g1, c1, _, r1, m1, h2, h1⟩
    · exact h1.elim
  · obtain ⟨vs, H1, I1, rv, g1, c1, ds, r1, m1, ha, hp⟩ := hq
    cases ha with
    | cons h1 t =>
      cases t
      cases h1 with
      | tup hsq hal =>
        cases rv with
        | cons ra rb =>
          cases rb
          cases ra
          rename_i ad xs
          have hsq1 := seqT r1.ex hsq
          obtain ⟨its, rvt, pt, hz⟩ := I1.tuple hsq1
          have pt : s1.heap.IsTuple ad its.toArray := pt
          have alt : ad < s1.heap.objs.size := by
            obtain ⟨o, e, _⟩ := id pt
            exact Heap.lt_size e
          refine enum_begins1 (begins_tuple ad its.toArray) pt fun h' he hit hsz hk => wpAny_pyIter_enum he ?_
          have I2 : L2.Inv X pins σ H1 { s1 with heap := h' } := I1.kept (t' := s1.toks) hk
          refine ⟨s1.heap.objs.size + 1, [s1.heap.objs.size + 1, s1.heap.objs.size], _, _, H1, rfl, I2, turn_enumT ad (s1.heap.objs.size + 1) s1.heap.objs.size (Nat.ne_of_lt (Nat.lt_succ_of_lt alt)), ⟨⟨.none, he⟩, ⟨_, hit, rfl, rfl⟩, Nat.succ_ne_self _⟩, fun b hb => ?_, ?_⟩
          · have hle : s1.heap.objs.size ≤ b := by
              rcases List.mem_cons.mp hb with z | z
              · rw [z]
                exact Nat.le_succ _
              · rw [List.mem_singleton.mp z]
                exact Nat.le_refl _
            exact I1.fpOk hle (I1.hok.fresh hle)
          · have hlen : xs.length = (enumD ds).length := by
              unfold enumD
              rw [List.length_map, List.length_range, DpAll.len hal]
            refine k _ c1 g1 H1 _ hp m1 r1 ⟨_, _, by rw [← hlen]; exact walk_enumT, fun g' H' m e => seqT e (seqT m hsq), fun i H2 x2 H3 d2 e y => ?_⟩
            obtain ⟨T, x, y, rfl, hT, rfl, hx, hy⟩ := y
            cases hx
            obtain ⟨dy, ey, py⟩ := DpAll.getV hal hy
            have hi : i < ds.length := (List.getElem?_eq_some_iff.mp ey).1
            have e2 : d2 = .tuple [.int (i : Nat), dy] := by
              unfold enumD at e
              rw [List.getElem?_map, List.getElem?_range hi, Option.map_some, List.getD_eq_getElem?_getD, ey] at e
              exact (Option.some.inj e).symm
            subst e2
            refine .inr ⟨T, _, hT, rfl, fun F hF hFT => .tup (.of upd_same) ?_⟩
            have sF : Same F (upd F T (.tup [.int (i : Nat), y])) := fun b o e => by
              rw [upd_ne (ne_of_none e hFT)]
              exact e
            exact .cons (.int _) (.cons (dp_mono (hF.trans sF) py) .nil)
end
end DL
namespace DL
open PySem PySem.Spec PyProof.Rows L2
/-! ### a tuple times a number -/
theorem tup_times1 (l : Addr) (items : Array Value) (n : Nat) (dd : Option Addr) (sl : Array (Option Value)) (u : Tok) :
    Meets (Builtin.«tuple.__mul__» ⟨[.ref l, .int 1 u], []⟩) (fun _ R s => s.heap.get? l = some { cls := .type "tuple", dict := dd, data := .seq items n, slots := sl } ∧ R (.ok (.ret (.ref l))) s) := by
  refine .of_wp fun prog w A R st hst => ?_
  obtain ⟨hp, gn, dr, tk, os⟩ := st
  obtain ⟨hl, hR⟩ := hst
  have f1 := AutoSeq1.idx_int
  wp_walk using wpAny_loadPart' hl
  exact ⟨_, rfl, hR⟩
theorem tup_times0 (l : Addr) (items : Array Value) (n : Nat) (dd : Option Addr) (sl : Array (Option Value)) (u : Tok) (hi : items.isEmpty = false) :
    Meets (Builtin.«tuple.__mul__» ⟨[.ref l, .int 0 u], []⟩) (fun _ R s => s.heap.get? l = some { cls := .type "tuple", dict := dd, data := .seq items n, slots := sl } ∧
      R (.ok (.ret (Value.ref s.heap.objs.size))) { s with heap := s.heap.push { cls := Value.type "tuple", data := Data.seq #[] } }) := by
  refine .of_wp fun prog w A R st hst => ?_
  obtain ⟨hp, gn, dr, tk, os⟩ := st
  obtain ⟨hl, hR⟩ := hst
  have f1 := AutoSeq1.idx_int
  have c1 : (items.isEmpty || (0 : Int) == 1) = false := by
    rw [hi]
    rfl
  wp_walk using wpAny_loadPart' hl
  exact ⟨_, rfl, hR⟩
def rRep01 (K : PySem.W.Frag) : R2 := fun x y H Q => ∃ l k xs, x = .ref l ∧ y = .int k ∧ SqT K H l xs ∧ xs ≠ [] ∧ ((k = 1 ∧ Q (.ref l) H) ∨ (k = 0 ∧ ∀ p, H p = none → Q (.ref p) (upd H p (.tup []))))
section
variable {X : Cx}
theorem op_rep01 : OpR X (binaryOp .Mult) (rRep01 X.K) := by
  intro pins s σ H x y v u Q I rx ry h
  obtain ⟨l, k, xs, rfl, rfl, hT, hne, q⟩ := h
  cases rx
  obtain ⟨t, rfl⟩ := ry
  obtain ⟨its, r, ⟨⟨cls, dd, data, sl⟩, ho, hc, n, hd⟩, hs⟩ := I.tuple hT
  simp only at hc hd
  subst hc hd
  have hi : its.toArray.isEmpty = false := by
    cases r with
    | nil => exact absurd rfl hne
    | cons a b => rfl
  rcases q with ⟨rfl, q⟩ | ⟨rfl, q⟩
  · exact wpAny_binaryOp_repeat_ref (T := "tuple") (U := "int") (by decide) ⟨_, ho, rfl⟩ (fun s' => typeIs_int s' 1 t) noFill_tuple_mul F.fills_int_mul F.slot_int_rmul repeat_tuple F.slot_int_index.lookup
      (call_meets F.slot_int_rmul (typeIs_int s 1 t) F.entry_int_rmul (F.args_int_rmul_2 _ _) (int_rmul_tuple 1 t l its.toArray n dd sl)
        ⟨ho, rfl, ⟨_, ho, rfl⟩, call_meets F.slot_tuple_mul ⟨_, ho, rfl⟩ F.entry_tuple_mul (F.args_tuple_mul_2 _ _) (tup_times1 l its.toArray n dd sl t) ⟨ho, ⟨.ref l, H, I, rfl, q⟩⟩⟩)
  · refine wpAny_binaryOp_repeat_ref (T := "tuple") (U := "int") (by decide) ⟨_, ho, rfl⟩ (fun s' => typeIs_int s' 0 t) noFill_tuple_mul F.fills_int_mul F.slot_int_rmul repeat_tuple F.slot_int_index.lookup
      (call_meets F.slot_int_rmul (typeIs_int s 0 t) F.entry_int_rmul (F.args_int_rmul_2 _ _) (int_rmul_tuple 0 t l its.toArray n dd sl)
        ⟨ho, rfl, ⟨_, ho, rfl⟩, call_meets F.slot_tuple_mul ⟨_, ho, rfl⟩ F.entry_tuple_mul (F.args_tuple_mul_2 _ _) (tup_times0 l its.toArray n dd sl t hi) ⟨ho, ?_⟩⟩)
    refine ⟨.ref s.heap.objs.size, _, I.laid (t' := s.toks) (o := .tup []) (fun b ob q => Heap.get?_push_of_some _ q) (Nat.le_refl _) ?_, rfl, q _ (I.hok.fresh (Nat.le_refl _))⟩
    exact ⟨Nat.zero_le _, [], .nil, IsTup.new _ _⟩
end
def rdMulU : PyData → PyData → (PyData → Prop) → Prop := fun d e P => match d, e with
  | .int i, .int j => CMul i j ∧ P (.int (i * j))
  | .tuple xs, .int k => xs ≠ [] ∧ 0 ≤ k ∧ k ≤ 1000 ∧ xs.length ≤ 1000 ∧ P (.tuple (List.replicate k.toNat xs).flatten)
  | _, _ => False
theorem DpAll.rep {K : PySem.W.Frag} {F : Hp} {xs : List V} {ds : List PyData} (h : DpAll K F xs ds) : ∀ n : Nat, DpAll K F (List.replicate n xs).flatten (List.replicate n ds).flatten
  | 0 => .nil
  | n + 1 => by
    rw [List.replicate_succ, List.replicate_succ, List.flatten_cons, List.flatten_cons]
    exact DpAll.app h (DpAll.rep h n)
theorem opd_mulU {K : PySem.W.Frag} : OpD K (fun x y H Q => rI CMul (fun i j => .int (i * j)) x y H Q ∨ (rRepT K x y H Q ∨ rRep01 K x y H Q)) rdMulU := by
  intro E g env c σ H x y d e P Q r hx hy q k
  unfold rdMulU at q
  split at q
  · exact .inl ⟨_, _, dp_int hx, dp_int hy, q.1, k _ g H _ q.2 (Mv.refl g H) r (.int _)⟩
  · rename_i xs kk
    obtain ⟨hne, h0, h1, hl, q⟩ := q
    cases hx with
    | tup hs ha =>
      rename_i a vs
      have hv : vs ≠ [] := fun z => by
        subst z
        cases ha
        exact hne rfl
      by_cases h2 : 2 ≤ kk
      · refine .inr (.inl ⟨_, kk, vs, rfl, dp_int hy, seqT r.ex hs, hv, h2, h1, by rw [DpAll.len ha]; exact hl, fun p hp => ?_⟩)
        obtain ⟨r2, m2⟩ := r.new (.tup _) hp
        exact k _ _ _ _ q m2 r2 (.tup (.of upd_same) (dpAll_mono m2.f (DpAll.rep ha _)))
      · refine .inr (.inr ⟨_, kk, vs, rfl, dp_int hy, seqT r.ex hs, hv, ?_⟩)
        have hk : kk = 1 ∨ kk = 0 := by omega
        rcases hk with rfl | rfl
        · refine .inl ⟨rfl, ?_⟩
          have q : P (.tuple (List.replicate 1 xs).flatten) := q
          rw [show (List.replicate 1 xs).flatten = xs by simp] at q
          exact k _ g H _ q (Mv.refl g H) r (.tup hs ha)
        · refine .inr ⟨rfl, fun p hp => ?_⟩
          obtain ⟨r2, m2⟩ := r.new (.tup []) hp
          exact k _ _ _ _ q m2 r2 (.tup (.of upd_same) .nil)
  · exact q.elim
section
variable {X : Cx} {E : En} {a b : Expr} {da db : DE} {pos : Pos}
theorem de_mulU (ha : DPE X E a da) (hb : DPE X E b db) : DPE X E (.BinOp a .Mult b pos) (dOp rdMulU da db) := de_op (OpR.or op_mul (OpR.or op_repT op_rep01)) opd_mulU ha hb
end
end DL
namespace DL
open PySem PySem.Spec PyProof.Rows L2
/-! ### while -/
def sWhile (t : DT) (db : DS) : DS := fun D env c => ∃ W : Nat → Ev → Nat → Prop, (∃ m, W m env c) ∧ ∀ m env c, W m env c →
  t env c fun b c1 => if b = true then db { nx := fun e c' => ∃ m', m' < m ∧ W m' e c', ct := fun e c' => ∃ m', m' < m ∧ W m' e c', bk := D.nx, rt := D.rt } env c1 else D.nx env c1
section
variable {X : Cx} {E : En} {a b : Expr} {da db : DE} {pos : Pos}
theorem ds_while {t : DT} {ds : DS} {body : List Stmt} (ht : DPT X E a t) (hb : DPSs X E body ds) (hp : PassesOwn (model X.prog X.w) X.A X.env X.xe := by exact PassesOwn.never) : DPS X E (.While a body [] pos) (sWhile t ds) := by
  refine ps_imp (ps_while hp ht hb) fun D σ H h => ?_
  obtain ⟨g, env, c, P, rel, ⟨W, ⟨m0, w0⟩, step⟩, k1, k2, k3, k4⟩ := h
  refine ⟨fun m σ' H' => ∃ g' env' c', Same g.F g'.F ∧ Rel X.K E g' env' c' σ' H' ∧ W m env' c', ⟨m0, g, env, c, Same.refl _, rel, w0⟩, ?_⟩
  rintro m σ' H' ⟨g', env', c', sm, r, w⟩
  refine ⟨g', env', c', _, r, step m env' c' w, fun b c1 g1 H1 p1 m1 r1 => ?_⟩
  cases b with
  | false => exact iteF (k1 env' c1 g1 σ' H1 p1 (sm.trans m1.f) r1)
  | true =>
    refine iteT ⟨fun σ2 H2 => ∃ m', m' < m ∧ ∃ g2 env2 c2, Same g.F g2.F ∧ Rel X.K E g2 env2 c2 σ2 H2 ∧ W m' env2 c2, fun σ2 H2 hN => hN, g1, env', c1, _, r1, p1, fun env2 c2 g2 σ2 H2 p2 m2 r2 => ?_, fun x c2 env2 g2 σ2 H2 v p2 m2 r2 => k2 x c2 env2 g2 σ2 H2 v p2 ((sm.trans m1.f).trans m2) r2, fun env2 c2 g2 σ2 H2 p2 m2 r2 => k1 env2 c2 g2 σ2 H2 p2 ((sm.trans m1.f).trans m2) r2, fun env2 c2 g2 σ2 H2 p2 m2 r2 => ?_⟩
    · obtain ⟨m', lt, w'⟩ := p2
      exact ⟨m', lt, g2, env2, c2, (sm.trans m1.f).trans m2, r2, w'⟩
    · obtain ⟨m', lt, w'⟩ := p2
      exact ⟨m', lt, g2, env2, c2, (sm.trans m1.f).trans m2, r2, w'⟩
/-! ### an own list read and written by place -/
def dOwnIx (i : Nat) (db : DE) : DE := fun env c P => match env[i]? with
  | some (some (.own l)) => db env c fun y c1 => datK y fun e => ixK l e fun z => P (.dat z) c1
  | _ => False
theorem de_ownIx (i : Nat) {x : Str} {p1 : Pos} (hb : DPE X E b db) (hN : X.N[i]? = some x := by rfl) (hv : Vis X.env.scope x := by first | exact Or.inl rfl | exact Or.inr (Or.inl rfl) | exact Or.inr (Or.inr rfl)) (h1 : (x == ("__debug__" : Str)) = false := by decide)
    (h2 : (x == ("__classdict__" : Str)) = false := by decide) (hs : PlainIx b := by exact fun _ _ => rfl) : DPE X E (.Subscript (.Name x p1) b pos) (dOwnIx i db) := by
  refine pe_imp (pe_ix ix_list (pe_var hN hv h1 h2) hb hs) fun σ H Q h => ?_
  obtain ⟨g, env, c, P, rel, q, k⟩ := h
  unfold dOwnIx at q
  split at q
  · rename_i l e
    obtain ⟨v, e1, p, xs, rfl, h3, h4, h5, h6⟩ := rel.sl i _ e
    refine ⟨_, e1, g, env, c, _, rel, q, fun y c1 g1 H1 w p1 m1 r1 o1 f1 => ?_⟩
    cases y with
    | deck => exact p1.elim
    | exc _ => exact p1.elim
    | own l => exact p1.elim
    | dat d =>
      have p2 : ixK l d fun z => P (.dat z) c1 := p1
      clear p1
      cases d <;> try exact p2.elim
      rename_i j
      have p1 : (match atI l j with | some z => P (.dat z) c1 | none => False) := p2
      cases hz : atI l j with
      | none => rw [hz] at p1; exact p1.elim
      | some z =>
        rw [hz] at p1
        obtain ⟨u, g1', g2⟩ := atI_dp (dpAll_mono m1.f h6) hz
        exact ⟨p, xs, j, u, rfl, dp_int o1, .of (m1.fr p _ h5 h4), g1', k _ _ g1 H1 u p1 m1 r1 g2 trivial⟩
  · exact q.elim
def sOwnSet (i : Nat) (da db : DE) : DS := fun D env c => da env c fun x c1 => datK x fun d => match env[i]? with
  | some (some (.own l)) => db env c1 fun y c2 => datK y fun e => intK e fun j => ∃ k, ixN l.length j = some k ∧ D.nx (env.set i (some (.own (l.set k d)))) c2
  | _ => False
theorem ds_ownSet (i : Nat) {x : Str} {p1 p2 : Pos} (ha : DPE X E a da) (hb : DPE X E b db) (hN : X.N[i]? = some x := by rfl) (hv : Vis X.env.scope x := by first | exact Or.inl rfl | exact Or.inr (Or.inl rfl) | exact Or.inr (Or.inr rfl)) (h1 : (x == ("__debug__" : Str)) = false := by decide)
    (h2 : (x == ("__classdict__" : Str)) = false := by decide) (hg : PG X (.Subscript (.Name x p1) b p2) (gSub (tVar i) (up X.K E db) rSetL) := by exact pg_sub (pe_var rfl (by first | exact Or.inl rfl | exact Or.inr (Or.inl rfl) | exact Or.inr (Or.inr rfl))) (by assumption) set_list)
    (hs : swapsWithSole [.Subscript (.Name x p1) b p2] a pos.line X.env = pure false := by rfl) (hw : swappedStores [.Subscript (.Name x p1) b p2] a X.env = pure none := by rfl)
    (h3 : (assignEach [.Subscript (.Name x p1) b p2] X.env).map (·.2) = [assign (.Subscript (.Name x p1) b p2) X.env] := by rfl) : DPS X E (.Assign [.Subscript (.Name x p1) b p2] a pos) (sOwnSet i da db) := by
  refine ps_imp (ps_asg ha hg hs hw h3) fun D σ H h => ?_
  obtain ⟨g, env, c, P, rel, q, k, _⟩ := h
  refine ⟨g, env, c, _, rel, q, fun x c1 g1 H1 v p1 m1 r1 o1 f1 => ?_⟩
  cases x with
  | deck => exact p1.elim
  | exc _ => exact p1.elim
  | own l => exact p1.elim
  | dat d =>
    have p1 : (match env[i]? with | some (some (.own l)) => db env c1 fun y c2 => datK y fun e => intK e fun j => ∃ k, ixN l.length j = some k ∧ P.nx (env.set i (some (.own (l.set k d)))) c2 | _ => False) := p1
    split at p1
    · rename_i l e
      obtain ⟨v2, e1, p, xs, rfl, h3, h4, h5, h6⟩ := r1.sl i _ e
      refine ⟨_, e1, g1, env, c1, _, r1, p1, fun y c2 g2 H2 w p2 m2 r2 o2 f2 => ?_⟩
      cases y with
      | deck => exact p2.elim
      | exc _ => exact p2.elim
      | own l => exact p2.elim
      | dat d2 =>
        cases d2 <;> try exact p2.elim
        obtain ⟨kk, hk, p2⟩ := p2
        refine ⟨p, xs, _, kk, rfl, dp_int o2, m2.fr p _ h5 h4, by rw [DpAll.len h6]; exact hk, k _ c2 g2 _ _ p2 (m1.f.trans m2.f) (r2.writeOwn i e e1 (DpAll.setV (dp_mono m2.f o1) kk (dpAll_mono m2.f h6)))⟩
    · exact p1.elim
/-! ### list(x), and x = list(y) -/
def rdList : List PyData → (PyData → Prop) → Prop := fun ds P => match ds with
  | [.list xs] => P (.list xs)
  | [.tuple xs] => P (.list xs)
  | _ => False
theorem cd_list {K : PySem.W.Frag} : CallD K (fun xs H Q => ∃ p ys, xs = [V.ref p] ∧ (SqL K H p ys ∨ SqT K H p ys) ∧ ∀ l, H l = none → Q (.ref l) (upd H l (.lst ys))) rdList := by
  intro E g env c σ H xs ds P Q r h q k
  unfold rdList at q
  split at q
  · cases h with
    | cons h1 t =>
      cases t
      cases h1 with
      | lst hs ha =>
        refine ⟨_, _, rfl, .inl (r.ex.seq hs), fun l hl => ?_⟩
        obtain ⟨r2, m2⟩ := r.new (.lst _) hl
        exact k _ _ _ _ q m2 r2 (.lst (.of upd_same) (dpAll_mono m2.f ha))
  · cases h with
    | cons h1 t =>
      cases t
      cases h1 with
      | tup hs ha =>
        refine ⟨_, _, rfl, .inr (seqT r.ex hs), fun l hl => ?_⟩
        obtain ⟨r2, m2⟩ := r.new (.lst _) hl
        exact k _ _ _ _ q m2 r2 (.lst (.of upd_same) (dpAll_mono m2.f ha))
  · exact q.elim
def sNewLst (i : Nat) (da : DE) : DS := fun D env c => da env c fun x c1 => datK x fun d => match d with
  | .list xs => D.nx (env.set i (some (.own xs))) c1
  | .tuple xs => D.nx (env.set i (some (.own xs))) c1
  | _ => False
theorem ds_newLst (i : Nat) {x : Str} {p1 p2 p3 : Pos} (hN : X.N.Nodup) (ha : DPE X E a da) (hm : X.mg "list" = none) (hi : X.N[i]? = some x := by rfl) (hx : Loc X.env.scope x := by first | exact Or.inl rfl | exact Or.inr rfl) (hg : Gl X "list" := by rfl)
    (he : starEach [a] X.env = (false, eval a X.env) :: starEach [] X.env := by rfl) (hpl : (backTo p3 (starEach [] X.env)).any (·.1) = false := by rfl)
    (hs : swapsWith (.Call (.Name "list" p2) [a] [] p3) (some (.Name x p1)) pos.line X.env = pure false := by rfl) (hf : X.fn x = true ∨ X.env.scope.names.lookup x = some .local := by first | exact .inl rfl | exact .inr rfl | assumption) :
    DPS X E (.Assign [.Name x p1] (.Call (.Name "list" p2) [a] [] p3) pos) (sNewLst i da) := by
  refine ps_imp (ps_set hN hi hx (pe_callTy call_list_of hg hm (by decide +kernel) (pa_cons ha pa_nil he) (by decide) (by decide) he hpl) hs hf) fun D σ H h => ?_
  obtain ⟨g, env, c, P, rel, q, k, _⟩ := h
  refine ⟨g, env, c, _, rel, q, fun x c1 g1 H1 v p1 m1 r1 o1 f1 => ?_⟩
  cases x with
  | deck => exact p1.elim
  | exc _ => exact p1.elim
  | own l => exact p1.elim
  | dat d =>
    cases d <;> try exact p1.elim
    · rename_i ds
      have o1 : Dp X.K g1.F v (.list ds) := o1
      cases o1 with
      | lst hsq hal => exact ⟨_, _, rfl, .inl (r1.ex.seq hsq), fun l hl => k _ c1 g1 _ _ p1 m1.f (r1.newOwn i hl hal)⟩
    · rename_i ds
      have o1 : Dp X.K g1.F v (.tuple ds) := o1
      cases o1 with
      | tup hsq hal => exact ⟨_, _, rfl, .inr (seqT r1.ex hsq), fun l hl => k _ c1 g1 _ _ p1 m1.f (r1.newOwn i hl hal)⟩
end
end DL
namespace DL
open PySem PySem.Spec PyProof.Rows L2
/-! ### list + list -/
def rCatL (K : PySem.W.Frag) : R2 := fun x y H Q => ∃ l b xs zs, x = .ref l ∧ y = .ref b ∧ SqL K H l xs ∧ SqL K H b zs ∧ xs.length + zs.length ≤ sizeLine ∧ ∀ p, H p = none → Q (.ref p) (upd H p (.lst (xs ++ zs)))
section
variable {X : Cx}
theorem op_catL : OpR X (binaryOp .Add) (rCatL X.K) := by
  intro pins s σ H x y v u Q I rx ry h
  obtain ⟨l, b, xs, zs, rfl, rfl, hH, hB, hz, q⟩ := h
  cases rx
  cases ry
  obtain ⟨its, r, ⟨⟨cls, dd, data, sl⟩, n, ho, hc, _, hd⟩, hl⟩ := I.list hH
  obtain ⟨its2, r2, ⟨⟨cls2, dd2, data2, sl2⟩, n2, ho2, hc2, _, hd2⟩, hl2⟩ := I.list hB
  simp only at hc hd hc2 hd2
  subst hc hd hc2 hd2
  have e : its.toArray ++ its2.toArray = (its ++ its2).toArray := by simp
  have z1 := r.length
  have z2 := r2.length
  refine concat_meets ⟨_, ho, rfl⟩ ⟨_, ho2, rfl⟩ noFill_list_add seq_list_add PySem.F.slot_list_add PySem.F.entry_list_add (PySem.F.args_list_add_2 _ _) (list_addW l b its.toArray its2.toArray n n2 dd dd2 sl sl2 (by simp only [List.size_toArray]; omega)) ⟨ho, ho2, ?_⟩
  rw [e]
  exact ⟨.ref _, _, I.lnew (t' := s.toks) (r.append r2) (by rw [List.length_append]; omega), rfl, q _ I.fresh⟩
end
/-- + of ints, of tuples, of lists -/
def rdAddX : PyData → PyData → (PyData → Prop) → Prop := fun d e P => match d, e with
  | .list xs, .list ys => xs.length + ys.length ≤ sizeLine ∧ P (.list (xs ++ ys))
  | d, e => rdAddU d e P
theorem opd_addX {K : PySem.W.Frag} : OpD K (fun x y H Q => rCatL K x y H Q ∨ (rI0 (fun i j => .int (i + j)) x y H Q ∨ rCatA K x y H Q)) rdAddX := by
  intro E g env c σ H x y d e P Q r hx hy q k
  unfold rdAddX at q
  split at q
  · cases hx with
    | lst h1 a1 =>
      cases hy with
      | lst h2 a2 =>
        refine .inl ⟨_, _, _, _, rfl, rfl, r.ex.seq h1, r.ex.seq h2, by rw [DpAll.len a1, DpAll.len a2]; exact q.1, fun p hp => ?_⟩
        obtain ⟨r2, m2⟩ := r.new (.lst _) hp
        exact k _ _ _ _ q.2 m2 r2 (.lst (.of upd_same) (DpAll.app (dpAll_mono m2.f a1) (dpAll_mono m2.f a2)))
  · exact .inr (opd_addU _ _ _ _ _ _ _ _ _ _ _ _ r hx hy q k)
section
variable {X : Cx} {E : En} {a b : Expr} {da db : DE} {pos : Pos}
theorem de_addX (ha : DPE X E a da) (hb : DPE X E b db) : DPE X E (.BinOp a .Add b pos) (dOp rdAddX da db) := de_op (OpR.or op_catL (OpR.or op_add op_catA)) opd_addX ha hb
/-! ### dicts -/
theorem de_dict0 : DPE X E (.Dict [] [] pos) (dC (.dict [])) := by
  refine pe_imp pe_dnewK fun σ H Q h => ?_
  obtain ⟨g, env, c, P, rel, q, k⟩ := h
  intro p hp
  obtain ⟨r2, m2⟩ := rel.new (.dK []) hp
  exact k _ _ _ _ _ q m2 r2 (Dp.dct (kvs := []) (ds := []) upd_same .nil) trivial
/-- {'text': constant} -/
theorem de_dict1 {x : Str} {v : V} {d : PyData} {j} {p1 : Pos} (hv : PE X b (tC v)) (hd : ∀ K F, Dp K F v d) : DPE X E (.Dict [some (.Constant (.str x) j p1)] [b] pos) (dC (.dict [(.str x, d)])) := by
  refine pe_imp (pe_disp (pps_cons pe_str hv |> fun f => f pps_nil) rfl rfl nofun (by simp)) fun σ H Q h => ?_
  obtain ⟨g, env, c, P, rel, q, k⟩ := h
  intro p hp
  refine ⟨upd_same, [(.inr x, v)], rfl, by simp, ?_⟩
  have e : upd (upd H p (.dK [])) p (.dK (mergeK [] [(.inr x, v)])) = upd H p (.dK [(.inr x, v)]) := by
    funext a
    by_cases h : a = p
    · subst h
      rw [upd_same, upd_same]
      rfl
    · rw [upd_ne h, upd_ne h, upd_ne h]
  rw [e]
  obtain ⟨r2, m2⟩ := rel.new (.dK [(.inr x, v)]) hp
  exact k _ _ _ _ _ q m2 r2 (Dp.dct (kvs := [(.inr x, v)]) (ds := [d]) upd_same (.cons (hd _ _) .nil)) trivial
end
end DL
namespace DL
open PySem PySem.Spec PyProof.Rows L2
/-! ### new lists, on their way into a slot -/
/-- the list at p is known to nobody -/
structure Frs (K : PySem.W.Frag) (E : En) (g : Gh) (H : Hp) (env : Ev) (σ : L2.St) (p : Addr) (l : List PyData) : Prop where
  at_ : ∃ xs, H p = some (.lst xs) ∧ DpAll K g.F xs l
  fF : g.F p = none
  nd : ¬ isDk g p
  eH : E.H p = none
  no : ∀ (j : Nat) (m : List PyData), env[j]? = some (some (.own m)) → σ[j]? ≠ some (some (.ref p))
section
variable {K : PySem.W.Frag} {E : En} {g g' : Gh} {env : Ev} {c : Nat} {σ : L2.St} {H H' : Hp} {p : Addr} {l : List PyData}
theorem Frs.mv (h : Frs K E g H env σ p l) (m : Mv g H g' H') : Frs K E g' H' env σ p l := by
  obtain ⟨xs, h1, h2⟩ := h.at_
  refine ⟨⟨xs, m.fr p _ h1 h.nd, dpAll_mono m.f h2⟩, ?_, fun z => h.nd (m.toMo.isDk z), h.eH, h.no⟩
  cases e : g'.F p with
  | none => rfl
  | some o =>
    rcases m.nf p o e with z | z
    · rw [h.fF] at z
      cases z
    · rw [h1] at z
      cases z
theorem Frs.of {xs : List V} (rel : Rel K E g env c σ H) (m : Mv g H g' H') (hp : H p = none) (hp' : H' p = some (.lst xs)) (hF : g'.F p = none) (ha : DpAll K g'.F xs l) : Frs K E g' H' env σ p l :=
  ⟨⟨xs, hp', ha⟩, hF, rel.noDk m hp, rel.oldN hp, fun j l e => rel.noOwn hp j l e⟩
/-- into slot i -/
theorem Rel.takeOwn (r : Rel K E g env c σ H) (i : Nat) (f : Frs K E g H env σ p l) : Rel K E g (env.set i (some (.own l))) c (σ.set i (some (.ref p))) H := by
  obtain ⟨xs, hp, ha⟩ := f.at_
  refine ⟨r.mo, r.md, r.mt, r.dn, r.nf, r.fr, fun j m e a ea => ?_, r.ex, fun j y e => ?_, fun j k lj lk a ne e1 e2 e3 e4 => ?_, r.dk, by simpa using r.len⟩
  · rcases set_get e with ⟨rfl, hl, _⟩ | ⟨ne, e2⟩
    · rw [List.getElem?_set_self (by rw [← r.len]; exact hl)] at ea
      cases ea
      exact f.eH
    · rw [List.getElem?_set_ne (Ne.symm ne)] at ea
      exact r.nw j m e2 a ea
  · rcases set_get e with ⟨rfl, hl, rfl⟩ | ⟨ne, e2⟩
    · exact ⟨.ref p, by rw [List.getElem?_set_self (by rw [← r.len]; exact hl)], p, xs, rfl, f.fF, f.nd, hp, ha⟩
    · obtain ⟨v, h1, h2⟩ := r.sl j y e2
      exact ⟨v, by rw [List.getElem?_set_ne (Ne.symm ne)]; exact h1, h2⟩
  · rcases set_get e1 with ⟨rfl, hl, _⟩ | ⟨n1, f1⟩
    · rw [List.getElem?_set_self (by rw [← r.len]; exact hl)] at e3
      cases e3
      rcases set_get e2 with ⟨z, _, _⟩ | ⟨n2, f2⟩
      · exact ne z.symm
      · rw [List.getElem?_set_ne (Ne.symm n2)] at e4
        exact f.no k lk f2 e4
    · rw [List.getElem?_set_ne (Ne.symm n1)] at e3
      rcases set_get e2 with ⟨rfl, hl, _⟩ | ⟨n2, f2⟩
      · rw [List.getElem?_set_self (by rw [← r.len]; exact hl)] at e4
        cases e4
        exact f.no j lj f1 e3
      · rw [List.getElem?_set_ne (Ne.symm n2)] at e4
        exact r.ap j k lj lk a ne f1 f2 e3 e4
/-- another list than the one that went into slot i -/
theorem Frs.other {q : Addr} {m : List PyData} {i : Nat} (r : Rel K E g env c σ H) (h : Frs K E g H env σ p l) (ne : p ≠ q) : Frs K E g H (env.set i (some (.own m))) (σ.set i (some (.ref q))) p l := by
  refine ⟨h.at_, h.fF, h.nd, h.eH, fun j n e z => ?_⟩
  rcases set_get e with ⟨rfl, hl, _⟩ | ⟨n1, f1⟩
  · rw [List.getElem?_set_self (by rw [← r.len]; exact hl)] at z
    cases z
    exact ne rfl
  · rw [List.getElem?_set_ne (Ne.symm n1)] at z
    exact h.no j n f1 z
end
/-! ### what makes a new list -/
def fLst (dr : DA) : DF := fun env c P => dr env c fun xs c1 => datsK xs fun ds => ds.length ≤ sizeLine ∧ P ds c1
def fList (da : DE) : DF := fun env c P => da env c fun x c1 => datK x fun d => match d with
  | .list xs => P xs c1
  | .tuple xs => P xs c1
  | _ => False
def fCat (da db : DE) : DF := fun env c P => da env c fun x c1 => datK x fun d => db env c1 fun y c2 => datK y fun e => match d, e with
  | .list xs, .list ys => xs.length + ys.length ≤ sizeLine ∧ P (xs ++ ys) c2
  | _, _ => False
def fSl (da : DE) (lo hi : DO) : DF := fun env c P => da env c fun x c1 => datK x fun d => lo env c1 fun l c2 => hi env c2 fun u c3 => match d with
  | .list ds => P (cutD ds l u) c3
  | _ => False
def fRev (da : DE) : DF := fun env c P => da env c fun x c1 => datK x fun d => match d with
  | .list ds => P ds.reverse c1
  | _ => False
theorem DpAll.rev {K : PySem.W.Frag} {F : Hp} : ∀ {vs : List V} {ds : List PyData}, DpAll K F vs ds → DpAll K F vs.reverse ds.reverse
  | _, _, .nil => .nil
  | _, _, .cons h t => by
    rw [List.reverse_cons, List.reverse_cons]
    exact DpAll.app (DpAll.rev t) (.cons h .nil)
section
variable {X : Cx} {E : En} {a b : Expr} {da db : DE} {pos : Pos}
/-- the end of each: data xs laid at p -/
theorem fresh_end {K : PySem.W.Frag} {g g1 : Gh} {env : Ev} {c1 : Nat} {P : List PyData → Nat → Prop} {σ : L2.St} {H H1 : Hp} {Q : VK} {xs : List V} {l : List PyData}
    (k : ∀ l c' g' H' p xs, P l c' → Mv g H g' H' → Rel K E g' env c' σ H' → H p = none → H' p = some (.lst xs) → g'.F p = none → DpAll K g'.F xs l → Q (.ref p) H')
    (hP : P l c1) (m1 : Mv g H g1 H1) (r1 : Rel K E g1 env c1 σ H1) (ha : DpAll K g1.F xs l) (p : Addr) (hp : H1 p = none) : Q (.ref p) (upd H1 p (.lst xs)) := by
  obtain ⟨r2, m2⟩ := r1.skip (.lst xs) hp
  refine k l c1 g1 _ p xs hP (m1.trans m2) r2 ?_ upd_same (r1.ex.free hp) ha
  cases w : H p with
  | none => rfl
  | some o =>
    obtain ⟨o', e⟩ := m1.lv p o w
    rw [hp] at e
    cases e
theorem df_lst {es : List Expr} {dr : DA} (h : DPA X E es dr) : DPF X E (.List es pos) (fLst dr) := by
  refine pe_imp (pe_lst h) fun σ H Q h => ?_
  obtain ⟨g, env, c, P, rel, q, k⟩ := h
  refine ⟨g, env, c, _, rel, q, fun xs c1 g1 H1 vs p1 m1 r1 o1 f1 => ?_⟩
  obtain ⟨ds, h1, h2⟩ := datsK_all o1 p1
  exact ⟨by rw [DpAll.len h2]; exact h1.1, fun p hp => fresh_end k h1.2 m1 r1 h2 p hp⟩
theorem df_list {p2 : Pos} (ha : DPE X E a da) (hm : X.mg "list" = none) (hg : Gl X "list" := by rfl)
    (he : starEach [a] X.env = (false, eval a X.env) :: starEach [] X.env := by rfl) (hpl : (backTo pos (starEach [] X.env)).any (·.1) = false := by rfl) : DPF X E (.Call (.Name "list" p2) [a] [] pos) (fList da) := by
  refine pe_imp (pe_callTy call_list_of hg hm (by decide +kernel) (pa_cons ha pa_nil he) (by decide) (by decide) he hpl) fun σ H Q h => ?_
  obtain ⟨g, env, c, P, rel, q, k⟩ := h
  refine ⟨g, env, c, _, rel, q, fun x c1 g1 H1 v p1 m1 r1 o1 f1 => ?_⟩
  cases x with
  | deck => exact p1.elim
  | exc _ => exact p1.elim
  | own l => exact p1.elim
  | dat d =>
    cases d <;> try exact p1.elim
    · rename_i ds
      have o1 : Dp X.K g1.F v (.list ds) := o1
      cases o1 with
      | lst hsq hal => exact ⟨_, _, rfl, .inl (r1.ex.seq hsq), fun p hp => fresh_end k p1 m1 r1 hal p hp⟩
    · rename_i ds
      have o1 : Dp X.K g1.F v (.tuple ds) := o1
      cases o1 with
      | tup hsq hal => exact ⟨_, _, rfl, .inr (seqT r1.ex hsq), fun p hp => fresh_end k p1 m1 r1 hal p hp⟩
theorem df_cat (ha : DPE X E a da) (hb : DPE X E b db) : DPF X E (.BinOp a .Add b pos) (fCat da db) := by
  refine pe_imp (pe_op op_catL ha hb) fun σ H Q h => ?_
  obtain ⟨g, env, c, P, rel, q, k⟩ := h
  refine ⟨g, env, c, _, rel, q, fun x c1 g1 H1 v p1 m1 r1 o1 f1 => ?_⟩
  cases x with
  | deck => exact p1.elim
  | exc _ => exact p1.elim
  | own l => exact p1.elim
  | dat d =>
    refine ⟨g1, env, c1, _, r1, p1, fun y c2 g2 H2 u p2 m2 r2 o2 f2 => ?_⟩
    cases y with
    | deck => exact p2.elim
    | exc _ => exact p2.elim
    | own l => exact p2.elim
    | dat e =>
      cases d <;> try exact p2.elim
      rename_i xs
      cases e <;> try exact p2.elim
      rename_i ys
      have o1 : Dp X.K g2.F v (.list xs) := dp_mono m2.f o1
      have o2 : Dp X.K g2.F u (.list ys) := o2
      cases o1 with
      | lst s1 a1 =>
        cases o2 with
        | lst s2 a2 => exact ⟨_, _, _, _, rfl, rfl, r2.ex.seq s1, r2.ex.seq s2, by rw [DpAll.len a1, DpAll.len a2]; exact p2.1, fun p hp => fresh_end k p2.2 (m1.trans m2) r2 (DpAll.app a1 a2) p hp⟩
theorem df_sl {lo hi : Option Expr} {dl dh : DO} {p2 : Pos} (h : DPE X E a da) (hl : DPO X E lo dl) (hu : DPO X E hi dh) : DPF X E (.Subscript a (.Slice lo hi none p2) pos) (fSl da dl dh) := by
  refine pe_imp (pe_slice sl_list h hl hu) fun σ H Q h => ?_
  obtain ⟨g, env, c, P, rel, q, k⟩ := h
  refine ⟨g, env, c, _, rel, q, fun x c1 g1 H1 v p1 m1 r1 o1 f1 => ?_⟩
  cases x with
  | deck => exact p1.elim
  | exc _ => exact p1.elim
  | own l => exact p1.elim
  | dat d =>
    refine ⟨g1, env, c1, _, r1, p1, fun l c2 g2 H2 p2 m2 r2 => ⟨g2, env, c2, _, r2, p2, fun u c3 g3 H3 p3 m3 r3 => ?_⟩⟩
    cases d <;> try exact p3.elim
    rename_i ds
    have o1 : Dp X.K g1.F v (.list ds) := o1
    have o3 := dp_mono (m2.trans m3).f o1
    cases o3 with
    | lst hs ha => exact ⟨_, _, rfl, r3.ex.seq hs, fun p hp => fresh_end k p3 (m1.trans (m2.trans m3)) r3 (dpAll_cut ha l u) p hp⟩
theorem df_rev {kk : Nat} {p1 p2 p3 : Pos} (h : DPE X E a da) : DPF X E (.Subscript a (.Slice none none (some (.UnaryOp .USub (.Constant (.int 1) kk p1) p2)) p3) pos) (fRev da) := by
  refine pe_imp (pe_revL h) fun σ H Q h => ?_
  obtain ⟨g, env, c, P, rel, q, k⟩ := h
  refine ⟨g, env, c, _, rel, q, fun x c1 g1 H1 v p1 m1 r1 o1 f1 => ?_⟩
  cases x with
  | deck => exact p1.elim
  | exc _ => exact p1.elim
  | own l => exact p1.elim
  | dat d =>
    cases d <;> try exact p1.elim
    rename_i ds
    have o1 : Dp X.K g1.F v (.list ds) := o1
    cases o1 with
    | lst hs ha => exact ⟨_, _, rfl, r1.ex.seq hs, fun p hp => fresh_end k p1 m1 r1 (DpAll.rev ha) p hp⟩
/-- a new list as a value -/
def dF (dt : DF) : DE := fun env c P => dt env c fun l c' => P (.dat (.list l)) c'
theorem de_f {dt : DF} (h : DPF X E a dt) : DPE X E a (dF dt) := pe_imp h fun _ _ _ q => f_up q
/-! ### x = a new list; x, y = .. -/
def sOwn (i : Nat) (dt : DF) : DS := fun D env c => dt env c fun l c1 => D.nx (env.set i (some (.own l))) c1
theorem ds_own (i : Nat) {x : Str} {p2 : Pos} {dt : DF} (hN : X.N.Nodup) (h : DPF X E a dt) (hi : X.N[i]? = some x := by rfl) (hx : Loc X.env.scope x := by first | exact Or.inl rfl | exact Or.inr rfl) (hs : swapsWith a (some (.Name x p2)) pos.line X.env = pure false := by rfl) (hf : X.fn x = true ∨ X.env.scope.names.lookup x = some .local := by first | exact .inl rfl | exact .inr rfl | assumption) :
    DPS X E (.Assign [.Name x p2] a pos) (sOwn i dt) := by
  refine ps_imp (ps_set hN hi hx h hs hf) fun D σ H h => ?_
  obtain ⟨g, env, c, P, rel, q, k, _⟩ := h
  refine ⟨g, env, c, _, rel, q, fun l c1 g1 H1 p xs hl m1 r1 hp hp' hF ha => ?_⟩
  exact k _ c1 g1 _ H1 hl m1.f (r1.takeOwn i (Frs.of rel m1 hp hp' hF ha))
def sParF (i j : Nat) (dt : DF) (db : DE) : DS := fun D env c => dt env c fun l c1 => db env c1 fun y c2 => D.nx ((env.set i (some (.own l))).set j (some y)) c2
def sParFF (i j : Nat) (dt du : DF) : DS := fun D env c => dt env c fun l c1 => du env c1 fun m c2 => D.nx ((env.set i (some (.own l))).set j (some (.own m))) c2
variable {px py pt : Pos} {kt : Nat} {k2 : Nat} {pt2 : Pos} {x y : Str}
theorem ds_parF (i j : Nat) {dt : DF} (hN : X.N.Nodup) (h : DPF X E a dt) (hb : DPE X E b db) (hij : i ≠ j := by decide) (hi : X.N[i]? = some x := by rfl) (hj : X.N[j]? = some y := by rfl)
    (hx : X.env.scope.names.lookup x = some .local := by rfl) (hy : X.env.scope.names.lookup y = some .local := by rfl) (hc : X.calm = true := by rfl)
    (hw : swappedStores [.Tuple [.Name x px, .Name y py] kt pt] (.Tuple [a, b] k2 pt2) X.env = pure (some [x, y]) := by rfl)
    (hs : swapsWithSole [.Tuple [.Name x px, .Name y py] kt pt] (.Tuple [a, b] k2 pt2) pos.line X.env = pure false := by rfl)
    (he : starEach [a, b] X.env = (false, eval a X.env) :: starEach [b] X.env := by rfl) (he2 : starEach [b] X.env = (false, eval b X.env) :: starEach [] X.env := by rfl) : DPS X E (.Assign [.Tuple [.Name x px, .Name y py] kt pt] (.Tuple [a, b] k2 pt2) pos) (sParF i j dt db) := by
  refine ps_imp (ps_par hc hN hi hj hij hx hy (pa_cons h (pa_cons hb pa_nil he2) he) hw hs) fun D σ H h => ?_
  obtain ⟨g, env, c, P, rel, q, k, _⟩ := h
  refine ⟨g, env, c, _, rel, q, fun l c1 g1 H1 p xs hl m1 r1 hp hp' hF ha => ⟨g1, env, c1, _, r1, hl, fun y c2 g2 H2 v p2 m2 r2 o2 f2 => ⟨.ref p, v, rfl, ?_⟩⟩⟩
  exact k _ c2 g2 _ H2 p2 (m1.f.trans m2.f) ((r2.takeOwn i ((Frs.of rel m1 hp hp' hF ha).mv m2)).set j o2 f2)
theorem ds_parFF (i j : Nat) {dt du : DF} (hN : X.N.Nodup) (h : DPF X E a dt) (hb : DPF X E b du) (hij : i ≠ j := by decide) (hi : X.N[i]? = some x := by rfl) (hj : X.N[j]? = some y := by rfl)
    (hx : X.env.scope.names.lookup x = some .local := by rfl) (hy : X.env.scope.names.lookup y = some .local := by rfl) (hc : X.calm = true := by rfl)
    (hw : swappedStores [.Tuple [.Name x px, .Name y py] kt pt] (.Tuple [a, b] k2 pt2) X.env = pure (some [x, y]) := by rfl)
    (hs : swapsWithSole [.Tuple [.Name x px, .Name y py] kt pt] (.Tuple [a, b] k2 pt2) pos.line X.env = pure false := by rfl)
    (he : starEach [a, b] X.env = (false, eval a X.env) :: starEach [b] X.env := by rfl) (he2 : starEach [b] X.env = (false, eval b X.env) :: starEach [] X.env := by rfl) : DPS X E (.Assign [.Tuple [.Name x px, .Name y py] kt pt] (.Tuple [a, b] k2 pt2) pos) (sParFF i j dt du) := by
  refine ps_imp (ps_par hc hN hi hj hij hx hy (pa_cons h (pa_cons hb pa_nil he2) he) hw hs) fun D σ H h => ?_
  obtain ⟨g, env, c, P, rel, q, k, _⟩ := h
  refine ⟨g, env, c, _, rel, q, fun l c1 g1 H1 p xs hl m1 r1 hp hp' hF ha => ⟨g1, env, c1, _, r1, hl, fun l2 c2 g2 H2 p2 xs2 hl2 m2 r2 hq hq' hF2 ha2 => ⟨.ref p, .ref p2, rfl, ?_⟩⟩⟩
  have f1 := (Frs.of rel m1 hp hp' hF ha).mv m2
  have f2 := Frs.of r1 m2 hq hq' hF2 ha2
  have ne : p2 ≠ p := fun z => by
    rw [z, hp'] at hq
    cases hq
  exact k _ c2 g2 _ H2 hl2 (m1.f.trans m2.f) ((r2.takeOwn i f1).takeOwn j (f2.other r2 ne))
/-! ### len(x) of an own list -/
def dOwnLen (i : Nat) : DE := fun env c P => match env[i]? with
  | some (some (.own l)) => P (.dat (.int l.length)) c
  | _ => False
theorem de_ownLen (i : Nat) {x : Str} {p1 p2 : Pos} (hm : X.mg "len" = none) (hN : X.N[i]? = some x := by rfl) (hv : Vis X.env.scope x := by first | exact Or.inl rfl | exact Or.inr (Or.inl rfl) | exact Or.inr (Or.inr rfl)) (h1 : (x == ("__debug__" : Str)) = false := by decide)
    (h2 : (x == ("__classdict__" : Str)) = false := by decide) (hg : Gl X "len" := by rfl)
    (he : starEach [.Name x p1] X.env = (false, eval (.Name x p1) X.env) :: starEach [] X.env := by rfl) (hpl : (backTo pos (starEach [] X.env)).any (·.1) = false := by rfl) : DPE X E (.Call (.Name "len" p2) [.Name x p1] [] pos) (dOwnLen i) := by
  refine pe_imp (pe_callB call_len_seq hg hm PySem.boot_len (pa_cons (pe_var hN hv h1 h2) pa_nil he) (by decide) (by decide) he hpl) fun σ H Q h => ?_
  obtain ⟨g, env, c, P, rel, q, k⟩ := h
  unfold dOwnLen at q
  split at q
  · rename_i l e
    obtain ⟨v, e1, p, xs, rfl, h3, h4, h5, h6⟩ := rel.sl i _ e
    refine ⟨_, e1, p, xs, rfl, .inl (.of h5), ?_⟩
    rw [DpAll.len h6]
    exact k _ c g H _ q (Mv.refl g H) rel (.int _) trivial
  · exact q.elim
end
/-! ### sum, max, min, abs -/
theorem cr_or {X : Cx} {f : Value} {r r' : List V → Hp → VK → Prop} (h : CallR X f r) (h' : CallR X f r') : CallR X f (fun xs H Q => r xs H Q ∨ r' xs H Q) := by
  intro pins s σ H vs us Q I rv q
  rcases q with q | q
  · exact h pins s σ H vs us Q I rv q
  · exact h' pins s σ H vs us Q I rv q
def rSumT (K : PySem.W.Frag) : List V → Hp → VK → Prop := fun vs H Q => ∃ (a : Addr) (ns : List Int), vs = [V.ref a] ∧ SqT K H a (ns.map V.int) ∧ Q (.int ns.sum) H
theorem cr_sumT {X : Cx} (hc : X.calm = true) : CallR X (.builtin "sum") (rSumT X.K) := by
  intro pins s σ H vs us Q I r h
  obtain ⟨a, ns, rfl, hs, q⟩ := h
  obtain ⟨its, rv, hl, _⟩ := I.tuple hs
  rw [Vals.ref1 r]
  obtain ⟨xs, e⟩ := rv.ints.allInts.items
  have hn : numsOf (intItems xs).toList = ns := by rw [← e]; exact rv.ints.numsOf
  rw [nums_intItems] at hn
  have hl2 : s.heap.IsTuple a (intItems xs) := by rw [← e]; exact hl
  refine PySem.W.ktm_sumG (I.ok.hd hc) hl2 fun h' tk t' hk => ?_
  rw [preSum_eq, List.take_of_length_le (by simp), hn]
  exact ⟨.int _, H, I.kept hk, ⟨_, rfl⟩, q⟩
def rdSumA : List PyData → (PyData → Prop) → Prop := fun ds P => match ds with
  | [.list xs] => ∃ ns, intsOf xs = some ns ∧ P (.int ns.sum)
  | [.tuple xs] => ∃ ns, intsOf xs = some ns ∧ P (.int ns.sum)
  | _ => False
theorem cd_sumA {K : PySem.W.Frag} : CallD K (fun xs H Q => rSum K xs H Q ∨ rSumT K xs H Q) rdSumA := by
  intro E g env c σ H xs ds P Q r h q k
  unfold rdSumA at q
  split at q
  · cases h with
    | cons h1 t =>
      cases t
      cases h1 with
      | lst hs ha =>
        obtain ⟨ns, e, q⟩ := q
        have ex := intsOf_dp e ha
        subst ex
        exact .inl ⟨_, ns, rfl, r.ex.seq hs, k _ g H _ q (Mv.refl g H) r (.int _)⟩
  · cases h with
    | cons h1 t =>
      cases t
      cases h1 with
      | tup hs ha =>
        obtain ⟨ns, e, q⟩ := q
        have ex := intsOf_dp e ha
        subst ex
        exact .inr ⟨_, ns, rfl, seqT r.ex hs, k _ g H _ q (Mv.refl g H) r (.int _)⟩
  · exact q.elim
/-- max and min of two numbers, or of a list -/
def rdMaxA : List PyData → (PyData → Prop) → Prop := fun ds P => match ds with
  | [.int i, .int j] => P (.int (max i j))
  | [.list xs] => ∃ ns, intsOf xs = some ns ∧ 0 < ns.length ∧ ∀ m, m ∈ ns → (∀ y, y ∈ ns → y ≤ m) → P (.int m)
  | _ => False
def rdMinA : List PyData → (PyData → Prop) → Prop := fun ds P => match ds with
  | [.int i, .int j] => P (.int (min i j))
  | [.list xs] => ∃ ns, intsOf xs = some ns ∧ 0 < ns.length ∧ ∀ m, m ∈ ns → (∀ y, y ∈ ns → m ≤ y) → P (.int m)
  | _ => False
theorem cd_maxA {K : PySem.W.Frag} : CallD K (fun xs H Q => (∃ i j, xs = [V.int i, V.int j] ∧ Q (.int (if j > i then j else i)) H) ∨ rMax K xs H Q) rdMaxA := by
  intro E g env c σ H xs ds P Q r h q k
  unfold rdMaxA at q
  split at q
  · exact .inl (cd_max2 E g env c σ H xs _ P Q r h q k)
  · cases h with
    | cons h1 t =>
      cases t
      cases h1 with
      | lst hs ha =>
        obtain ⟨ns, e, hl, q⟩ := q
        have ex := intsOf_dp e ha
        subst ex
        exact .inr ⟨_, ns, rfl, r.ex.seq hs, hl, fun m h1 h2 => k _ g H _ (q m h1 h2) (Mv.refl g H) r (.int _)⟩
  · exact q.elim
theorem cd_minA {K : PySem.W.Frag} : CallD K (fun xs H Q => (∃ i j, xs = [V.int i, V.int j] ∧ Q (.int (if j < i then j else i)) H) ∨ rMin K xs H Q) rdMinA := by
  intro E g env c σ H xs ds P Q r h q k
  unfold rdMinA at q
  split at q
  · exact .inl (cd_min2 E g env c σ H xs _ P Q r h q k)
  · cases h with
    | cons h1 t =>
      cases t
      cases h1 with
      | lst hs ha =>
        obtain ⟨ns, e, hl, q⟩ := q
        have ex := intsOf_dp e ha
        subst ex
        exact .inr ⟨_, ns, rfl, r.ex.seq hs, hl, fun m h1 h2 => k _ g H _ (q m h1 h2) (Mv.refl g H) r (.int _)⟩
  · exact q.elim
def rdAbs : List PyData → (PyData → Prop) → Prop := fun ds P => match ds with
  | [.int i] => P (.int (if i < 0 then -i else i))
  | _ => False
theorem cd_abs {K : PySem.W.Frag} : CallD K (fun xs H Q => ∃ i, xs = [V.int i] ∧ Q (.int (if i < 0 then -i else i)) H) rdAbs := by
  intro E g env c σ H xs ds P Q r h q k
  unfold rdAbs at q
  split at q
  · cases h with
    | cons h1 t =>
      cases t
      have e1 := dp_int h1
      subst e1
      exact ⟨_, rfl, k _ g H _ q (Mv.refl g H) r (.int _)⟩
  · exact q.elim
/-! ### zip of two lists -/
def wZipL (da : DA) : DI := fun env c P => da env c fun xs c1 => datsK xs fun ds => match ds with
  | [.list xs, .list ys] => P ((xs.zip ys).map fun z => .tuple [z.1, z.2]) c1
  | _ => False
section
variable {X : Cx} {E : En} {a b : Expr} {da db : DE} {pos : Pos}
theorem walk_zipL {K : PySem.W.Frag} {a b : Addr} {xs ys : List V} {n : Nat} (hn : n = min xs.length ys.length) : Walk (Itz K a b) n (fun H => SqL K H a xs ∧ SqL K H b ys) (YPair (fun i => xs[i]?) (fun i => ys[i]?)) := by
  refine ⟨fun i H hi h => ⟨xs, ys, xs[i]'(by omega), ys[i]'(by omega), h.1, h.2, List.getElem?_eq_getElem _, List.getElem?_eq_getElem _⟩, fun H h => ⟨xs, ys, h.1, h.2, by omega⟩, fun i H v H' hi h y => ?_⟩
  obtain ⟨T, x, y, e1, e2, e3, f1, f2⟩ := y
  exact ⟨T, x, y, e1, e2, e3, f1 xs h.1, f2 ys h.2⟩
theorem dw_zipL {elts : List Expr} {kk : Nat} {dr : DA} {p tpos : Pos} (ha : DPA X E [a, b] dr) (hm : X.mg "zip" = none) (hg : Gl X "zip" := by rfl) (hs : starEach [a, b] X.env = (false, eval a X.env) :: starEach [b] X.env := by rfl) (hpl : (backTo pos (starEach [b] X.env)).any (·.1) = false := by rfl) :
    DPI X E (.Tuple elts kk tpos) (.Call (.Name "zip" p) [a, b] [] pos) (wZipL dr) := by
  refine pi_imp (RZ.pi_zipA hg hm ha hs hpl) fun σ H R h => ?_
  obtain ⟨g, env, c, P, rel, q, k⟩ := h
  refine ⟨g, env, c, _, rel, q, fun xs c1 g1 H1 vs p1 m1 r1 o1 f1 => ?_⟩
  obtain ⟨ds, h1, h2⟩ := datsK_all o1 p1
  split at h1
  · rename_i us ws
    cases h2 with
    | cons h3 t =>
      cases t with
      | cons h4 t =>
        cases t
        cases h3 with
        | lst s1 a1 =>
          cases h4 with
          | lst s2 a2 =>
            refine ⟨_, _, _, _, rfl, .inl ⟨r1.ex.seq s1, r1.ex.seq s2, k _ c1 g1 H1 _ h1 m1 r1 ⟨_, _, walk_zipL (by rw [List.length_map, List.length_zip, DpAll.len a1, DpAll.len a2]), fun g' H' m e => ⟨e.seq (m.seq s1), e.seq (m.seq s2)⟩, fun i H2 x2 H3 d2 e y => ?_⟩⟩⟩
            obtain ⟨T, x, y, rfl, hT, rfl, hx, hy⟩ := y
            obtain ⟨dx, ex, px⟩ := DpAll.getV a1 hx
            obtain ⟨dy, ey, py⟩ := DpAll.getV a2 hy
            have e2 : d2 = .tuple [dx, dy] := by
              rw [List.getElem?_map, (List.getElem?_zip_eq_some (z := (dx, dy))).mpr ⟨ex, ey⟩] at e
              exact (Option.some.inj e).symm
            subst e2
            refine .inr ⟨T, _, hT, rfl, fun F hF hFT => .tup (.of upd_same) ?_⟩
            have sF : Same F (upd F T (.tup [x, y])) := fun b o e => by
              rw [upd_ne (ne_of_none e hFT)]
              exact e
            exact .cons (dp_mono (hF.trans sF) px) (.cons (dp_mono (hF.trans sF) py) .nil)
  · exact h1.elim
/-! ### a module's constant -/
theorem de_glob {x : Str} {i : Int} {u : Value} (hm : X.mg x = some u) (hu : RelV (.int i) u) (hg : Gl X x := by rfl) (hd : (x == ("__debug__" : Str)) = false := by decide) : DPE X E (.Name x pos) (dC (.int i)) := de_c (pe_glob hg hm hu hd) fun _ _ => .int i
end
end DL
namespace DL
open PySem PySem.Spec PyProof.Rows L2
section
variable {X : Cx} {E : En} {a b : Expr} {da db : DE} {pos : Pos} {px py pt : Pos} {kt : Nat} {k2 : Nat} {pt2 : Pos} {x y : Str}
/-- the same where one of the two names stands in a cell: by way of a tuple -/
theorem ds_parFc (i j : Nat) {dt : DF} (hN : X.N.Nodup) (h : DPF X E a dt) (hb : DPE X E b db) (hij : i ≠ j := by decide) (hi : X.N[i]? = some x := by rfl) (hj : X.N[j]? = some y := by rfl)
    (hx : Loc X.env.scope x := by first | exact Or.inl rfl | exact Or.inr rfl) (hy : Loc X.env.scope y := by first | exact Or.inl rfl | exact Or.inr rfl) (hc : X.calm = true := by rfl)
    (hfx : X.fn x = true ∨ X.env.scope.names.lookup x = some .local := by first | exact .inl rfl | exact .inr rfl | assumption) (hfy : X.fn y = true ∨ X.env.scope.names.lookup y = some .local := by first | exact .inl rfl | exact .inr rfl | assumption)
    (hg : PG X (.Tuple [.Name x px, .Name y py] kt pt) (gTup X.K 2 (gCons (gName i) (gCons (gName j) gNil))) := by exact pg_tup rfl (pgs_cons (pg_name (by assumption) rfl (by first | exact Or.inl rfl | exact Or.inr rfl)) (pgs_cons (pg_name (by assumption) rfl (by first | exact Or.inl rfl | exact Or.inr rfl)) pgs_nil)))
    (hs : swapsWithSole [.Tuple [.Name x px, .Name y py] kt pt] (.Tuple [a, b] k2 pt2) pos.line X.env = pure false := by rfl) (hw : swappedStores [.Tuple [.Name x px, .Name y py] kt pt] (.Tuple [a, b] k2 pt2) X.env = pure none := by rfl)
    (h3 : (assignEach [.Tuple [.Name x px, .Name y py] kt pt] X.env).map (·.2) = [assign (.Tuple [.Name x px, .Name y py] kt pt) X.env] := by rfl)
    (he : starEach [a, b] X.env = (false, eval a X.env) :: starEach [b] X.env := by rfl) (he2 : starEach [b] X.env = (false, eval b X.env) :: starEach [] X.env := by rfl) : DPS X E (.Assign [.Tuple [.Name x px, .Name y py] kt pt] (.Tuple [a, b] k2 pt2) pos) (sParF i j dt db) := by
  refine ps_imp (ps_asg (pe_tup (pa_cons h (pa_cons hb pa_nil he2) he)) hg hs hw h3) fun D σ H h => ?_
  obtain ⟨g, env, c, P, rel, q, k, _⟩ := h
  refine ⟨g, env, c, _, rel, q, fun l c1 g1 H1 p xs hl m1 r1 hp hp' hF ha => ⟨g1, env, c1, _, r1, hl, fun y c2 g2 H2 v p2 m2 r2 o2 f2 => ?_⟩⟩
  refine ⟨by show 2 ≤ sizeLine; decide, fun T hT => ⟨T, _, rfl, .of upd_same, rfl, .ref p, _, rfl, v, _, rfl, rfl, ?_⟩⟩
  obtain ⟨r3, m3⟩ := r2.skip (.tup [.ref p, v]) hT
  exact k _ c2 g2 _ _ p2 (m1.f.trans m2.f) ((r3.takeOwn i ((Frs.of rel m1 hp hp' hF ha).mv (m2.trans m3))).set j (VOk.mono m3.toMo f2 o2) f2)
/-- x[b] = a, of an own list -/
theorem ds_ownSetB (i : Nat) {p1 p2 : Pos} (ha : DPE X E a da) (hb : DPE X E b db) (hN : X.N[i]? = some x := by rfl) (hv : Vis X.env.scope x := by first | exact Or.inl rfl | exact Or.inr (Or.inl rfl) | exact Or.inr (Or.inr rfl)) (h1 : (x == ("__debug__" : Str)) = false := by decide)
    (h2 : (x == ("__classdict__" : Str)) = false := by decide)
    (has : ∀ v, assign (.Subscript (.Name x p1) b p2) X.env v = (do
      let ov ← holding [v] (eval (.Name x p1) X.env)
      let iv ← holding [v, ov] (eval b X.env)
      standAt p2
      holding [v, ov, iv] (setItem ov iv v)
      release [v, ov, iv] []) := by intro _; rfl)
    (hs : swapsWithSole [.Subscript (.Name x p1) b p2] a pos.line X.env = pure false := by rfl) (hw : swappedStores [.Subscript (.Name x p1) b p2] a X.env = pure none := by rfl)
    (h3 : (assignEach [.Subscript (.Name x p1) b p2] X.env).map (·.2) = [assign (.Subscript (.Name x p1) b p2) X.env] := by rfl) : DPS X E (.Assign [.Subscript (.Name x p1) b p2] a pos) (sOwnSet i da db) :=
  ds_ownSet i ha hb hN hv h1 h2 (pg_sub (pe_var hN hv h1 h2) hb set_list has) hs hw h3
end
/-! [..] as a new list -/
section
variable {X : Cx} {E : En} {tg a elt : Expr} {pos : Pos}
theorem df_lc {ifs : List Expr} {scope : Scope} (own : List (Str × Nat)) {dw : DI} {ws : List Nat} {dg : DG} {dt : DT} {de : DE} (hN : X.N.Nodup) (hi : DPI X E tg a dw) (ok : BlkOk X.N X.env.scope scope own)
    (hg : ∀ (s : Shared) (H : Hp) (C : Addr) (cl : List (Str × Addr)) (fp : List Addr), DPG (X.blk s H scope (compEnvC scope cl C X.env) fp) E ws tg dg)
    (ht : ∀ (s : Shared) (H : Hp) (C : Addr) (cl : List (Str × Addr)) (fp : List Addr), DPTs (X.blk s H scope (compEnvC scope cl C X.env) fp) E ifs dt)
    (he : ∀ (s : Shared) (H : Hp) (C : Addr) (cl : List (Str × Addr)) (fp : List Addr), DPE (X.blk s H scope (compEnvC scope cl C X.env) fp) E elt de)
    (hws : ∀ i ∈ ws, i ∈ own.map (·.2) := by decide) (hc : X.calm = true := by rfl) (hs : ∀ x, foldedSetIterable a X.env x = pure x := by intro _; rfl) :
    DPF X E (.ListComp elt [⟨tg, a, ifs, 0⟩] scope pos) (fLc dw dg dt de (own.map (·.2))) :=
  pe_imp (pe_lc hc hN hi ok hg ht he hs) fun _ _ _ h => lcF_up hws h
end
end DL
namespace DL
open PySem PySem.Spec PyProof.Rows L2
/-! ### small facts of the mathematics -/
theorem cut_take (ds : List PyData) (k : Nat) : cutD ds none (some (k : Int)) = ds.take k := by
  unfold cutD
  rw [HT.sIx_none, show HT.sIx ds.length ds.length (some (k : Int)) = min k ds.length from HT.sIx_nat _ _ k, List.drop_zero, Nat.sub_zero]
  by_cases h : k ≤ ds.length
  · rw [Nat.min_eq_left h]
  · rw [Nat.min_eq_right (by omega), List.take_of_length_le (Nat.le_refl _), List.take_of_length_le (by omega)]
theorem cut_drop (ds : List PyData) (k : Nat) : cutD ds (some (k : Int)) none = ds.drop k := by
  unfold cutD
  rw [show HT.sIx ds.length 0 (some (k : Int)) = min k ds.length from HT.sIx_nat _ _ k, HT.sIx_none]
  by_cases h : k ≤ ds.length
  · rw [Nat.min_eq_left h, List.take_of_length_le (by rw [List.length_drop]; exact Nat.le_refl _)]
  · rw [Nat.min_eq_right (by omega), List.drop_eq_nil_of_le (Nat.le_refl _), List.drop_eq_nil_of_le (by omega), List.take_nil]
theorem dInts_take (ns : List Int) (k : Nat) : (dInts ns).take k = dInts (ns.take k) := by simp [dInts, List.map_take]
theorem dInts_drop (ns : List Int) (k : Nat) : (dInts ns).drop k = dInts (ns.drop k) := by simp [dInts, List.map_drop]
theorem dInts_app (ns ms : List Int) : dInts ns ++ dInts ms = dInts (ns ++ ms) := by simp [dInts]
theorem dInts_rev (ns : List Int) : (dInts ns).reverse = dInts ns.reverse := by simp [dInts]
theorem ifT {b : Bool} {A B : Prop} (hb : b = true) (h : A) : if b = true then A else B := by rw [if_pos hb]; exact h
theorem ifF {b : Bool} {A B : Prop} (hb : b = false) (h : B) : if b = true then A else B := by rw [if_neg (by rw [hb]; decide)]; exact h
theorem dInts_inj : ∀ {a b : List Int}, dInts a = dInts b → a = b
  | [], [], _ => rfl
  | [], _ :: _, h => by simp [dInts] at h
  | _ :: _, [], h => by simp [dInts] at h
  | x :: a, y :: b, h => by
    simp only [dInts, List.map_cons, List.cons.injEq, PyData.int.injEq] at h
    rw [h.1, dInts_inj (a := a) (b := b) h.2]
theorem eqv_dInts : ∀ a b : List Int, PyData.eqvAll (dInts a) (dInts b) = decide (a = b)
  | [], [] => rfl
  | [], _ :: _ => rfl
  | _ :: _, [] => rfl
  | x :: a, y :: b => by
    have ih := eqv_dInts a b
    simp only [dInts, List.map_cons, PyData.eqvAll, PyData.eqv]
    rw [show PyData.eqvAll (List.map PyData.int a) (List.map PyData.int b) = decide (a = b) from ih]
    by_cases h1 : x = y
    · by_cases h2 : a = b
      · simp [h1, h2]
      · simp [h1, h2]
    · simp [h1]
theorem eqv_tup (a b : List Int) : PyData.eqv (.tuple (dInts a)) (.tuple (dInts b)) = decide (a = b) := by
  rw [PyData.eqv]
  exact eqv_dInts a b
theorem shaped_tup (ns : List Int) : SeqAt.shaped (.tuple (dInts ns)) = true := by
  unfold SeqAt.shaped
  simp [PyData.canLay0, dInts_lay, PyData.depth, dInts_depth]
theorem eq_tup {a b : List Int} {P : PyData → Prop} (h : P (.bool (decide (a = b)))) : rdEq (.tuple (dInts a)) (.tuple (dInts b)) P := by
  refine ⟨shaped_tup a, shaped_tup b, ?_⟩
  rw [eqv_tup]
  exact h
theorem ne_tup {a b : List Int} {P : PyData → Prop} (h : P (.bool (!decide (a = b)))) : rdNe (.tuple (dInts a)) (.tuple (dInts b)) P := by
  refine ⟨shaped_tup a, shaped_tup b, ?_⟩
  show (match PyData.bool (PyData.eqv (.tuple (dInts a)) (.tuple (dInts b))) with | .bool b => P (.bool (!b)) | _ => False)
  rw [eqv_tup]
  exact h
theorem eq_lst {a b : List Int} {P : PyData → Prop} (h : P (.bool (decide (a = b)))) : rdEq (.list (dInts a)) (.list (dInts b)) P := by
  refine ⟨shaped_lst a, shaped_lst b, ?_⟩
  rw [PyData.eqv, eqv_dInts]
  exact h
theorem ne_lst2 {a b : List Int} {P : PyData → Prop} (h : P (.bool (!decide (a = b)))) : rdNe (.list (dInts a)) (.list (dInts b)) P := by
  refine ⟨shaped_lst a, shaped_lst b, ?_⟩
  show (match PyData.bool (PyData.eqv (.list (dInts a)) (.list (dInts b))) with | .bool b => P (.bool (!b)) | _ => False)
  rw [PyData.eqv, eqv_dInts]
  exact h
theorem nq_bool {a b : Bool} {P : PyData → Prop} (h : P (.bool (a != b))) : rdNe (.bool a) (.bool b) P := by
  refine ⟨by unfold SeqAt.shaped; simp [PyData.canLay0, PyData.depth], by unfold SeqAt.shaped; simp [PyData.canLay0, PyData.depth], ?_⟩
  cases a <;> cases b <;> exact h
theorem eqq_bool {a b : Bool} {P : PyData → Prop} (h : P (.bool (a == b))) : rdEq (.bool a) (.bool b) P := by
  refine ⟨by unfold SeqAt.shaped; simp [PyData.canLay0, PyData.depth], by unfold SeqAt.shaped; simp [PyData.canLay0, PyData.depth], ?_⟩
  cases a <;> cases b <;> exact h
theorem eq_noneI {i : Int} {P : PyData → Prop} (h : P (.bool false)) : rdEq .none (.int i) P := ⟨rfl, rfl, h⟩
theorem dInts_at2 {ms : List Int} {k : Nat} (h : k < ms.length) : atI (dInts ms) (k : Int) = some (.int ms[k]) := by
  refine atI_nat ?_
  unfold dInts
  rw [List.getElem?_map, List.getElem?_eq_getElem h]
  rfl
/-! ### greatest and least of a list -/
def mxL : List Int → Int
  | [] => 0
  | [a] => a
  | a :: b :: l => max a (mxL (b :: l))
def mnL : List Int → Int
  | [] => 0
  | [a] => a
  | a :: b :: l => min a (mnL (b :: l))
theorem mxL_mem : ∀ {l : List Int}, 0 < l.length → mxL l ∈ l
  | [], h => absurd h (by decide)
  | [a], _ => by simp [mxL]
  | a :: b :: l, _ => by
    have ih := mxL_mem (l := b :: l) (by simp)
    show max a (mxL (b :: l)) ∈ a :: b :: l
    rcases Int.le_total a (mxL (b :: l)) with h | h
    · rw [Int.max_eq_right h]
      exact List.mem_cons_of_mem _ ih
    · rw [Int.max_eq_left h]
      exact List.mem_cons_self
theorem mnL_mem : ∀ {l : List Int}, 0 < l.length → mnL l ∈ l
  | [], h => absurd h (by decide)
  | [a], _ => by simp [mnL]
  | a :: b :: l, _ => by
    have ih := mnL_mem (l := b :: l) (by simp)
    show min a (mnL (b :: l)) ∈ a :: b :: l
    rcases Int.le_total a (mnL (b :: l)) with h | h
    · rw [Int.min_eq_left h]
      exact List.mem_cons_self
    · rw [Int.min_eq_right h]
      exact List.mem_cons_of_mem _ ih
theorem mxL_ge : ∀ {l : List Int} {y : Int}, y ∈ l → y ≤ mxL l
  | [a], y, h => by simp at h; simp [mxL, h]
  | a :: b :: l, y, h => by
    show y ≤ max a (mxL (b :: l))
    rcases List.mem_cons.mp h with rfl | h
    · exact Int.le_max_left _ _
    · exact Int.le_trans (mxL_ge h) (Int.le_max_right _ _)
theorem mnL_le : ∀ {l : List Int} {y : Int}, y ∈ l → mnL l ≤ y
  | [a], y, h => by simp at h; simp [mnL, h]
  | a :: b :: l, y, h => by
    show min a (mnL (b :: l)) ≤ y
    rcases List.mem_cons.mp h with rfl | h
    · exact Int.min_le_left _ _
    · exact Int.le_trans (Int.min_le_right _ _) (mnL_le h)
theorem mxL_eq {l : List Int} {m : Int} (h1 : m ∈ l) (h2 : ∀ y ∈ l, y ≤ m) : mxL l = m := by
  have := mxL_ge h1
  have := h2 _ (mxL_mem (List.length_pos_of_mem h1))
  omega
theorem mnL_eq {l : List Int} {m : Int} (h1 : m ∈ l) (h2 : ∀ y ∈ l, m ≤ y) : mnL l = m := by
  have := mnL_le h1
  have := h2 _ (mnL_mem (List.length_pos_of_mem h1))
  omega
theorem max_ok {l : List Int} {P : PyData → Prop} (hl : 0 < l.length) (h : P (.int (mxL l))) : rdMaxA [.list (dInts l)] P :=
  ⟨l, intsOf_map l, hl, fun m h1 h2 => by rw [← mxL_eq h1 h2]; exact h⟩
theorem min_ok {l : List Int} {P : PyData → Prop} (hl : 0 < l.length) (h : P (.int (mnL l))) : rdMinA [.list (dInts l)] P :=
  ⟨l, intsOf_map l, hl, fun m h1 h2 => by rw [← mnL_eq h1 h2]; exact h⟩
theorem sum_okT {l : List Int} {P : PyData → Prop} (h : P (.int l.sum)) : rdSumA [.tuple (dInts l)] P := ⟨l, intsOf_map l, h⟩
theorem sum_okL {l : List Int} {P : PyData → Prop} (h : P (.int l.sum)) : rdSumA [.list (dInts l)] P := ⟨l, intsOf_map l, h⟩
end DL
namespace DL
open PySem PySem.Spec PyProof.Rows L2
/-! ### what can be shown, dicts among it -/
structure Sd (k N : Nat) (d : PyData) : Prop where
  s : d.showable = true
  k : d.depth ≤ k
  c : d.shown.length ≤ N
theorem Sm.sd {k N : Nat} {d : PyData} (h : Sm k N d) : Sd k N d := ⟨h.s, h.k, Nat.le_trans (shown_le d h.s h.h) h.c⟩
theorem sds_of {k N : Nat} : ∀ {ds : List PyData}, (∀ d ∈ ds, Sd k N d) → PyData.showableAll ds = true ∧ PyData.depthAll ds ≤ k ∧ piled (PyData.shownAll ds) ≤ (N + 2) * ds.length
  | [], _ => ⟨rfl, Nat.zero_le _, by simp [PyData.shownAll, piled]⟩
  | d :: ds, h => by
    obtain ⟨h1, h2, h3⟩ := sds_of fun e he => h e (List.mem_cons_of_mem _ he)
    have hd := h d List.mem_cons_self
    refine ⟨by simp only [PyData.showableAll, hd.s, h1, Bool.and_self], ?_, ?_⟩
    · simp only [PyData.depthAll]
      have := hd.k
      omega
    · simp only [PyData.shownAll]
      rw [piled_cons, List.length_cons, Nat.mul_succ]
      have := hd.c
      omega
theorem sd_tup {k N : Nat} {ds : List PyData} (L : Nat) (h : ∀ d ∈ ds, Sd k N d) (hl : ds.length ≤ L) : Sd (k + 1) ((N + 2) * L + 2) (.tuple ds) := by
  obtain ⟨h1, h2, h3⟩ := sds_of h
  refine ⟨by simpa [PyData.showable] using h1, by simpa [PyData.depth] using h2, ?_⟩
  simp only [PyData.shown]
  have := fmt_text (PyData.shownAll ds)
  have := Nat.mul_le_mul_left (N + 2) hl
  omega
theorem sd_lst {k N : Nat} {ds : List PyData} (L : Nat) (h : ∀ d ∈ ds, Sd k N d) (hl : ds.length ≤ L) : Sd (k + 1) ((N + 2) * L + 2) (.list ds) := by
  obtain ⟨h1, h2, h3⟩ := sds_of h
  refine ⟨by simpa [PyData.showable] using h1, by simpa [PyData.depth] using h2, ?_⟩
  simp only [PyData.shown]
  have := listText_le (PyData.shownAll ds)
  have := Nat.mul_le_mul_left (N + 2) hl
  omega
theorem Sd.mono {k k' N N' : Nat} {d : PyData} (h : Sd k N d) (h1 : k ≤ k') (h2 : N ≤ N') : Sd k' N' d := ⟨h.s, Nat.le_trans h.k h1, Nat.le_trans h.c h2⟩
theorem Sd.shows {k N : Nat} {d : PyData} (h : Sd k N d) (h1 : k ≤ 60) (h2 : N ≤ 16000000) : DL.shows d := ⟨h.s, Nat.le_trans h.k h1, Nat.le_trans h.c (by rw [sizeLine_eq]; omega)⟩
theorem sd_int {i : Int} (h : i.natAbs < 2 ^ 200) : Sd 0 1921 (.int i) := (sm_int h).sd
theorem sd_none : Sd 0 1921 .none := sm_none.sd
theorem sd_bool (b : Bool) : Sd 0 1921 (.bool b) := (sm_bool b).sd
theorem sd_dict0 : Sd 1 1921 (.dict []) := ⟨rfl, by decide, by simp only [PyData.shown]; decide +kernel⟩
theorem sd_dict1 : Sd 1 1921 (.dict [(.str "a", .int 1)]) := ⟨by decide +kernel, by decide +kernel, by decide +kernel⟩
theorem sd_str {x : Str} (h : (reprText x).length ≤ 1921) : Sd 0 1921 (.str x) := ⟨rfl, Nat.le_refl _, h⟩
end DL
namespace DL
open PySem PySem.Spec PyProof.Rows L2 HT
/-! ### t[::-1] of a tuple -/
section
variable {prog : Program} {w : World} {A : Around} {E : Value → Shared → Prop} {s : Shared}
theorem adjust_rev (n : Nat) : Builtin.Slice.sliceAdjust none none (-1) (n : Int) = ((n : Int) - 1, -1) := rfl
theorem places_rev (n : Nat) : Builtin.Slice.slicePlaces ((n : Int) - 1) (-1) (-1) = n := by
  unfold Builtin.Slice.slicePlaces
  have h1 : ¬ ((-1 : Int) > 0) := by omega
  simp only [h1, if_false]
  by_cases h : n = 0
  · subst h
    rfl
  · have h2 : (n : Int) - 1 > -1 := by omega
    simp only [h2, if_true]
    rw [show -(-1 : Int) = 1 by decide, Int.ediv_one]
    omega
theorem sliceApplied_rev {sl : Addr} {vs : Value} {n : Nat} {Q : Int × Int × Nat → Shared → Prop} (hs : s.heap.IsSliceOf sl .none .none vs) (ps : IsPart vs (some (-1))) (h : Q ((n : Int) - 1, -1, n) s) :
    wpAny (model prog w) A (Builtin.Slice.sliceApplied (.ref sl) (pure (n : Int))) Q E s := by
  obtain ⟨os, hos, hcs, hds⟩ := id hs
  unfold Builtin.Slice.sliceApplied Builtin.Slice.sliceFields
  refine wpAny_bind (wpAny_bind (wpAny_field hos hds (x := .none) rfl (wpAny_bind (wpAny_field hos hds (x := .none) rfl (wpAny_bind (wpAny_field hos hds (x := vs) rfl (wpAny_pure ?_)))))))
  refine wpAny_bind (slicePart_ ps ?_)
  show wpAny _ _ (if ((-1 : Int) == 0) = true then _ else _) _ _ s
  rw [if_neg (by decide)]
  refine wpAny_bind (slicePart_ .none (wpAny_bind (slicePart_ .none (wpAny_bind (wpAny_pure ?_)))))
  show wpAny _ _ (match Builtin.Slice.sliceAdjust none none (-1) (n : Int) with | (lo, hi) => pure (lo, (-1 : Int), Builtin.Slice.slicePlaces lo hi (-1))) _ _ s
  rw [adjust_rev]
  show wpAny _ _ (pure ((n : Int) - 1, (-1 : Int), Builtin.Slice.slicePlaces ((n : Int) - 1) (-1) (-1))) _ _ s
  rw [places_rev]
  exact wpAny_pure h
theorem pick_rev (xs : Array Value) : ((List.range xs.size).filterMap fun (m : Nat) => xs[(((xs.size : Int) - 1) + (m : Int) * (-1)).toNat]?).toArray = xs.toList.reverse.toArray := by
  congr 1
  have one : ∀ m, m < xs.size → xs[(((xs.size : Int) - 1) + (m : Int) * (-1)).toNat]? = xs.toList.reverse[m]? := fun m hm => by
    rw [List.getElem?_reverse (by rw [Array.length_toList]; exact hm), Array.length_toList, Array.getElem?_toList]
    congr 1
    omega
  have e : ((List.range xs.size).filterMap fun (m : Nat) => xs[(((xs.size : Int) - 1) + (m : Int) * (-1)).toNat]?) = (List.range xs.size).filterMap fun m => xs.toList.reverse[m]? := by
    have gen : ∀ (l : List Nat), (∀ m ∈ l, m < xs.size) → l.filterMap (fun (m : Nat) => xs[(((xs.size : Int) - 1) + (m : Int) * (-1)).toNat]?) = l.filterMap fun m => xs.toList.reverse[m]? := fun l => by
      induction l with
      | nil => intro _; rfl
      | cons m l ih =>
        intro hl
        rw [List.filterMap_cons, List.filterMap_cons, ih fun k hk => hl k (List.mem_cons_of_mem _ hk), one m (hl m List.mem_cons_self)]
    exact gen _ fun m hm => List.mem_range.mp hm
  rw [e]
  have : ∀ (l : List Value), (List.range l.length).filterMap (fun m => l[m]?) = l := fun l => by
    induction l with
    | nil => rfl
    | cons x l ih =>
      rw [List.length_cons, List.range_succ_eq_map, List.filterMap_cons]
      simp only [List.getElem?_cons_zero, List.filterMap_map]
      congr 1
  have h2 := this xs.toList.reverse
  rw [List.length_reverse, Array.length_toList] at h2
  exact h2
theorem getItem_tuple_rev {t sl : Addr} {items : Array Value} {vs : Value} {Q : Value → Shared → Prop} (ht : IsTup s.heap t items) (hs : s.heap.IsSliceOf sl .none .none vs) (ps : IsPart vs (some (-1)))
    (h : Q (.ref s.heap.objs.size) { s with heap := s.heap.push { cls := .type "tuple", data := .seq items.toList.reverse.toArray } }) (hsz : items.size ≤ sizeLine) : wpAny (model prog w) A (getItem (.ref t) (.ref sl)) Q E s := by
  have htake : sizeOk (.seq items.toList.reverse.toArray) := by
    show items.toList.reverse.toArray.size ≤ sizeLine
    rw [List.size_toArray, List.length_reverse, Array.length_toList]
    exact hsz
  obtain ⟨os, hos, hcs, hds⟩ := id hs
  have hTs : s.TypeIs (.ref sl) "slice" := ⟨os, hos, hcs⟩
  unfold getItem
  try with_reducible refine wpAny_holding ?_
  first | refine wpAny_bind (wpAny_pure ?_) | skip
  refine wpAny_bind (wpAny_sequenceKey ht.typeIs (by decide) ?_)
  refine wpAny_bind (wpAny_callSpecial?_slot (name := Str.ofString "__getitem__") ht.typeIs PyProof.Rows.slot_tuple_getitem
    (wpAny_call_entry PyProof.Rows.slot_tuple_getitem ht.typeIs entry_tuple_getitem ?_ (args_tuple_getitem _ _)))
  show wpAny _ _ (Builtin.Tuple.tupleItemsOf (.ref t) >>= _) _ _ s
  refine wpAny_bind (tupleItemsOf_ ht ?_)
  refine wpAny_bind (wpAny_typeOf hTs ?_)
  rw [if_pos (by decide)]
  refine wpAny_bind (sliceApplied_rev hs ps ?_)
  have hno : ¬ ((((items.size : Int) - 1) == 0 && (-1 : Int) == 1 && items.size == items.size) = true) := by simp
  show wpAny _ _ (if (((items.size : Int) - 1) == 0 && (-1 : Int) == 1 && items.size == items.size) = true then _ else _) _ _ s
  rw [if_neg hno, pick_rev]
  first
    | exact wpAny_bind (m := Builtin.Tuple.tupleExact _) (wpAny_newObj_type (wpAny_pure ⟨_, rfl, wpAny_pure h⟩) htake)
    | exact wpAny_bind (m := Builtin.Tuple.tupleExact _) (wpAny_newObj_type (wpAny_bind (wpAny_pure (wpAny_pure ⟨_, rfl, wpAny_pure h⟩))) htake)
    | exact wpAny_bind (wpAny_bind (m := Builtin.Tuple.tupleExact _) (wpAny_newObj_type (wpAny_pure (wpAny_pure ⟨_, rfl, wpAny_pure h⟩)) htake))
    | exact wpAny_bind (wpAny_bind (m := Builtin.Tuple.tupleExact _) (wpAny_newObj_type (wpAny_pure ⟨_, rfl, wpAny_pure h⟩) htake))
end
def tRevT (K : PySem.W.Frag) (te : TE) : TE := fun σ H Q => te σ H fun x H1 => ∃ a xs, x = .ref a ∧ SqT K H1 a xs ∧ ∀ p, H1 p = none → Q (.ref p) (upd H1 p (.tup xs.reverse))
section
variable {X : Cx}
theorem pe_revT {e : Expr} {te : TE} {k : Nat} {p1 p2 p3 pos : Pos} (he : PE X e te) : PE X (.Subscript e (.Slice none none (some (.UnaryOp .USub (.Constant (.int 1) k p1) p2)) p3) pos) (tRevT X.K te) := by
  refine ⟨fun pins s σ H Q I h => ?_⟩
  refine Subscript_ (thn (he.run pins s σ H _ I h) fun v s1 ⟨x, H1, I1, r1, q1⟩ => ?_)
  obtain ⟨a, xs, ex, hx, q⟩ := q1
  subst ex
  cases r1
  have hst : PO X (some (.UnaryOp .USub (.Constant (.int 1) k p1) p2)) (tPart (tUn (rU fun i => .int (-i)) (tC (.int 1)))) := po_some (pe_un un_neg pe_int)
  refine wpAny_Slice (thn (po_none.run pins s1 σ H1 (fun o H2 => o = none ∧ H2 = H1) I1 ⟨rfl, rfl⟩) fun vl s2 ⟨l, H2, I2, pl, el, e2⟩ => ?_)
  subst el e2
  refine thn (po_none.run pins s2 σ H2 (fun o H3 => o = none ∧ H3 = H2) I2 ⟨rfl, rfl⟩) fun vu s3 ⟨u, H3, I3, pu, eu, e3⟩ => ?_
  subst eu e3
  refine thn (hst.run pins s3 σ H3 (fun o H4 => o = some (-1) ∧ H4 = H3) I3 ⟨1, rfl, -1, rfl, rfl, rfl⟩) fun vs s4 ⟨o, H4, I4, ps, eo, e4⟩ => ?_
  subst eo e4
  cases pl
  cases pu
  have I5 : Inv X pins σ H4 { s4 with heap := s4.heap.push { cls := .type "slice", data := .fields #[.none, .none, vs] } } := I4.kept (t' := s4.toks) fun b ob q => Heap.get?_push_of_some _ q
  obtain ⟨its, r, ht, hz⟩ := I5.tuple hx
  have hlen := r.length
  show wpAny (model X.prog X.w) X.A (subscriptTail e (.Slice none none (some (.UnaryOp .USub (.Constant (.int 1) k p1) p2)) p3) (.ref a) (.ref s4.heap.objs.size)) (EP X pins σ Q) X.xe { s4 with heap := s4.heap.push { cls := .type "slice", data := .fields #[.none, .none, vs] } }
  refine tail_any (ops := [.ref a, .ref s4.heap.objs.size]) ht.typeIs (PyProof.Rows.slot_tuple_getitem.lookup) ?_ (by with_unfolding_all rfl)
  refine getItem_tuple_rev ht (Heap.IsSliceOf.new _ .none .none vs) ps ?_ (by rw [List.size_toArray]; omega)
  refine ⟨.ref _, _, I5.laid (t' := s4.toks) (o := .tup xs.reverse) (fun b ob q => Heap.get?_push_of_some _ q) (Nat.le_refl _) ?_, rfl, q _ (I5.hok.fresh (Nat.le_refl _))⟩
  exact ⟨by rw [List.length_reverse]; exact hz, _, r.reverse, IsTup.new _ _⟩
end
def rdRevT : PyData → (PyData → Prop) → Prop := fun d P => match d with
  | .tuple ds => P (.tuple ds.reverse)
  | _ => False
section
variable {X : Cx} {E : En} {a b : Expr} {da db : DE} {pos : Pos}
theorem de_revT {kk : Nat} {p1 p2 p3 : Pos} (h : DPE X E a da) : DPE X E (.Subscript a (.Slice none none (some (.UnaryOp .USub (.Constant (.int 1) kk p1) p2)) p3) pos) (dUn rdRevT da) := by
  refine pe_imp (pe_revT h) fun σ H Q h => ?_
  obtain ⟨g, env, c, P, rel, q, k⟩ := h
  refine ⟨g, env, c, _, rel, q, fun x c1 g1 H1 v p1 m1 r1 o1 f1 => ?_⟩
  cases x with
  | deck => exact p1.elim
  | exc _ => exact p1.elim
  | own l => exact p1.elim
  | dat d =>
    cases d <;> try exact p1.elim
    rename_i ds
    have o1 : Dp X.K g1.F v (.tuple ds) := o1
    cases o1 with
    | tup hs ha =>
      refine ⟨_, _, rfl, seqT r1.ex hs, fun p hp => ?_⟩
      obtain ⟨r2, m2⟩ := r1.new (.tup _) hp
      exact k _ _ _ _ _ p1 (m1.trans m2) r2 (.tup (.of upd_same) (dpAll_mono m2.f (DpAll.rev ha))) trivial
end
/-! ### all, any -/
def boolsOf : List PyData → Option (List Bool)
  | [] => some []
  | .bool b :: r => (boolsOf r).map (b :: ·)
  | _ :: _ => none
theorem boolsOf_dp {K : PySem.W.Frag} {F : Hp} : ∀ {ds : List PyData} {xs : List V} {bs : List Bool}, boolsOf ds = some bs → DpAll K F xs ds → xs = bs.map V.bl
  | [], _, bs, e, h => by
    cases h
    cases e
    rfl
  | d :: ds, _, bs, e, h => by
    cases h with
    | cons h1 h2 =>
      cases d <;> try (simp [boolsOf] at e; done)
      rename_i b
      simp only [boolsOf, Option.map_eq_some_iff] at e
      obtain ⟨l, e1, rfl⟩ := e
      rw [dp_bl h1, boolsOf_dp e1 h2]
      rfl
theorem boolsOf_map (bs : List Bool) : boolsOf (bs.map PyData.bool) = some bs := by
  induction bs with
  | nil => rfl
  | cons b bs ih => simp [boolsOf, ih]
def rdAll : List PyData → (PyData → Prop) → Prop := fun ds P => match ds with
  | [.list xs] => ∃ bs, boolsOf xs = some bs ∧ P (.bool (bs.all id))
  | _ => False
def rdAny : List PyData → (PyData → Prop) → Prop := fun ds P => match ds with
  | [.list xs] => ∃ bs, boolsOf xs = some bs ∧ P (.bool (bs.any id))
  | _ => False
theorem cd_all {K : PySem.W.Frag} : CallD K (rAll K) rdAll := by
  intro E g env c σ H xs ds P Q r h q k
  unfold rdAll at q
  split at q
  · cases h with
    | cons h1 t =>
      cases t
      cases h1 with
      | lst hs ha =>
        obtain ⟨bs, e, q⟩ := q
        have ex := boolsOf_dp e ha
        subst ex
        exact ⟨_, bs, rfl, r.ex.seq hs, k _ g H _ q (Mv.refl g H) r (.bl _)⟩
  · exact q.elim
theorem cd_any {K : PySem.W.Frag} : CallD K (rAny K) rdAny := by
  intro E g env c σ H xs ds P Q r h q k
  unfold rdAny at q
  split at q
  · cases h with
    | cons h1 t =>
      cases t
      cases h1 with
      | lst hs ha =>
        obtain ⟨bs, e, q⟩ := q
        have ex := boolsOf_dp e ha
        subst ex
        exact ⟨_, bs, rfl, r.ex.seq hs, k _ g H _ q (Mv.refl g H) r (.bl _)⟩
  · exact q.elim
/-! ### is True, is not True, of bools -/
def rdIsB : PyData → PyData → (PyData → Prop) → Prop := fun d e P => match d, e with
  | .bool a, .bool b => P (.bool (decide (a = b)))
  | _, _ => False
def rdNotB : PyData → PyData → (PyData → Prop) → Prop := fun d e P => match d, e with
  | .bool a, .bool b => P (.bool (!decide (a = b)))
  | _, _ => False
theorem opd_isB {K : PySem.W.Frag} : OpD K rIsB rdIsB := by
  intro E g env c σ H x y d e P Q r hx hy q k
  unfold rdIsB at q
  split at q
  · exact ⟨_, _, dp_bl hx, dp_bl hy, k _ g H _ q (Mv.refl g H) r (.bl _)⟩
  · exact q.elim
theorem opd_notB {K : PySem.W.Frag} : OpD K rNotB rdNotB := by
  intro E g env c σ H x y d e P Q r hx hy q k
  unfold rdNotB at q
  split at q
  · exact ⟨_, _, dp_bl hx, dp_bl hy, k _ g H _ q (Mv.refl g H) r (.bl _)⟩
  · exact q.elim
section
variable {X : Cx} {E : En} {a b : Expr} {da db : DE} {pos : Pos}
theorem de_isB (ha : DPE X E a da) (hb : DPE X E b db) (hm : behindInMarks .Is b = false := by first | exact nobehind _ (by decide) (by decide) | rfl) : DPE X E (.Compare a [.Is] [b] pos) (dOp rdIsB da db) := de_cmp op_isBl opd_isB ha hb hm
theorem de_notB (ha : DPE X E a da) (hb : DPE X E b db) (hm : behindInMarks .IsNot b = false := by first | exact nobehind _ (by decide) (by decide) | rfl) : DPE X E (.Compare a [.IsNot] [b] pos) (dOp rdNotB da db) := de_cmp op_notBl opd_notB ha hb hm
theorem dt_isB (ha : DPE X E a da) (hb : DPE X E b db) (hm : behindInMarks .Is b = false := by first | exact nobehind _ (by decide) (by decide) | rfl) : DPT X E (.Compare a [.Is] [b] pos) (tVal (dOp rdIsB da db)) := dt_cmp op_isBl opd_isB ha hb hm
theorem dt_notB (ha : DPE X E a da) (hb : DPE X E b db) (hm : behindInMarks .IsNot b = false := by first | exact nobehind _ (by decide) (by decide) | rfl) : DPT X E (.Compare a [.IsNot] [b] pos) (tVal (dOp rdNotB da db)) := dt_cmp op_notBl opd_notB ha hb hm
end
end DL
namespace DL
open PySem PySem.Spec PyProof.Rows L2
/-! ### x == [], x != [], whatever x holds -/
def rNeLen (K : PySem.W.Frag) : R2 := fun x y H Q => ∃ a b xs ys, x = .ref a ∧ y = .ref b ∧ SqL K H a xs ∧ SqL K H b ys ∧ xs.length ≠ ys.length ∧ Q (.bl true) H
def rEqLen (K : PySem.W.Frag) : R2 := fun x y H Q => ∃ a b xs ys, x = .ref a ∧ y = .ref b ∧ SqL K H a xs ∧ SqL K H b ys ∧ xs.length ≠ ys.length ∧ Q (.bl false) H
section
variable {X : Cx}
theorem op_neLen (hu : X.A.units < cLine) : OpR X (compareOp .NotEq) (rNeLen X.K) := by
  intro pins s σ H x y v u Q I rx ry h
  obtain ⟨a, b, xs, ys, rfl, rfl, h1, h2, hne, q⟩ := h
  cases rx
  cases ry
  obtain ⟨its, r, hl, _⟩ := I.list h1
  obtain ⟨its2, r2, hl2, _⟩ := I.list h2
  have l1 := r.length
  have l2 := r2.length
  exact SeqAt.RcNeAt.lists_lengths hl.isList hl2.isList (by simp; omega) hu X.prog X.w X.xe _ ⟨.bl true, H, I, rfl, q⟩
theorem op_eqLen (hu : X.A.units < cLine) : OpR X (compareOp .Eq) (rEqLen X.K) := by
  intro pins s σ H x y v u Q I rx ry h
  obtain ⟨a, b, xs, ys, rfl, rfl, h1, h2, hne, q⟩ := h
  cases rx
  cases ry
  obtain ⟨its, r, hl, _⟩ := I.list h1
  obtain ⟨its2, r2, hl2, _⟩ := I.list h2
  have l1 := r.length
  have l2 := r2.length
  exact SeqAt.RcAt.lists_lengths hl.isList hl2.isList (by simp; omega) hu X.prog X.w X.xe _ ⟨.bl false, H, I, rfl, q⟩
end
def rdNeNil : PyData → PyData → (PyData → Prop) → Prop := fun d e P => match d, e with
  | .list xs, .list [] => P (.bool (!xs.isEmpty))
  | _, _ => False
def rdEqNil : PyData → PyData → (PyData → Prop) → Prop := fun d e P => match d, e with
  | .list xs, .list [] => P (.bool xs.isEmpty)
  | _, _ => False
theorem opd_neNil {K : PySem.W.Frag} : OpD K (fun x y H Q => rNeLen K x y H Q ∨ rNeD K x y H Q) rdNeNil := by
  intro E g env c σ H x y d e P Q r hx hy q k
  unfold rdNeNil at q
  split at q
  · rename_i xs
    cases xs with
    | nil => exact .inr ⟨_, _, dp_l2 (dpF r hx) rfl, dp_l2 (dpF r hy) rfl, rfl, rfl, k _ g H _ q (Mv.refl g H) r (.bl _)⟩
    | cons z xs =>
      cases hx with
      | lst s1 a1 =>
        cases hy with
        | lst s2 a2 =>
          cases a2
          refine .inl ⟨_, _, _, _, rfl, rfl, r.ex.seq s1, r.ex.seq s2, ?_, k _ g H _ q (Mv.refl g H) r (.bl _)⟩
          rw [DpAll.len a1]
          simp
  · exact q.elim
theorem opd_eqNil {K : PySem.W.Frag} : OpD K (fun x y H Q => rEqLen K x y H Q ∨ rEqD K x y H Q) rdEqNil := by
  intro E g env c σ H x y d e P Q r hx hy q k
  unfold rdEqNil at q
  split at q
  · rename_i xs
    cases xs with
    | nil => exact .inr ⟨_, _, dp_l2 (dpF r hx) rfl, dp_l2 (dpF r hy) rfl, rfl, rfl, k _ g H _ q (Mv.refl g H) r (.bl _)⟩
    | cons z xs =>
      cases hx with
      | lst s1 a1 =>
        cases hy with
        | lst s2 a2 =>
          cases a2
          refine .inl ⟨_, _, _, _, rfl, rfl, r.ex.seq s1, r.ex.seq s2, ?_, k _ g H _ q (Mv.refl g H) r (.bl _)⟩
          rw [DpAll.len a1]
          simp
  · exact q.elim
section
variable {X : Cx} {E : En} {a b : Expr} {da db : DE} {pos : Pos}
theorem room_line {k : Nat} {A : Around} (hr : Room k A) : A.units < cLine := Nat.lt_of_le_of_lt (Nat.le_add_right _ _) hr.units
theorem de_neNil {k : Nat} (hr : Room k X.A) (ha : DPE X E a da) (hb : DPE X E b db) : DPE X E (.Compare a [.NotEq] [b] pos) (dOp rdNeNil da db) := de_cmp (op_or (op_neLen (room_line hr)) (op_neD hr.units)) opd_neNil ha hb
theorem de_eqNil {k : Nat} (hr : Room k X.A) (ha : DPE X E a da) (hb : DPE X E b db) : DPE X E (.Compare a [.Eq] [b] pos) (dOp rdEqNil da db) := de_cmp (op_or (op_eqLen (room_line hr)) (op_eqD hr.units)) opd_eqNil ha hb
theorem dt_neNil {k : Nat} (hr : Room k X.A) (ha : DPE X E a da) (hb : DPE X E b db) : DPT X E (.Compare a [.NotEq] [b] pos) (tVal (dOp rdNeNil da db)) := dt_cmp (op_or (op_neLen (room_line hr)) (op_neD hr.units)) opd_neNil ha hb
theorem dt_eqNil {k : Nat} (hr : Room k X.A) (ha : DPE X E a da) (hb : DPE X E b db) : DPT X E (.Compare a [.Eq] [b] pos) (tVal (dOp rdEqNil da db)) := dt_cmp (op_or (op_eqLen (room_line hr)) (op_eqD hr.units)) opd_eqNil ha hb
end
/-- a boolean comprehension over a tuple -/
theorem bools_map (f : PyData → Bool) (ds : List PyData) : boolsOf (ds.map fun d => .bool (f d)) = some (ds.map f) := by
  rw [show (ds.map fun d => PyData.bool (f d)) = (ds.map f).map PyData.bool by rw [List.map_map]; rfl]
  exact boolsOf_map _
end DL
namespace DL
open PySem PySem.Spec PyProof.Rows L2
/-! ### what is never reached -/
def sNo : DS := fun _ _ _ => False
theorem ds_no {X : Cx} {E : En} {st : Stmt} : DPS X E st sNo := ⟨fun pins s σ H D I h => by
  obtain ⟨_, _, _, _, _, q, _⟩ := h
  exact q.elim⟩
end DL
set_option maxHeartbeats 2000000
/-! defs with one star parameter -/
namespace DL
open PySem PySem.Spec PyProof.Rows L2
structure FnV (P : Program) (w : World) (K : PySem.W.Frag) (mg : Str → Option Value) (base : Heap) (k : Nat) (f : Addr) (sp : Sp) : Prop where
  run : ∀ (A : Around) (outer : List Env) (s : Shared) (H : Hp) (us : List Value) (vs : List V) (Q : VK), Room k A → A.guards = some [] → Env0 P w K mg base A outer s H → Vals vs us → sp vs H Q E0 →
    codeAny (model P w) A (.call (.ref f) ⟨us, []⟩) (CR CX0 outer P w H s Q E0) s
section
variable {P : Program} {w : World} {K : PySem.W.Frag} {mg : Str → Option Value} {base : Heap}
theorem fnV_star {x qual : Str} {st : Stmt} {f : Addr} {fd : FuncData} {N : List Str} {pv : Str} {k : Nat} {sp : Sp} (F : Fun K x qual st f fd) (S : FnScope N [pv] (defScope st))
    (hbd : ∀ rest : List Value, bindArgs fd ⟨rest, []⟩ = (newTuple rest >>= fun t => pure [(pv, t)]))
    (hb : ∀ (cdv : Value) (A : Around) (outer : List Env) (s : Shared) (H : Hp) (vs : List V) (Q : VK), Room k (A.deeper (envOfC qual (defScope st) s.heap.objs.size f cdv)) → A.guards = some [] → sp vs H Q E0 →
      ∃ t, PSs (cxOf CX0 P w K mg base N qual (defScope st) f cdv A outer s H E0).nox (defBody st) t ∧ t { nx := fun _ H' => Q .non H', rt := Q } (start N vs) H) :
    FnV P w K mg base (k + 1) f (fun vs H Q E => vs.length ≤ sizeLine ∧ ∀ p, H p = Option.none → sp [V.ref p] (upd H p (.tup vs)) Q E) := by
  obtain ⟨oc, od, kV, doc, pm, an, cdv, ct, osl, rfl, lk, hcd⟩ := F.ex
  refine ⟨fun A outer s H us vs Q room quiet e0 r want => ?_⟩
  obtain ⟨hz, hq⟩ := want
  have hn : H s.heap.objs.size = Option.none := e0.hok.fresh (Nat.le_refl _)
  have hl2 : us.length ≤ sizeLine := by rw [← r.length]; exact hz
  refine StX.run_bnd lk hcd S room e0 (G := fun xs H2 => ∃ p, H p = Option.none ∧ xs = [V.ref p] ∧ H2 = upd H p (.tup vs)) (fun A' Ex Q' h => ?_) fun s2 H2 xs ⟨p, hp, ex, eH⟩ hr' => ?_
  · rw [hbd us]
    refine wpAny_bind (wpAny_newTuple (wpAny_pure ?_) hl2)
    have new : ObjOk P w (upd H s.heap.objs.size (.tup vs)) (s.heap.push ({ cls := .type "tuple", data := .seq us.toArray } : Obj)) s.heap.objs.size (.tup vs) := ⟨hz, us, r, ⟨_, Heap.get?_push_size _ rfl, rfl, _, rfl⟩⟩
    have un := StX.un_laid (fs := frs outer) (s := s) (o := ({ cls := .type "tuple", data := .seq us.toArray } : Obj)) (u := .tup vs) hn
    exact h _ _ [V.ref s.heap.objs.size] [Value.ref s.heap.objs.size] (StX.env0_laid e0 new) un rfl (fun e s' z => z.elim) (.cons rfl .nil) rfl ⟨_, hn, rfl, rfl⟩
  · subst ex eH
    obtain ⟨t, d, q⟩ := hb cdv A outer s2 _ _ Q hr' quiet (hq p hp)
    exact ⟨t, d.nox, q⟩
end
section
variable {X : Cx} {k : Nat} {f : Addr} {sp : Sp} {x : Str} {p pos : Pos} {e : Expr} {es : List Expr} {t : TA}
theorem pe_callV (F : FnV X.prog X.w X.K X.mg X.base k f sp) (hr : Room k X.A) (hgd : X.A.guards = some []) (hg : Gl X x) (hm : X.mg x = some (.ref f)) (hk : PySem.W.keepIn X.K (.ref f) = true) (ha : PA X (e :: es) t)
    (hdb : (x == ("__debug__" : Str)) = false := by decide) (he : starEach (e :: es) X.env = (false, eval e X.env) :: starEach es X.env := by rfl) (hpl : (backTo pos (starEach es X.env)).any (·.1) = false := by rfl) :
    PE X (.Call (.Name x p) (e :: es) [] pos) (tCall sp [] E0 t) := by
  constructor
  intro pins s σ H Q I h
  refine wpAny_Call_Name_kw (ld_glob I hg hm (PySem.W.callWith_K (h₀ := X.base) I.ok.mod.kin hk ?_ he hpl) hdb)
  refine thn (ha.run pos pins s σ H _ I h) fun us s1 hq => ?_
  obtain ⟨vs, H1, I1, r, q⟩ := hq
  have q2 : sp vs H1 Q E0 := by
    have q3 : sp (vs ++ []) H1 Q E0 := q
    rwa [List.append_nil] at q3
  refine ⟨I1.kIn, wpAny_call (codeAny_mono (F.run X.A X.stack s1 H1 us vs Q hr hgd I1.env0 r q2) fun rr s' hrr => ?_)⟩
  match rr, hrr with
  | .error _, z => exact z.elim
  | .ok .next, z => exact z.elim
  | .ok .brk, z => exact z.elim
  | .ok .cont, z => exact z.elim
  | .ok (.ret u), z => exact I1.after z
end
def spV (K : PySem.W.Frag) (spec : Spec) : Sp := fun vs H Q _ => ∃ g c ds P, Same g.F H ∧ DeckOk g H c ∧ DpAll K g.F vs ds ∧ ds.length ≤ sizeLine ∧ spec [.dat (.tuple ds)] c P ∧
  ∀ x c' g' H' v, P x c' → Mv g H g' H' → Same g'.F H' → DeckOk g' H' c' → VOk K g' H' v x → free x → Q v H'
structure DefV (P : Program) (w : World) (K : PySem.W.Frag) (mg : Str → Option Value) (base : Heap) (k : Nat) (x : Str) (spec : Spec) : Prop where
  ex : ∃ f, FnV P w K mg base k f (spV K spec) ∧ mg x = some (.ref f) ∧ PySem.W.keepIn K (.ref f) = true
section
variable {X : Cx} {E : En} {k : Nat} {spec : Spec} {x : Str} {p pos : Pos} {e : Expr} {es : List Expr} {dr : DA}
def dCallV (spec : Spec) (dr : DA) : DE := dCall (fun xs c P => datsK xs fun ds => ds.length ≤ sizeLine ∧ spec [.dat (.tuple ds)] c P) dr
theorem de_callV (F : DefV X.prog X.w X.K X.mg X.base k x spec) (hr : Room k X.A) (hgd : X.A.guards = some []) (ha : DPA X E (e :: es) dr) (hg : Gl X x := by rfl)
    (hdb : (x == ("__debug__" : Str)) = false := by decide) (he : starEach (e :: es) X.env = (false, eval e X.env) :: starEach es X.env := by rfl) (hpl : (backTo pos (starEach es X.env)).any (·.1) = false := by rfl) :
    DPE X E (.Call (.Name x p) (e :: es) [] pos) (dCallV spec dr) := by
  obtain ⟨f, F, hm, hk⟩ := F.ex
  refine pe_imp (pe_callV F hr hgd hg hm hk ha hdb he hpl) fun σ H Q h => ?_
  obtain ⟨g, env, c, P, rel, q, kk⟩ := h
  refine ⟨g, env, c, _, rel, q, fun xs c1 g1 H1 vs p1 m1 r1 o1 f1 => ?_⟩
  show spV X.K spec (vs ++ []) H1 Q E0
  rw [List.append_nil]
  obtain ⟨ds, h1, h2⟩ := datsK_all o1 p1
  exact ⟨g1, c1, ds, P, r1.ex, r1.dk, h2, h1.1, h1.2, fun y c2 g2 H2 v p2 m2 ex dk ok fr => kk y c2 g2 H2 v p2 (m1.trans m2) (r1.call m2 ex dk) ok fr⟩
end
section
variable {P : Program} {w : World} {K : PySem.W.Frag} {mg : Str → Option Value} {base : Heap}
theorem defV_of {x qual : Str} {st : Stmt} {f : Addr} {fd : FuncData} {N : List Str} {pv : Str} {k : Nat} {dt : DS} (F : Fun K x qual st f fd) (S : FnScope N [pv] (defScope st)) (hm : mg x = some (.ref f))
    (hbd : ∀ rest : List Value, bindArgs fd ⟨rest, []⟩ = (newTuple rest >>= fun t => pure [(pv, t)]))
    (h : ∀ (cdv : Value) (A : Around) (outer : List Env) (s : Shared) (H : Hp) (E : En), Room k (A.deeper (envOfC qual (defScope st) s.heap.objs.size f cdv)) → (A.deeper (envOfC qual (defScope st) s.heap.objs.size f cdv)).guards = some [] →
      DPSs (bodyCx P w K mg base N qual st f cdv A outer s H) E (defBody st) dt) : DefV P w K mg base (k + 1) x (bodySpec N.length dt) := by
  have FV := fnV_star (P := P) (w := w) (mg := mg) (base := base) (sp := spD K 1 (bodySpec N.length dt)) F S hbd (fun cdv A outer s H vs Q hr hgd q => by
    obtain ⟨g, c, args, P', ex, dk, ok, fr, hl, hs, kk⟩ := q
    refine ⟨_, h cdv A outer s H ⟨g, H, false⟩ hr hgd, g, _, c, _, start_rel ex dk ok fr, hs, fun env' c' g' σ' H' p m r => ?_, fun y c' env' g' σ' H' v p m r o f => ?_, fun _ _ _ _ _ p => p.elim, fun _ _ _ _ _ p => p.elim⟩
    · exact kk _ c' g' H' .non p ⟨⟨r.mo, r.md rfl⟩, r.fr, fun a o e => r.old e, r.nf⟩ r.ex r.dk .non trivial
    · exact kk y c' g' H' v p ⟨⟨r.mo, r.md rfl⟩, r.fr, fun a o e => r.old e, r.nf⟩ r.ex r.dk o f)
  refine ⟨f, ⟨fun A outer s H us vs Q room quiet e0 r want => FV.run A outer s H us vs Q room quiet e0 r ?_⟩, hm, F.kp⟩
  obtain ⟨g, c, ds, P', ex, dk, ok, hl, hs, kk⟩ := want
  refine ⟨by rw [DpAll.len ok]; exact hl, fun p hp => ?_⟩
  have r0 : Rel K ⟨g, H, false⟩ g (startE ([] : List Str).length []) c (start [] []) H := start_rel (vs := []) (args := []) ex dk trivial (fun x hx => by cases hx)
  obtain ⟨r1, m1⟩ := r0.new (.tup vs) hp
  refine ⟨_, c, [.dat (.tuple ds)], P', r1.ex, r1.dk, ⟨.tup (.of upd_same) (dpAll_mono m1.f ok), trivial⟩, fun x hx => ?_, rfl, hs, fun y c2 g2 H2 v p2 m2 ex dk ok fr => kk y c2 g2 H2 v p2 (m1.trans m2) ex dk ok fr⟩
  cases List.mem_singleton.mp hx
  trivial
end
end DL
set_option maxHeartbeats 2000000
/-! in, not in -/
namespace DL
open PySem PySem.Spec PyProof.Rows L2
def flatP : PyData → Bool
  | .none => true
  | .bool _ => true
  | .int _ => true
  | .str _ => true
  | _ => false
def eqP : PyData → PyData → Bool
  | .none, .none => true
  | .bool a, .bool b => a == b
  | .bool a, .int b => (if a then 1 else 0) == b
  | .int a, .bool b => a == (if b then 1 else 0)
  | .int a, .int b => a == b
  | .str a, .str b => a == b
  | _, _ => false
def rdIn (neg : Bool) : PyData → PyData → (PyData → Prop) → Prop := fun d e P => match e with
  | .list es => flatP d = true ∧ es.all flatP = true ∧ P (.bool (if neg then !(es.any fun y => eqP y d) else es.any fun y => eqP y d))
  | .tuple es => flatP d = true ∧ es.all flatP = true ∧ P (.bool (if neg then !(es.any fun y => eqP y d) else es.any fun y => eqP y d))
  | _ => False
theorem flat_dp {K : PySem.W.Frag} {H : Hp} {v : V} {d : PyData} (h : Dp K H v d) (hd : flatP d = true) : flatV v = true := by
  cases h <;> first | rfl | (simp [flatP] at hd; done)
theorem eq_dp {K : PySem.W.Frag} {H : Hp} {v u : V} {d e : PyData} (h : Dp K H v d) (h2 : Dp K H u e) (hd : flatP d = true) (he : flatP e = true) : eqV v u = eqP d e := by
  cases h <;> cases h2 <;> first | rfl | (simp [flatP] at hd; done) | (simp [flatP] at he; done)
theorem flats_dp {K : PySem.W.Frag} {H : Hp} : ∀ {vs : List V} {ds : List PyData}, DpAll K H vs ds → ds.all flatP = true → vs.all flatV = true
  | _, _, .nil, _ => rfl
  | _, _, .cons h t, hd => by
    simp only [List.all_cons, Bool.and_eq_true] at hd ⊢
    exact ⟨flat_dp h hd.1, flats_dp t hd.2⟩
theorem in_dp {K : PySem.W.Frag} {H : Hp} {v : V} {d : PyData} (h : Dp K H v d) (hf : flatP d = true) : ∀ {vs : List V} {ds : List PyData}, DpAll K H vs ds → ds.all flatP = true → inV v vs = ds.any fun y => eqP y d
  | _, _, .nil, _ => rfl
  | _, _, .cons (v := x) (vs := vs) a t, hd => by
    simp only [List.all_cons, Bool.and_eq_true] at hd
    have ih := in_dp h hf t hd.2
    show (eqV x v || vs.any fun y => eqV y v) = _
    rw [eq_dp a h hd.1 hf]
    show _ = (_ || _)
    rw [← ih]
    rfl
theorem opd_in {K : PySem.W.Frag} {neg : Bool} : OpD K (rIn K neg) (rdIn neg) := by
  intro E g env c σ H x y d e P Q r hx hy q k
  unfold rdIn at q
  split at q
  · cases hy with
    | lst hs ha =>
      refine ⟨_, _, rfl, .inl (r.ex.seq hs), flat_dp hx q.1, flats_dp ha q.2.1, ?_⟩
      rw [in_dp hx q.1 ha q.2.1]
      exact k _ g H _ q.2.2 (Mv.refl g H) r (.bl _)
  · cases hy with
    | tup hs ha =>
      refine ⟨_, _, rfl, .inr (seqT r.ex hs), flat_dp hx q.1, flats_dp ha q.2.1, ?_⟩
      rw [in_dp hx q.1 ha q.2.1]
      exact k _ g H _ q.2.2 (Mv.refl g H) r (.bl _)
  · exact q.elim
section
variable {X : Cx} {E : En} {a b : Expr} {da db : DE} {pos : Pos}
theorem de_in (ha : DPE X E a da) (hb : DPE X E b db) (hm : behindInMarks .In b = false := by rfl) : DPE X E (.Compare a [.In] [b] pos) (dOp (rdIn false) da db) := de_cmp op_in_seq opd_in ha hb hm
theorem de_notIn (ha : DPE X E a da) (hb : DPE X E b db) (hm : behindInMarks .NotIn b = false := by rfl) : DPE X E (.Compare a [.NotIn] [b] pos) (dOp (rdIn true) da db) := de_cmp op_notIn_seq opd_in ha hb hm
theorem dt_in (ha : DPE X E a da) (hb : DPE X E b db) (hm : behindInMarks .In b = false := by rfl) : DPT X E (.Compare a [.In] [b] pos) (tVal (dOp (rdIn false) da db)) := dt_cmp op_in_seq opd_in ha hb hm
theorem dt_notIn (ha : DPE X E a da) (hb : DPE X E b db) (hm : behindInMarks .NotIn b = false := by rfl) : DPT X E (.Compare a [.NotIn] [b] pos) (tVal (dOp (rdIn true) da db)) := dt_cmp op_notIn_seq opd_in ha hb hm
/-! ### sum of a list of one's own -/
def dOwnSum (i : Nat) : DE := fun env c P => match env[i]? with
  | some (some (.own l)) => ∃ ns, intsOf l = some ns ∧ P (.dat (.int ns.sum)) c
  | _ => False
theorem de_ownSum (i : Nat) {x : Str} {p1 p2 : Pos} (hm : X.mg "sum" = none) (hN : X.N[i]? = some x := by rfl) (hv : Vis X.env.scope x := by first | exact Or.inl rfl | exact Or.inr (Or.inl rfl) | exact Or.inr (Or.inr rfl)) (h1 : (x == ("__debug__" : Str)) = false := by decide)
    (h2 : (x == ("__classdict__" : Str)) = false := by decide) (hg : Gl X "sum" := by rfl) (hc : X.calm = true := by rfl)
    (he : starEach [.Name x p1] X.env = (false, eval (.Name x p1) X.env) :: starEach [] X.env := by rfl) (hpl : (backTo pos (starEach [] X.env)).any (·.1) = false := by rfl) : DPE X E (.Call (.Name "sum" p2) [.Name x p1] [] pos) (dOwnSum i) := by
  refine pe_imp (pe_callB (cr_sum hc) hg hm (by decide +kernel) (pa_cons (pe_var hN hv h1 h2) pa_nil he) (by decide) (by decide) he hpl) fun σ H Q h => ?_
  obtain ⟨g, env, c, P, rel, q, k⟩ := h
  unfold dOwnSum at q
  split at q
  · rename_i l e
    obtain ⟨v, e1, p, xs, rfl, h3, h4, h5, h6⟩ := rel.sl i _ e
    obtain ⟨ns, en, q⟩ := q
    have ex := intsOf_dp en h6
    subst ex
    exact ⟨_, e1, p, ns, rfl, .of h5, k _ c g H _ q (Mv.refl g H) rel (.int _) trivial⟩
  · exact q.elim
end
section
variable {X : Cx} {E : En} {tg a elt : Expr} {pos : Pos}
/-- y = [..], a list of one's own -/
theorem ds_ownLc {ifs : List Expr} {scope : Scope} {spos py : Pos} {y : Str} (i : Nat) (own : List (Str × Nat)) {dw : DI} {ws : List Nat} {dg : DG} {dt : DT} {de : DE} (hN : X.N.Nodup) (hi : DPI X E tg a dw) (ok : BlkOk X.N X.env.scope scope own)
    (hg : ∀ (s : Shared) (H : Hp) (C : Addr) (cl : List (Str × Addr)) (fp : List Addr), DPG (X.blk s H scope (compEnvC scope cl C X.env) fp) E ws tg dg)
    (ht : ∀ (s : Shared) (H : Hp) (C : Addr) (cl : List (Str × Addr)) (fp : List Addr), DPTs (X.blk s H scope (compEnvC scope cl C X.env) fp) E ifs dt)
    (he : ∀ (s : Shared) (H : Hp) (C : Addr) (cl : List (Str × Addr)) (fp : List Addr), DPE (X.blk s H scope (compEnvC scope cl C X.env) fp) E elt de)
    (hsw : swapsWith (.ListComp elt [⟨tg, a, ifs, 0⟩] scope pos) (some (.Name y py)) spos.line X.env = pure true)
    (hws : ∀ i ∈ ws, i ∈ own.map (·.2) := by decide) (hy : X.N[i]? = some y := by rfl) (hyl : X.env.scope.names.lookup y = some .local := by rfl) (hc : X.calm = true := by rfl) (hs : ∀ x, foldedSetIterable a X.env x = pure x := by intro _; rfl) :
    DPS X E (.Assign [.Name y py] (.ListComp elt [⟨tg, a, ifs, 0⟩] scope pos) spos) (sOwn i (fLc dw dg dt de (own.map (·.2)))) := by
  refine ps_imp (ps_setLc (g := upG X.K E ws dg) (tt := upT X.K E dt) (te := up X.K E de) hc hN hy hyl hsw hi ok hg ht he hs) fun D σ H h => ?_
  obtain ⟨g, env, c, P, rel, q, k, _⟩ := h
  refine lcF_up hws ⟨g, env, c, _, rel, q, fun l c1 g1 H1 p xs hl m1 r1 hp hp' hF ha => ?_⟩
  exact k _ c1 g1 _ H1 hl m1.f (r1.takeOwn i (Frs.of rel m1 hp hp' hF ha))
end
end DL
set_option maxHeartbeats 2000000
/-! exceptions: defs that raise, calls of them, try -/
namespace DL
open PySem PySem.Spec PyProof.Rows L2
/-- what is wanted of an exception: its class's name, its fields, the slots, the draws -/
abbrev XW := Str → List (Str × PyData) → Ev → Nat → Prop
abbrev Xd := Str → List (Str × PyData) → Nat → Prop
/-- how an exception stands: of the class named x, with these fields -/
def XOk (K : PySem.W.Frag) (mg : Str → Option Value) (F H : Hp) (nd : Addr → Prop) (x : Str) (fs : List (Str × PyData)) (cls : Value) (d : Option Addr) : Prop :=
  ∃ C, mg x = some (.ref C) ∧ cls = .ref C ∧ ((fs = [] ∧ d = none) ∨ ∃ dd vs, d = some dd ∧ H dd = some (.xd vs) ∧ nd dd ∧ vs.map (·.1) = fs.map (·.1) ∧ DpAll K F (vs.map (·.2)) (fs.map (·.2)))
def upW (K : PySem.W.Frag) (mg : Str → Option Value) (E : En) (W : XW) : WX := fun cls d σ H => ∃ g env c x fs, Rel K E g env c σ H ∧ XOk K mg g.F H (fun a => ¬ isDk g a) x fs cls d ∧ W x fs env c
structure FnX (P : Program) (w : World) (K : PySem.W.Frag) (mg : Str → Option Value) (base : Heap) (k : Nat) (f : Addr) (fd : FuncData) (ps : List Str) (sp : Sp) : Prop where
  len : ∀ vs H Q E, sp vs H Q E → vs.length = ps.length
  run : ∀ (A : Around) (outer : List Env) (s : Shared) (H : Hp) (us : List Value) (vs : List V) (Q : VK) (E : XK), Room k A → A.guards = some [] → Env0 P w K mg base A outer s H → BindsTo s fd ⟨us, []⟩ (ps.zip us) → Vals vs us → sp vs H Q E →
    codeAny (model P w) A (.call (.ref f) ⟨us, []⟩) (CR (L2.CX P w) outer P w H s Q E) s
section
variable {P : Program} {w : World} {K : PySem.W.Frag} {mg : Str → Option Value} {base : Heap}
theorem fnX_of {x qual : Str} {st : Stmt} {f : Addr} {fd : FuncData} {N ps : List Str} {k : Nat} {sp : Sp} (F : Fun K x qual st f fd) (S : FnScope N ps (defScope st)) (len : ∀ vs H Q E, sp vs H Q E → vs.length = ps.length)
    (hb : ∀ (cdv : Value) (A : Around) (outer : List Env) (s : Shared) (H : Hp) (vs : List V) (Q : VK) (E : XK), Room k (A.deeper (envOfC qual (defScope st) s.heap.objs.size f cdv)) → A.guards = some [] → sp vs H Q E →
      ∃ t, PSs (cxOf (L2.CX P w) P w K mg base N qual (defScope st) f cdv A outer s H E) (defBody st) t ∧ t { nx := fun _ H' => Q .non H', rt := Q } (start N vs) H) : FnX P w K mg base (k + 1) f fd ps sp := by
  obtain ⟨oc, od, kV, doc, pm, an, cdv, ct, osl, rfl, lk, hcd⟩ := F.ex
  refine ⟨len, fun A outer s H us vs Q E room quiet env0 bind vals want => ?_⟩
  have inK := env0.mod.kin.keeps fun b o e => (env0.bs b o e).1
  have nolim := env0.mod.nolimit.keeps fun b o e => (env0.bs b o e).1
  refine codeAny_call_function room.depth (inK _ _ lk) rfl S.co S.gen rfl (PySem.W.codeRec_of inK hcd) (bind _ _ _ _ ?_)
  refine wpAny_newFunctionEnv_cells S.kind (fun y hy => ?_) fun env he s1 ic => ?_
  · rcases S.par y.1 (List.of_mem_zip (a := y.1) (b := y.2) hy).1 with q | q
    · exact Or.inl q
    · exact Or.inr ⟨q, PySem.W.cellsFrom_some _ _ _ (Or.inl q)⟩
  · subst he
    refine ⟨nolim.keeps ic.toInCall.keep, codeAny_func ?_⟩
    obtain ⟨t, derivation, reading⟩ := hb cdv A outer s H vs Q E (room.deeper _) quiet want
    have J0 := inv_start (CX := L2.CX P w) (E := E) (P := P) (w := w) (mg := mg) S room.hd env0 (len _ _ _ _ want) vals ic
    refine wpAny_mono (derivation.run [] s1 (start N vs) H _ J0 reading) (fun fl s' done => ?_) (fun e s' bad => bad)
    cases fl with
    | next =>
      obtain ⟨σ', H', J, q⟩ := done
      exact ⟨V.non, H', J.os, J.bare, J.base, J.hok, rfl, q⟩
    | ret u =>
      obtain ⟨v, σ', H', J, rv, q⟩ := done
      exact ⟨v, H', J.os, J.bare, J.base, J.hok, rv, q⟩
    | brk =>
      obtain ⟨σ', H', J, q⟩ := done
      exact False.elim q
    | cont =>
      obtain ⟨σ', H', J, q⟩ := done
      exact False.elim q
end
section
variable {X : Cx} {k : Nat} {f : Addr} {fd : FuncData} {ps : List Str} {sp : Sp} {x : Str} {p pos : Pos} {e : Expr} {es : List Expr} {t : TA} {W : WX}
theorem pe_callX (F : FnX X.prog X.w X.K X.mg X.base k f fd ps sp) (hr : Room k X.A) (hgd : X.A.guards = some []) (tk : Takes X W) (hg : Gl X x) (hm : X.mg x = some (.ref f)) (hk : PySem.W.keepIn X.K (.ref f) = true) (hb : Binds X.K fd ps []) (ha : PA X (e :: es) t)
    (hdb : (x == ("__debug__" : Str)) = false := by decide) (he : starEach (e :: es) X.env = (false, eval e X.env) :: starEach es X.env := by rfl) (hpl : (backTo pos (starEach es X.env)).any (·.1) = false := by rfl) :
    PE X (.Call (.Name x p) (e :: es) [] pos) (fun σ H Q => t σ H fun vs H1 => sp vs H1 Q (fun cls d H2 => W cls d σ H2)) := by
  constructor
  intro pins s σ H Q I h
  refine wpAny_Call_Name_kw (ld_glob I hg hm (PySem.W.callWith_K (h₀ := X.base) I.ok.mod.kin hk ?_ he hpl) hdb)
  refine thn (ha.run pos pins s σ H _ I h) fun us s1 hq => ?_
  obtain ⟨vs, H1, I1, r, q⟩ := hq
  have hl : us.length = ps.length := by
    rw [← r.length]
    exact F.len _ _ _ _ q
  have hbd := hb s1 us I1.kIn (by rw [List.append_nil]; exact hl)
  rw [List.append_nil] at hbd
  refine ⟨I1.kIn, wpAny_call (codeAny_mono (F.run X.A X.stack s1 H1 us vs Q _ hr hgd I1.env0 hbd r q) fun rr s' hrr => ?_)⟩
  match rr, hrr with
  | .error e', z => exact L2.passAt tk σ pins H1 s1 e' s' I1 z
  | .ok .next, z => exact z.elim
  | .ok .brk, z => exact z.elim
  | .ok .cont, z => exact z.elim
  | .ok (.ret u), z => exact I1.after z
end
abbrev SpecX := List Vl → Nat → (Vl → Nat → Prop) → Xd → Prop
def spDX (K : PySem.W.Frag) (mg : Str → Option Value) (n : Nat) (spec : SpecX) : Sp := fun vs H Q E => ∃ g c args P Px, Same g.F H ∧ DeckOk g H c ∧ VOks K g H vs args ∧ (∀ x ∈ args, free x) ∧ args.length = n ∧ spec args c P Px ∧
  (∀ x c' g' H' v, P x c' → Mv g H g' H' → Same g'.F H' → DeckOk g' H' c' → VOk K g' H' v x → free x → Q v H') ∧
  ∀ x fs c' g' H' cls d, Px x fs c' → Mv g H g' H' → Same g'.F H' → DeckOk g' H' c' → XOk K mg g'.F H' (fun a => ¬ isDk g' a) x fs cls d → E cls d H'
structure DefX (P : Program) (w : World) (K : PySem.W.Frag) (mg : Str → Option Value) (base : Heap) (k : Nat) (x : Str) (n : Nat) (spec : SpecX) : Prop where
  ex : ∃ f fd ps, FnX P w K mg base k f fd ps (spDX K mg n spec) ∧ mg x = some (.ref f) ∧ PySem.W.keepIn K (.ref f) = true ∧ Binds K fd ps []
section
variable {X : Cx} {E : En} {k n : Nat} {spec : SpecX} {x : Str} {p pos : Pos} {e : Expr} {es : List Expr} {dr : DA} {W : XW}
def dCallX (n : Nat) (spec : SpecX) (W : XW) (dr : DA) : DE := fun env c P => dr env c fun xs c1 => xs.length = n ∧ spec xs c1 P fun y fs c2 => W y fs env c2
theorem de_callX (F : DefX X.prog X.w X.K X.mg X.base k x n spec) (hr : Room k X.A) (hgd : X.A.guards = some []) (tk : Takes X (upW X.K X.mg E W)) (ha : DPA X E (e :: es) dr) (hg : Gl X x := by rfl)
    (hdb : (x == ("__debug__" : Str)) = false := by decide) (he : starEach (e :: es) X.env = (false, eval e X.env) :: starEach es X.env := by rfl) (hpl : (backTo pos (starEach es X.env)).any (·.1) = false := by rfl) :
    DPE X E (.Call (.Name x p) (e :: es) [] pos) (dCallX n spec W dr) := by
  obtain ⟨f, fd, ps, F, hm, hk, hb⟩ := F.ex
  refine pe_imp (pe_callX F hr hgd tk hg hm hk hb ha hdb he hpl) fun σ H Q h => ?_
  obtain ⟨g, env, c, P, rel, q, kk⟩ := h
  refine ⟨g, env, c, _, rel, q, fun xs c1 g1 H1 vs p1 m1 r1 o1 f1 => ?_⟩
  exact ⟨g1, c1, xs, P, _, r1.ex, r1.dk, o1, f1, p1.1, p1.2, fun y c2 g2 H2 v p2 m2 ex dk ok fr => kk y c2 g2 H2 v p2 (m1.trans m2) (r1.call m2 ex dk) ok fr,
    fun y fs c2 g2 H2 cls d p2 m2 ex dk xok => ⟨g2, env, c2, y, fs, r1.call m2 ex dk, xok, p2⟩⟩
end
def bodySpecX (N : Nat) (dt : Xd → DS) : SpecX := fun args c P Px => dt Px { nx := fun _ c' => P (.dat .none) c', rt := P, bk := fun _ _ => False, ct := fun _ _ => False } (startE N args) c
section
variable {P : Program} {w : World} {K : PySem.W.Frag} {mg : Str → Option Value} {base : Heap}
abbrev bodyCxX (P : Program) (w : World) (K : PySem.W.Frag) (mg : Str → Option Value) (base : Heap) (N : List Str) (qual : Str) (st : Stmt) (f : Addr) (cdv : Value) (A : Around) (outer : List Env) (s : Shared) (H : Hp) (E : XK) : Cx :=
  cxOf (L2.CX P w) P w K mg base N qual (defScope st) f cdv A outer s H E
theorem defX_of {x qual : Str} {st : Stmt} {f : Addr} {fd : FuncData} {N ps : List Str} {k n : Nat} {dt : Xd → DS} (F : Fun K x qual st f fd) (S : FnScope N ps (defScope st)) (hm : mg x = some (.ref f)) (hb : Binds K fd ps []) (hn : ps.length = n)
    (h : ∀ (cdv : Value) (A : Around) (outer : List Env) (s : Shared) (H : Hp) (EX : XK) (E : En) (Px : Xd), Room k (A.deeper (envOfC qual (defScope st) s.heap.objs.size f cdv)) → (A.deeper (envOfC qual (defScope st) s.heap.objs.size f cdv)).guards = some [] →
      Takes (bodyCxX P w K mg base N qual st f cdv A outer s H EX) (upW K mg E fun y fs _ c => Px y fs c) → DPSs (bodyCxX P w K mg base N qual st f cdv A outer s H EX) E (defBody st) (dt Px)) : DefX P w K mg base (k + 1) x n (bodySpecX N.length dt) := by
  refine ⟨f, fd, ps, fnX_of F S (fun vs H Q E q => ?_) (fun cdv A outer s H vs Q EX hr hgd q => ?_), hm, F.kp, hb⟩
  · obtain ⟨g, c, args, P, Px, _, _, ok, _, hl, _⟩ := q
    rw [VOks.len ok, hl, hn]
  · obtain ⟨g, c, args, P', Px, ex, dk, ok, fr, hl, hs, kk, kx⟩ := q
    have tk : Takes (bodyCxX P w K mg base N qual st f cdv A outer s H EX) (fun cls d _ H => EX cls d H) := takes_of rfl rfl rfl rfl
    refine ⟨_, h cdv A outer s H EX ⟨g, H, false⟩ Px hr hgd (tk.imp fun cls d σ H2 z => ?_), g, _, c, _, start_rel ex dk ok fr, hs, fun env' c' g' σ' H' p m r => ?_, fun y c' env' g' σ' H' v p m r o f => ?_, fun _ _ _ _ _ p => p.elim, fun _ _ _ _ _ p => p.elim⟩
    · obtain ⟨g2, env2, c2, y, fs, r, xok, px⟩ := z
      exact kx y fs c2 g2 H2 cls d px ⟨⟨r.mo, r.md rfl⟩, r.fr, fun a o e => r.old e, r.nf⟩ r.ex r.dk xok
    · exact kk _ c' g' H' .non p ⟨⟨r.mo, r.md rfl⟩, r.fr, fun a o e => r.old e, r.nf⟩ r.ex r.dk .non trivial
    · exact kk y c' g' H' v p ⟨⟨r.mo, r.md rfl⟩, r.fr, fun a o e => r.old e, r.nf⟩ r.ex r.dk o f
end
end DL
set_option maxHeartbeats 2000000
namespace DL
open PySem PySem.Spec PyProof.Rows L2
/-! ### an object more, which no data knows -/
theorem Rel.extra {K : PySem.W.Frag} {E : En} {g : Gh} {env : Ev} {c : Nat} {σ : L2.St} {H : Hp} (r : Rel K E g env c σ H) {p : Addr} (o : HO) (hp : H p = none) : Rel K E g env c σ (upd H p o) ∧ Mv g H g (upd H p o) := by
  have keep : ∀ b u, H b = some u → upd H p o b = some u := fun b u e => by
    rw [upd_ne (ne_of_none e hp)]
    exact e
  refine ⟨⟨r.mo, r.md, r.mt, r.dn, r.nf, fun b u e n => keep b u (r.fr b u e n), r.nw, fun b u e => keep b u (r.ex b u e), fun i x e => ?_, r.ap, fun p q e => ?_, r.len⟩, ⟨Mo.refl _, fun b u e _ => keep b u e, fun b u e => ⟨u, keep b u e⟩, fun b u e => .inl e⟩⟩
  · obtain ⟨v, h1, h2⟩ := r.sl i x e
    refine ⟨v, h1, ?_⟩
    cases x with
    | dat d => exact h2
    | deck => exact h2
    | exc _ => exact h2
    | own l =>
      obtain ⟨b, xs, e1, h3, h4, h5, h6⟩ := h2
      exact ⟨b, xs, e1, h3, h4, keep b _ h5, h6⟩
  · obtain ⟨h1, h2, h3, ns, h4, h5, h6, yk, h7, h8⟩ := r.dk p q e
    exact ⟨h1, h2, h3, ns, h4, h5, keep q _ h6, yk, keep p _ h7, h8⟩
/-! ### __init__(self, v): self.f = v -/
def spInit (K : PySem.W.Frag) (f : Str) : Sp := fun vs H Q _ => ∃ (a C : Addr) (y : V), vs = [.ref a, y] ∧ OexC K C ∧ PySem.W.findIn K (.ref C) f = some none ∧ H a = some (exo a C none) ∧
  ∀ dx, H dx = none → dx ≠ a → Q .non (upd (upd H dx (exd dx [(f, y)])) a (exo a C (some dx)))
section
variable {P : Program} {w : World} {K : PySem.W.Frag} {mg : Str → Option Value} {base : Heap}
theorem init_ok {qual : Str} {st : Stmt} {f : Addr} {fd : FuncData} {s1 s2 fld : Str} {p1 p2 p3 p4 : Pos} {k : Nat} (F : Fun K "__init__" qual st f fd) (S : FnScope [s1, s2] [s1, s2] (defScope st))
    (hb : defBody st = [.Assign [.Attribute (.Name s1 p1) fld p2] (.Name s2 p3) p4])
    (h1 : (s1 == ("__debug__" : Str)) = false) (h2 : (s1 == ("__classdict__" : Str)) = false) (h3 : (s2 == ("__debug__" : Str)) = false) (h4 : (s2 == ("__classdict__" : Str)) = false)
    (v1 : Vis (defScope st) s1) (v2 : Vis (defScope st) s2) : FnOk P w K mg base CX0 (k + 1) f fd [s1, s2] (spInit K fld) := by
  refine F.ok S (fun vs H Q E q => ?_) (fun cdv A outer s H vs Q E hr q => ?_)
  · obtain ⟨a, C, y, rfl, _⟩ := q
    rfl
  · rw [hb]
    refine ⟨_, pss_cons (ps_ost (pe_var (i := 0) rfl v1 h1 h2) (pe_var (i := 1) rfl v2 h3 h4)) pss_nil, ?_⟩
    obtain ⟨a, C, y, rfl, T, hno, ha, kk⟩ := q
    exact ⟨y, rfl, .ref a, rfl, a, C, rfl, T, hno, .inl ⟨ha, fun dx hd hne => kk dx hd hne⟩⟩
end
/-- an own class of errors with one field -/
structure ExC (P : Program) (w : World) (K : PySem.W.Frag) (mg : Str → Option Value) (base : Heap) (x f : Str) : Prop where
  ex : ∃ C fI fd s1 s2, mg x = some (.ref C) ∧ OexC K C ∧ PySem.W.findIn K (.ref C) "__init__" = some (some (.ref fI)) ∧ PySem.W.typeIn K (.ref fI) = some (.type "function") ∧ FnOk P w K mg base CX0 1 fI fd [s1, s2] (spInit K f) ∧ Binds K fd [s1, s2] [] ∧ PySem.W.findIn K (.ref C) f = some none
def sRaise (x f : Str) (W : XW) (da : DE) : DS := fun _ env c => da env c fun v c1 => datK v fun z => W x [(f, z)] env c1
section
variable {X : Cx} {E : En} {x f : Str} {p pos pos' : Pos} {e : Expr} {da : DE} {W : XW} {k : Nat}
theorem ds_raise (C : ExC X.prog X.w X.K X.mg X.base x f) (hr : Room 2 X.A) (tk : Takes X (upW X.K X.mg E W)) (ha : DPE X E e da) (hc : X.calm = true := by rfl) (hg : Gl X x := by rfl)
    (hdb : (x == ("__debug__" : Str)) = false := by decide) (he : starEach [e] X.env = (false, eval e X.env) :: starEach [] X.env := by rfl) (hpl : (backTo pos (starEach [] X.env)).any (·.1) = false := by rfl) :
    DPS X E (.Raise (some (.Call (.Name x p) [e] [] pos)) none pos') (sRaise x f W da) := by
  obtain ⟨C, fI, fd, s1, s2, hm, T, iC, tI, F, hb, hno⟩ := C.ex
  refine ps_imp (ps_raise hc tk (pmk_oex (CX := CX0) (ds := []) (dvs := []) T iC tI F hr hb .nil pass0 hg hm (da_cons ha da_nil he) hdb he hpl)) fun D σ H h => ?_
  obtain ⟨g, env, c, P, rel, q, _⟩ := h
  refine ⟨g, env, c, (fun xs c1 => match xs with | [v] => datK v fun z => W x [(f, z)] env c1 | _ => False), rel, q, fun xs c1 g1 H1 vs p1 m1 r1 o1 f1 => ?_⟩
  · obtain ⟨z, rfl, hw⟩ : ∃ z, xs = [.dat z] ∧ W x [(f, z)] env c1 := by
      match xs, p1 with
      | [.dat z], p1 => exact ⟨z, rfl, p1⟩
      | [.deck], p1 => exact p1.elim
      | [.exc _], p1 => exact p1.elim
      | [.own _], p1 => exact p1.elim
    match vs, o1 with
    | [y], o1 =>
      refine ⟨by show 1 ≤ 1000; decide, fun a ha0 => ?_⟩
      refine ⟨a, C, y, rfl, T, hno, upd_same, fun dx hdx hne => ⟨rfl, dx, [(f, y)], upd_same, ?_, ?_, ?_⟩⟩
      · rw [upd_ne hne, upd_same]
      · rw [upd_ne hne] at hdx
        exact hdx
      · have hd1 : H1 dx = none := by
          rw [upd_ne hne] at hdx
          exact hdx
        have eH : upd (del (upd (upd (upd H1 a (exo a C none)) dx (exd dx [(f, y)])) a (exo a C (some dx))) a) dx (.xd [(f, y)]) = upd H1 dx (.xd [(f, y)]) := by
          funext b
          by_cases hbd : b = dx
          · rw [hbd, upd_same, upd_same]
          · rw [upd_ne hbd, upd_ne hbd]
            by_cases hba : b = a
            · rw [hba, del_same, ha0]
            · rw [del_ne hba, upd_ne hba, upd_ne hbd, upd_ne hba]
        rw [eH]
        obtain ⟨r2, m2⟩ := r1.extra (.xd [(f, y)]) hd1
        refine ⟨g1, env, c1, x, [(f, z)], r2, ⟨C, hm, rfl, .inr ⟨dx, [(f, y)], rfl, upd_same, fun hdk => ?_, rfl, .cons o1.1 .nil⟩⟩, hw⟩
        obtain ⟨o', e⟩ := r1.deckLive hdk
        rw [hd1] at e
        cases e
end
/-! ### try: .. except x as n: .. -/
def NoOwn (env : Ev) : Prop := ∀ (i : Nat) (l : List PyData), env[i]? ≠ some (some (Vl.own l))
theorem Rel.setExc {K : PySem.W.Frag} {E : En} {g : Gh} {env : Ev} {c : Nat} {σ : L2.St} {H : Hp} (r : Rel K E g env c σ H) (i : Nat) (a : Addr) : Rel K E g (env.set i (some (.exc a))) c (σ.set i (some (.ref a))) H := r.set i (x := .exc a) rfl trivial
/-- the slot goes -/
theorem Rel.setNone {K : PySem.W.Frag} {E : En} {g : Gh} {env : Ev} {c : Nat} {σ : L2.St} {H : Hp} (r : Rel K E g env c σ H) (i : Nat) : Rel K E g (env.set i none) c (σ.set i none) H := by
  have key : ∀ {j : Nat} {x : Vl}, (env.set i none)[j]? = some (some x) → j ≠ i ∧ env[j]? = some (some x) := fun {j x} e => by
    by_cases h : j = i
    · subst h
      by_cases hl : j < env.length
      · rw [List.getElem?_set_self hl] at e
        cases e
      · rw [List.getElem?_eq_none (by simpa using hl)] at e
        cases e
    · rw [List.getElem?_set_ne (Ne.symm h)] at e
      exact ⟨h, e⟩
  have sg : ∀ {j : Nat}, j ≠ i → (σ.set i none)[j]? = σ[j]? := fun {j} h => List.getElem?_set_ne (Ne.symm h)
  refine ⟨r.mo, r.md, r.mt, r.dn, r.nf, r.fr, fun j l e a es => ?_, r.ex, fun j x e => ?_, fun j1 j2 l1 l2 a hne e1 e2 es => ?_, r.dk, by simpa using r.len⟩
  · obtain ⟨h, e'⟩ := key e
    rw [sg h] at es
    exact r.nw j l e' a es
  · obtain ⟨h, e'⟩ := key e
    obtain ⟨v, h1, h2⟩ := r.sl j x e'
    exact ⟨v, by rw [sg h]; exact h1, h2⟩
  · obtain ⟨h, e1'⟩ := key e1
    obtain ⟨h', e2'⟩ := key e2
    rw [sg h] at es
    rw [sg h']
    exact r.ap j1 j2 l1 l2 a hne e1' e2' es
/-- the same frame, seen from here -/
theorem Rel.here {K : PySem.W.Frag} {E : En} {g : Gh} {env : Ev} {c : Nat} {σ : L2.St} {H : Hp} (r : Rel K E g env c σ H) (h : NoOwn env) : Rel K ⟨g, H, false⟩ g env c σ H :=
  ⟨Same.refl _, fun _ => rfl, (fun z => by cases z), fun a h => Or.inl h, fun a o h => Or.inl h, fun a o e _ => e, fun i l e => absurd e (h i l), r.ex, r.sl, r.ap, r.dk, r.len⟩
theorem Rel.behind {K : PySem.W.Frag} {E : En} {g g2 : Gh} {env env2 : Ev} {c c2 : Nat} {σ σ2 : L2.St} {H H2 : Hp} (r : Rel K E g env c σ H) (r2 : Rel K ⟨g, H, false⟩ g2 env2 c2 σ2 H2) (ht : E.top = false) : Rel K E g2 env2 c2 σ2 H2 := by
  have d2 : g2.dk = g.dk := r2.md rfl
  have key : ∀ a o, E.H a = some o → ¬ isDk E.g a → ¬ isDk g a := fun a o e n z => by
    rcases r.dn a z with w | w
    · exact n w
    · rw [e] at w
      cases w
  refine ⟨r.mo.trans r2.mo, fun h => d2.trans (r.md h), r.mt, fun a h => r.dn a ?_, fun a o e => ?_, fun a o e n => r2.fr a o (r.fr a o e n) (key a o e n), fun i l e a es => r.oldN (r2.nw i l e a es), r2.ex, r2.sl, r2.ap, r2.dk, r2.len⟩
  · obtain ⟨p, q, e, z⟩ := h
    exact ⟨p, q, d2 ▸ e, z⟩
  · rcases r2.nf a o e with h | h
    · exact r.nf a o h
    · exact Or.inr (r.oldN h)
def exEnds (i : Nat) (D : DEnds) : DEnds := { nx := fun env c => D.nx (env.set i none) c, rt := D.rt, bk := fun env c => D.bk (env.set i none) c, ct := fun env c => D.ct (env.set i none) c }
/-- i: the slot of the name; xs: the classes that may come -/
def sTry (i : Nat) (xs : List Str) (tb : XW → DS) (ts : Addr → Str → List (Str × PyData) → DS) : DS := fun D env c =>
  NoOwn env ∧ tb (fun x fs env' c' => x ∈ xs ∧ NoOwn env' ∧ ∀ a, ts a x fs (exEnds i D) (env'.set i (some (.exc a))) c') D env c
section
variable {X : Cx} {E : En} {i : Nat} {xs : List Str} {tb : XW → DS} {ts : Addr → Str → List (Str × PyData) → DS} {bx n : Str} {C0 : Addr} {body suite : List Stmt} {b₀ : Stmt} {np pos pos' : Pos}
theorem ds_try (hN : X.N.Nodup) (hcm : X.mg bx = some (.ref C0)) (hx : ∀ x ∈ xs, ∀ C, X.mg x = some (.ref C) → PySem.W.exmOne X.K (.ref C) (.ref C0) = some true) (ht : E.top = false)
    (hb : ∀ (E : En) (W : XW) (pn : List (Addr × Obj)) (xe : Value → Shared → Prop), Takes (X.tr pn xe) (upW X.K X.mg E W) → DPSs (X.tr pn xe) E body (tb W))
    (hsu : ∀ (a : Addr) (oe : Obj) (d : Option Addr) (pn : List (Addr × Obj)) (x : Str) (fs : List (Str × PyData)) (E' : En) (C : Addr), x ∈ xs → X.mg x = some (.ref C) → Zc (.ref C) d oe → (∃ vs, oe.data = .fields vs) → XOk X.K X.mg E'.g.F E'.H (fun a => ¬ isDk E'.g a) x fs (.ref C) d →
      DPSs (X.suite a ((a, oe) :: pn)) E' (b₀ :: suite) (ts a x fs))
    (hi : X.N[i]? = some n := by rfl) (hln : X.env.kindOf n = some .local := by rfl) (hg : Gl X bx := by rfl) (hdb : (bx == ("__debug__" : Str)) = false := by decide) (hs : X.stack = X.env :: X.outer := by rfl) (hf : X.env.frame = some X.env.locals := by rfl) :
    DPS X E (.Try body [.ExceptHandler (some (.Name bx np)) (some n) (b₀ :: suite) pos'] [] [] pos) (sTry i xs tb ts) := by
  refine ps_imp (ps_try_as (c := .ref C0) (i := i) (Wout := fun _ _ _ _ => False) (tb := fun W D σ H => ∃ E1 W', (∀ cls d σ H, upW X.K X.mg E1 W' cls d σ H → W cls d σ H) ∧ upS X.K E1 (tb W') D σ H)
    (ts := fun a cls d D σ H => ∃ x fs E' C, x ∈ xs ∧ X.mg x = some (.ref C) ∧ cls = .ref C ∧ XOk X.K X.mg E'.g.F E'.H (fun a => ¬ isDk E'.g a) x fs (.ref C) d ∧ upS X.K E' (ts a x fs) D σ H)
    hs hf hN hi hln ⟨hg, hdb, .inl hcm⟩ takes0 (fun W pn xe tk _ => ⟨fun pins s σ H D I h => ?_⟩) (fun a oe cls d pn hz hfl => ⟨fun pins s σ H D I h => ?_⟩)) fun D σ H h => ?_
  · obtain ⟨E1, W', hW, hu⟩ := h
    exact (hb E1 W' pn xe (tk.imp hW)).run pins s σ H D I hu
  · obtain ⟨x, fs, E', C, hxs, hm, ec, xok, hu⟩ := h
    subst ec
    exact (hsu a oe d pn x fs E' C hxs hm hz hfl xok).run pins s σ H D I hu
  · obtain ⟨g, env, c, P, rel, ⟨hno0, q⟩, k1, k2, k3, k4⟩ := h
    refine ⟨⟨g, H, false⟩, _, fun cls d σ2 H2 z => ?_, g, env, c, P, rel.here hno0, q, fun env3 c3 g3 σ3 H3 p m r => k1 _ c3 g3 _ H3 p m (rel.behind r ht), fun y c3 env3 g3 σ3 H3 v p m r o f => k2 y c3 env3 g3 σ3 H3 v p m (rel.behind r ht) o f, fun env3 c3 g3 σ3 H3 p m r => k3 _ c3 g3 _ H3 p m (rel.behind r ht), fun env3 c3 g3 σ3 H3 p m r => k4 _ c3 g3 _ H3 p m (rel.behind r ht)⟩
    obtain ⟨g2, env2, c2, x, fs, r2, xok, hxs, hno, hts⟩ := z
    obtain ⟨C, hm, ec, xf⟩ := id xok
    subst ec
    refine ⟨true, hx x hxs C hm, fun _ a ha => ?_, fun z => (nomatch z)⟩
    have back : ∀ {g3 : Gh} {env3 : Ev} {c3 : Nat} {σ3 : L2.St} {H3 : Hp}, Rel X.K ⟨g2, H2, false⟩ g3 env3 c3 σ3 H3 → Rel X.K E g3 env3 c3 σ3 H3 ∧ Same g.F g3.F := fun r => ⟨rel.behind (r2.behind r rfl) ht, r2.mo.trans r.mo⟩
    refine ⟨x, fs, ⟨g2, H2, false⟩, C, hxs, hm, rfl, xok, g2, _, c2, exEnds i P, (r2.here hno).setExc i a, hts a, ?_, ?_, ?_, ?_⟩
    · intro env3 c3 g3 σ3 H3 p m r
      exact k1 _ c3 g3 _ H3 p (back r).2 ((back r).1.setNone i)
    · intro y c3 env3 g3 σ3 H3 v p m r o f
      exact k2 y c3 env3 g3 σ3 H3 v p (back r).2 (back r).1 o f
    · intro env3 c3 g3 σ3 H3 p m r
      exact k3 _ c3 g3 _ H3 p (back r).2 ((back r).1.setNone i)
    · intro env3 c3 g3 σ3 H3 p m r
      exact k4 _ c3 g3 _ H3 p (back r).2 ((back r).1.setNone i)
end
end DL
set_option maxHeartbeats 2000000
namespace DL
open PySem PySem.Spec PyProof.Rows L2
/-! ### in an except suite: isinstance(e, ..), e.f -/
/-- what the written part says of a class of errors -/
structure XIs (K : PySem.W.Frag) (C : Addr) : Prop where
  hd : PySem.W.hasDictIn K C = true
  hga : PySem.W.findIn K (.ref C) "__getattribute__" = some (some (.builtin "BaseException.__getattribute__"))
  hgt : PySem.W.findIn K (.ref C) "__getattr__" = some none
  hsub : PySem.W.subIn K (.ref C) (.type "BaseException") = some true
  ha : PySem.W.findIn K (.ref C) "__class__" = some (some (.builtin "object.__class__"))
  hn : PySem.W.specialIn K (.builtin "object.__class__") "__get__" = some (some (.builtin "getset_descriptor.__get__"))
  htk : PySem.W.takesIn K (.builtin "object.__class__") = some true
  hm : PySem.W.mroIn K C (.type "object") = some true
theorem XIs.cls {K : PySem.W.Frag} {C : Addr} (h : XIs K C) : (PySem.W.clsIn K C).isSome = true := by
  obtain ⟨cd, hc, _⟩ := PySem.W.any_some h.hd
  rw [hc]
  rfl
theorem XIs.xf {K : PySem.W.Frag} {C : Addr} (h : XIs K C) : XfC K C := ⟨h.hga, h.hgt, h.hsub, h.hd⟩
/-- isinstance of an own class, from what the written part says -/
theorem kit_own {K : PySem.W.Frag} {C D : Addr} {b : Bool} (hd : PySem.W.hasDictIn K D = true) (ht : PySem.W.typeIn K (.ref D) = some (.type "type")) (hs : PySem.W.subIn K (.ref C) (.ref D) = some b) (hb : (Value.ref C == Value.ref D) = true → b = true) : PySem.W.kitOne K (.ref C) (.ref D) = some b := by
  obtain ⟨cd, hc, _⟩ := PySem.W.any_some hd
  unfold PySem.W.kitOne
  by_cases h : (Value.ref C == Value.ref D) = true
  · rw [if_pos h, hb h]
  · rw [if_neg h]
    show (if ((PySem.W.clsIn K D).isSome && PySem.W.typeIn K (.ref D) == some (.type "type")) = true then PySem.W.subIn K (.ref C) (.ref D) else none) = some b
    rw [if_pos (by rw [hc, ht]; rfl)]
    exact hs
theorem exm_own {K : PySem.W.Frag} {C D : Addr} {b : Bool} (hd : PySem.W.hasDictIn K D = true) (ht : PySem.W.typeIn K (.ref D) = some (.type "type")) (hx : PySem.W.subIn K (.ref D) (.type "BaseException") = some true) (hs : PySem.W.subIn K (.ref C) (.ref D) = some b) : PySem.W.exmOne K (.ref C) (.ref D) = some b := by
  obtain ⟨cd, hc, _⟩ := PySem.W.any_some hd
  unfold PySem.W.exmOne
  rw [if_pos (by rw [hx]; rfl)]
  show (if ((PySem.W.clsIn K D).isSome && PySem.W.typeIn K (.ref D) == some (.type "type")) = true then PySem.W.subIn K (.ref C) (.ref D) else none) = some b
  rw [if_pos (by rw [hc, ht]; rfl)]
  exact hs
section
variable {X : Cx} {a C : Addr} {oe : Obj} {d : Option Addr} {pn : List (Addr × Obj)} {cv : Value} {b : Bool}
theorem inst_suite {pins : List (Addr × Obj)} {σ : L2.St} {H : Hp} {s : Shared} (I : Inv (X.suite a ((a, oe) :: pn)) pins σ H s) (hz : Zc (.ref C) d oe) (hf : ∃ vs, oe.data = .fields vs) (hd : ∀ dd, d = some dd → ∃ vs, H dd = some (.xd vs)) : ∃ od, PySem.W.InstAt s.heap a oe C od := by
  obtain ⟨hget, _⟩ := I.pin (a, oe) (List.mem_append.mpr (.inl List.mem_cons_self))
  obtain ⟨vs, hv⟩ := hf
  cases d with
  | none =>
    refine ⟨none, ?_⟩
    obtain ⟨oc, od, oda, osl⟩ := oe
    obtain ⟨h1, h2⟩ := hz
    dsimp only at h1 h2 hv
    subst h1 h2 hv
    exact ⟨hget, rfl, rfl, trivial⟩
  | some dd =>
    obtain ⟨fs, ea⟩ := hd dd rfl
    have hx : ObjOk X.prog X.w H s.heap dd (.xd fs) := I.hok dd _ ea
    obtain ⟨mA, hns, hr⟩ := hx
    obtain ⟨od, ho, hl⟩ := lookIn_ns hns
    exact ⟨some od, ⟨hget, hz.1, by unfold PySem.W.notCls; rw [hv] <;> rfl, by rw [hz.2]; exact ho⟩⟩
def rIsX (K : PySem.W.Frag) (C a : Addr) (d : Option Addr) : List V → Hp → VK → Prop := fun xs H Q => ∃ (D : Addr) (b : Bool), xs = [.ref a, .ref D] ∧ (∀ dd, d = some dd → ∃ vs, H dd = some (.xd vs)) ∧ PySem.W.kitOne K (.ref C) (.ref D) = some b ∧ Q (.bl b) H
theorem call_isX (T : XIs X.K C) (hz : Zc (.ref C) d oe) (hf : ∃ vs, oe.data = .fields vs) : CallR (X.suite a ((a, oe) :: pn)) (.builtin "isinstance") (rIsX X.K C a d) := by
  intro pins s σ H xs us Q I r h
  obtain ⟨D, b, rfl, hd, e, q⟩ := h
  cases r with
  | cons rx rr =>
    cases rr with
    | cons rt rr =>
      cases rr
      cases rx
      cases rt
      obtain ⟨od, J⟩ := inst_suite I hz hf hd
      exact PySem.W.kia_one (PySem.W.kitx_exc T.cls T.hga T.hgt T.hsub T.ha T.hn T.htk T.hm) I.kIn J e (fun z => nomatch z) fun tk => ⟨.bl b, H, I.kept (t' := tk) fun _ _ z => z, rfl, q⟩
/-- .. of a tuple of classes -/
def rIsXT (K : PySem.W.Frag) (C a : Addr) (d : Option Addr) (cs : List V) (us : List Value) : List V → Hp → VK → Prop := fun xs H Q => ∃ (tp : Addr) (b : Bool), xs = [.ref a, .ref tp] ∧ H tp = some (.tup cs) ∧ (∀ ws, Vals cs ws → ws = us) ∧ (∀ dd, d = some dd → ∃ vs, H dd = some (.xd vs)) ∧ PySem.W.kitAny K (.ref C) us = some b ∧ Q (.bl b) H
theorem call_isXT {cs : List V} {ws : List Value} (T : XIs X.K C) (hz : Zc (.ref C) d oe) (hf : ∃ vs, oe.data = .fields vs) : CallR (X.suite a ((a, oe) :: pn)) (.builtin "isinstance") (rIsXT X.K C a d cs ws) := by
  intro pins s σ H xs us Q I r h
  obtain ⟨tp, b, rfl, hT, hcs, hd, e, q⟩ := h
  cases r with
  | cons rx rr =>
    cases rr with
    | cons rt rr =>
      cases rr
      cases rx
      cases rt
      obtain ⟨od, J⟩ := inst_suite I hz hf hd
      obtain ⟨_, its, rv, o, h1, h2, n, h3⟩ := (show ObjOk X.prog X.w H s.heap tp (.tup cs) from I.hok tp _ hT)
      have e3 := hcs its rv
      subst e3
      obtain ⟨oc, od', dt, sl⟩ := o
      simp only at h2 h3
      subst h2 h3
      exact PySem.W.kia_tup (PySem.W.kitx_exc T.cls T.hga T.hgt T.hsub T.ha T.hn T.htk T.hm) I.kIn J h1 e (fun z => nomatch z) fun tk => ⟨.bl b, H, I.kept (t' := tk) fun _ _ z => z, rfl, q⟩
end
theorem xok_field {K : PySem.W.Frag} {mg : Str → Option Value} {E : En} {x : Str} {fs : List (Str × PyData)} {C : Addr} {d : Option Addr} {g : Gh} {env : Ev} {c : Nat} {σ : L2.St} {H : Hp} (xok : XOk K mg E.g.F E.H (fun a => ¬ isDk E.g a) x fs (.ref C) d) (r : Rel K E g env c σ H) :
    ∀ dd, d = some dd → ∃ vs, H dd = some (.xd vs) := fun dd e => by
  obtain ⟨C', _, _, h⟩ := xok
  rcases h with ⟨_, h⟩ | ⟨dd', vs, h1, h2, h3, _⟩
  · rw [h] at e
    cases e
  · rw [h1] at e
    cases e
    exact ⟨vs, r.fr _ _ h2 h3⟩
theorem lookup_dp {K : PySem.W.Frag} {F : Hp} {n : Str} {z : PyData} : ∀ {vs : List (Str × V)} {fs : List (Str × PyData)}, vs.map (·.1) = fs.map (·.1) → DpAll K F (vs.map (·.2)) (fs.map (·.2)) → fs.lookup n = some z → ∃ v, vs.lookup n = some v ∧ Dp K F v z
  | [], [], _, _, h => by cases h
  | [], _ :: _, h, _, _ => by cases h
  | _ :: _, [], h, _, _ => by cases h
  | (m, v) :: vs, (m', y) :: fs, h1, h2, h3 => by
    simp only [List.map_cons, List.cons.injEq] at h1
    obtain ⟨rfl, h1⟩ := h1
    cases h2 with
    | cons a t =>
      rw [List.lookup_cons] at h3 ⊢
      cases hq : n == m with
      | true =>
        rw [hq] at h3
        cases h3
        exact ⟨v, rfl, a⟩
      | false =>
        rw [hq] at h3
        exact lookup_dp h1 t h3
section
variable {X : Cx} {E : En} {a C D : Addr} {oe : Obj} {d : Option Addr} {pn : List (Addr × Obj)} {e : Expr} {de : DE} {x cx n : Str} {fs : List (Str × PyData)} {b : Bool} {p p2 pos tpos : Pos} {kk : Nat}
def dIsX (a : Addr) (b : Bool) (de : DE) : DE := fun env c P => de env c fun x c1 => x = .exc a ∧ P (.dat (.bool b)) c1
theorem de_isX (T : XIs X.K C) (hz : Zc (.ref C) d oe) (hf : ∃ vs, oe.data = .fields vs) (xok : XOk X.K X.mg E.g.F E.H (fun a => ¬ isDk E.g a) x fs (.ref C) d) (hk : PySem.W.kitOne X.K (.ref C) (.ref D) = some b) (hm2 : X.mg cx = some (.ref D)) (hm : X.mg "isinstance" = none)
    (he : DPE (X.suite a ((a, oe) :: pn)) E e de) (hg : Gl X "isinstance" := by rfl) (hg2 : Gl X cx := by rfl) (hdb : (cx == ("__debug__" : Str)) = false := by decide)
    (h1 : starEach [e, .Name cx p2] X.env = (false, eval e X.env) :: starEach [.Name cx p2] X.env := by rfl) (h2 : (backTo pos (starEach [.Name cx p2] X.env)).any (·.1) = false := by rfl) :
    DPE (X.suite a ((a, oe) :: pn)) E (.Call (.Name "isinstance" p) [e, .Name cx p2] [] pos) (dIsX a b de) := by
  refine pe_imp (pe_callB (X := X.suite a ((a, oe) :: pn)) (call_isX T hz hf) hg hm PyProof.Rows.boot_isinstance (pa_cons he (pa_cons (pe_glob (v := .ref D) hg2 hm2 rfl hdb) pa_nil) h1) (by decide) (by decide) h1 h2) fun σ H Q h => ?_
  obtain ⟨g, env, c, P, rel, q, k⟩ := h
  refine ⟨g, env, c, _, rel, q, fun y c1 g1 H1 v p1 m1 r1 o1 f1 => ?_⟩
  obtain ⟨rfl, p1⟩ := p1
  obtain rfl : v = .ref a := o1
  exact ⟨D, b, rfl, xok_field xok r1, hk, k _ c1 g1 H1 _ p1 m1 r1 (.bl b) trivial⟩
/-- isinstance(e, (C, D)) -/
theorem de_isXT {D2 : Addr} {cx2 : Str} {p3 : Pos} (T : XIs X.K C) (hz : Zc (.ref C) d oe) (hf : ∃ vs, oe.data = .fields vs) (xok : XOk X.K X.mg E.g.F E.H (fun a => ¬ isDk E.g a) x fs (.ref C) d) (hk : PySem.W.kitAny X.K (.ref C) [.ref D, .ref D2] = some b) (hm2 : X.mg cx = some (.ref D)) (hm3 : X.mg cx2 = some (.ref D2)) (hm : X.mg "isinstance" = none)
    (he : DPE (X.suite a ((a, oe) :: pn)) E e de) (hg : Gl X "isinstance" := by rfl) (hg2 : Gl X cx := by rfl) (hg3 : Gl X cx2 := by rfl) (hdb : (cx == ("__debug__" : Str)) = false := by decide) (hdb2 : (cx2 == ("__debug__" : Str)) = false := by decide)
    (h0 : starEach [.Name cx p2, .Name cx2 p3] X.env = (false, eval (.Name cx p2) X.env) :: starEach [.Name cx2 p3] X.env := by rfl)
    (h1 : starEach [e, .Tuple [.Name cx p2, .Name cx2 p3] kk tpos] X.env = (false, eval e X.env) :: starEach [.Tuple [.Name cx p2, .Name cx2 p3] kk tpos] X.env := by rfl) (h2 : (backTo pos (starEach [.Tuple [.Name cx p2, .Name cx2 p3] kk tpos] X.env)).any (·.1) = false := by rfl) :
    DPE (X.suite a ((a, oe) :: pn)) E (.Call (.Name "isinstance" p) [e, .Tuple [.Name cx p2, .Name cx2 p3] kk tpos] [] pos) (dIsX a b de) := by
  refine pe_imp (pe_callB (X := X.suite a ((a, oe) :: pn)) (call_isXT (cs := [.ref D, .ref D2]) (ws := [.ref D, .ref D2]) T hz hf) hg hm PyProof.Rows.boot_isinstance (pa_cons he (pa_cons (pe_tup (pa_cons (pe_glob (v := .ref D) hg2 hm2 rfl hdb) (pa_cons (pe_glob (v := .ref D2) hg3 hm3 rfl hdb2) pa_nil) h0)) pa_nil) h1) (by decide) (by decide) h1 h2) fun σ H Q h => ?_
  obtain ⟨g, env, c, P, rel, q, k⟩ := h
  refine ⟨g, env, c, _, rel, q, fun y c1 g1 H1 v p1 m1 r1 o1 f1 => ?_⟩
  obtain ⟨rfl, p1⟩ := p1
  obtain rfl : v = .ref a := o1
  refine ⟨by show 2 ≤ sizeLine; decide, fun tp htp => ?_⟩
  obtain ⟨r2, m2⟩ := r1.extra (.tup [.ref D, .ref D2]) htp
  exact ⟨tp, b, rfl, upd_same, fun ws hw => by
    cases hw with
    | cons ra rr =>
      cases rr with
      | cons rb rr =>
        cases rr
        cases ra
        cases rb
        rfl, xok_field xok r2, hk, k _ c1 g1 _ _ p1 (m1.trans m2) r2 (.bl b) trivial⟩
def dXf (a : Addr) (n : Str) (fs : List (Str × PyData)) (de : DE) : DE := fun env c P => de env c fun x c1 => x = .exc a ∧ ∃ z, fs.lookup n = some z ∧ P (.dat z) c1
theorem de_xf (T : XIs X.K C) (hz : Zc (.ref C) d oe) (hf : ∃ vs, oe.data = .fields vs) (xok : XOk X.K X.mg E.g.F E.H (fun a => ¬ isDk E.g a) x fs (.ref C) d) (hno : PySem.W.findIn X.K (.ref C) n = some none) (he : DPE (X.suite a ((a, oe) :: pn)) E e de) (hb : attributeBase e n X.env (eval e X.env) = eval e X.env := by rfl) :
    DPE (X.suite a ((a, oe) :: pn)) E (.Attribute e n pos) (dXf a n fs de) := by
  refine pe_imp (pe_xf T.xf hno hz hf he hb) fun σ H Q h => ?_
  obtain ⟨g, env, c, P, rel, q, k⟩ := h
  refine ⟨g, env, c, _, rel, q, fun y c1 g1 H1 v p1 m1 r1 o1 f1 => ?_⟩
  obtain ⟨rfl, z, hz2, p1⟩ := p1
  obtain rfl : v = .ref a := o1
  obtain ⟨C', _, _, h⟩ := xok
  rcases h with ⟨h, _⟩ | ⟨dd, vs, h1, h2, h3, h4, h5⟩
  · rw [h] at hz2
    cases hz2
  · obtain ⟨u, hu, du⟩ := lookup_dp h4 h5 hz2
    exact ⟨rfl, rfl, dd, vs, u, h1, r1.fr _ _ h2 h3, hu, k _ c1 g1 H1 _ p1 m1 r1 (dp_mono r1.mo du) trivial⟩
end
section
variable {P : Program} {w : World} {K : PySem.W.Frag} {mg : Str → Option Value} {base : Heap}
/-- as def_of: the frame is not the law's own -/
theorem defT_of {x qual : Str} {st : Stmt} {f : Addr} {fd : FuncData} {N ps : List Str} {k n : Nat} {dt : DS} (F : Fun K x qual st f fd) (S : FnScope N ps (defScope st)) (hm : mg x = some (.ref f)) (hb : Binds K fd ps []) (hn : ps.length = n)
    (h : ∀ (cdv : Value) (A : Around) (outer : List Env) (s : Shared) (H : Hp) (E : En), Room k (A.deeper (envOfC qual (defScope st) s.heap.objs.size f cdv)) → (A.deeper (envOfC qual (defScope st) s.heap.objs.size f cdv)).guards = some [] → E.top = false →
      DPSs (bodyCx P w K mg base N qual st f cdv A outer s H) E (defBody st) dt) : Def P w K mg base (k + 1) x n (bodySpec N.length dt) := by
  refine ⟨f, fd, ps, fnG_of F S (fun vs H Q E q => ?_) (fun cdv A outer s H vs Q hr hgd q => ?_), hm, F.kp, hb⟩
  · obtain ⟨g, c, args, P, _, _, ok, _, hl, _⟩ := q
    rw [VOks.len ok, hl, hn]
  · obtain ⟨g, c, args, P', ex, dk, ok, fr, hl, hs, kk⟩ := q
    refine ⟨_, h cdv A outer s H ⟨g, H, false⟩ hr hgd rfl, g, _, c, _, start_rel ex dk ok fr, hs, fun env' c' g' σ' H' p m r => ?_, fun y c' env' g' σ' H' v p m r o f => ?_, fun _ _ _ _ _ p => p.elim, fun _ _ _ _ _ p => p.elim⟩
    · exact kk _ c' g' H' .non p ⟨⟨r.mo, r.md rfl⟩, r.fr, fun a o e => r.old e, r.nf⟩ r.ex r.dk .non trivial
    · exact kk y c' g' H' v p ⟨⟨r.mo, r.md rfl⟩, r.fr, fun a o e => r.old e, r.nf⟩ r.ex r.dk o f
end
end DL
set_option maxHeartbeats 2000000
/-! defs with one star parameter that raise -/
namespace DL
open PySem PySem.Spec PyProof.Rows L2
theorem tkF {X : Cx} {mg : Str → Option Value} {E : En} : Takes X (upW X.K mg E fun _ _ _ _ => False) := takes0.imp fun _ _ _ _ h => by
  obtain ⟨_, _, _, _, _, _, _, z⟩ := h
  exact z
structure FnVX (P : Program) (w : World) (K : PySem.W.Frag) (mg : Str → Option Value) (base : Heap) (k : Nat) (f : Addr) (sp : Sp) : Prop where
  run : ∀ (A : Around) (outer : List Env) (s : Shared) (H : Hp) (us : List Value) (vs : List V) (Q : VK) (E : XK), Room k A → A.guards = some [] → Env0 P w K mg base A outer s H → Vals vs us → sp vs H Q E →
    codeAny (model P w) A (.call (.ref f) ⟨us, []⟩) (CR (L2.CX P w) outer P w H s Q E) s
section
variable {P : Program} {w : World} {K : PySem.W.Frag} {mg : Str → Option Value} {base : Heap}
theorem fnVX_star {x qual : Str} {st : Stmt} {f : Addr} {fd : FuncData} {N : List Str} {pv : Str} {k : Nat} {sp : Sp} (F : Fun K x qual st f fd) (S : FnScope N [pv] (defScope st))
    (hbd : ∀ rest : List Value, bindArgs fd ⟨rest, []⟩ = (newTuple rest >>= fun t => pure [(pv, t)]))
    (hb : ∀ (cdv : Value) (A : Around) (outer : List Env) (s : Shared) (H : Hp) (vs : List V) (Q : VK) (E : XK), Room k (A.deeper (envOfC qual (defScope st) s.heap.objs.size f cdv)) → A.guards = some [] → sp vs H Q E →
      ∃ t, PSs (cxOf (L2.CX P w) P w K mg base N qual (defScope st) f cdv A outer s H E) (defBody st) t ∧ t { nx := fun _ H' => Q .non H', rt := Q } (start N vs) H) :
    FnVX P w K mg base (k + 1) f (fun vs H Q E => vs.length ≤ sizeLine ∧ ∀ p, H p = Option.none → sp [V.ref p] (upd H p (.tup vs)) Q E) := by
  obtain ⟨oc, od, kV, doc, pm, an, cdv, ct, osl, rfl, lk, hcd⟩ := F.ex
  refine ⟨fun A outer s H us vs Q E room quiet e0 r want => ?_⟩
  obtain ⟨hz, hq⟩ := want
  have hn : H s.heap.objs.size = Option.none := e0.hok.fresh (Nat.le_refl _)
  have hl2 : us.length ≤ sizeLine := by rw [← r.length]; exact hz
  refine StX.run_bnd lk hcd S room e0 (G := fun xs H2 => ∃ p, H p = Option.none ∧ xs = [V.ref p] ∧ H2 = upd H p (.tup vs)) (fun A' Ex Q' h => ?_) fun s2 H2 xs ⟨p, hp, ex, eH⟩ hr' => ?_
  · rw [hbd us]
    refine wpAny_bind (wpAny_newTuple (wpAny_pure ?_) hl2)
    have new : ObjOk P w (upd H s.heap.objs.size (.tup vs)) (s.heap.push ({ cls := .type "tuple", data := .seq us.toArray } : Obj)) s.heap.objs.size (.tup vs) := ⟨hz, us, r, ⟨_, Heap.get?_push_size _ rfl, rfl, _, rfl⟩⟩
    have un := StX.un_laid (fs := frs outer) (s := s) (o := ({ cls := .type "tuple", data := .seq us.toArray } : Obj)) (u := .tup vs) hn
    exact h _ _ [V.ref s.heap.objs.size] [Value.ref s.heap.objs.size] (StX.env0_laid e0 new) un rfl (fun e s' => StX.cxUp outer s H _ _ E e s' un (fun b o q => Heap.get?_push_of_some _ q) rfl) (.cons rfl .nil) rfl ⟨_, hn, rfl, rfl⟩
  · subst ex eH
    exact hb cdv A outer s2 _ _ Q E hr' quiet (hq p hp)
end
section
variable {X : Cx} {k : Nat} {f : Addr} {sp : Sp} {x : Str} {p pos : Pos} {e : Expr} {es : List Expr} {t : TA} {W : WX}
theorem pe_callVX (F : FnVX X.prog X.w X.K X.mg X.base k f sp) (hr : Room k X.A) (hgd : X.A.guards = some []) (tk : Takes X W) (hg : Gl X x) (hm : X.mg x = some (.ref f)) (hk : PySem.W.keepIn X.K (.ref f) = true) (ha : PA X (e :: es) t)
    (hdb : (x == ("__debug__" : Str)) = false := by decide) (he : starEach (e :: es) X.env = (false, eval e X.env) :: starEach es X.env := by rfl) (hpl : (backTo pos (starEach es X.env)).any (·.1) = false := by rfl) :
    PE X (.Call (.Name x p) (e :: es) [] pos) (fun σ H Q => t σ H fun vs H1 => sp vs H1 Q (fun cls d H2 => W cls d σ H2)) := by
  constructor
  intro pins s σ H Q I h
  refine wpAny_Call_Name_kw (ld_glob I hg hm (PySem.W.callWith_K (h₀ := X.base) I.ok.mod.kin hk ?_ he hpl) hdb)
  refine thn (ha.run pos pins s σ H _ I h) fun us s1 hq => ?_
  obtain ⟨vs, H1, I1, r, q⟩ := hq
  refine ⟨I1.kIn, wpAny_call (codeAny_mono (F.run X.A X.stack s1 H1 us vs Q _ hr hgd I1.env0 r q) fun rr s' hrr => ?_)⟩
  match rr, hrr with
  | .error e', z => exact L2.passAt tk σ pins H1 s1 e' s' I1 z
  | .ok .next, z => exact z.elim
  | .ok .brk, z => exact z.elim
  | .ok .cont, z => exact z.elim
  | .ok (.ret u), z => exact I1.after z
end
def spVX (K : PySem.W.Frag) (mg : Str → Option Value) (spec : SpecX) : Sp := fun vs H Q E => ∃ g c ds P Px, Same g.F H ∧ DeckOk g H c ∧ DpAll K g.F vs ds ∧ ds.length ≤ sizeLine ∧ spec [.dat (.tuple ds)] c P Px ∧
  (∀ x c' g' H' v, P x c' → Mv g H g' H' → Same g'.F H' → DeckOk g' H' c' → VOk K g' H' v x → free x → Q v H') ∧
  ∀ x fs c' g' H' cls d, Px x fs c' → Mv g H g' H' → Same g'.F H' → DeckOk g' H' c' → XOk K mg g'.F H' (fun a => ¬ isDk g' a) x fs cls d → E cls d H'
structure DefVX (P : Program) (w : World) (K : PySem.W.Frag) (mg : Str → Option Value) (base : Heap) (k : Nat) (x : Str) (spec : SpecX) : Prop where
  ex : ∃ f, FnVX P w K mg base k f (spVX K mg spec) ∧ mg x = some (.ref f) ∧ PySem.W.keepIn K (.ref f) = true
section
variable {X : Cx} {E : En} {k : Nat} {spec : SpecX} {x : Str} {p pos : Pos} {e : Expr} {es : List Expr} {dr : DA} {W : XW}
def dCallVX (spec : SpecX) (W : XW) (dr : DA) : DE := fun env c P => dr env c fun xs c1 => datsK xs fun ds => ds.length ≤ sizeLine ∧ spec [.dat (.tuple ds)] c1 P fun y fs c2 => W y fs env c2
theorem de_callVX (F : DefVX X.prog X.w X.K X.mg X.base k x spec) (hr : Room k X.A) (hgd : X.A.guards = some []) (tk : Takes X (upW X.K X.mg E W)) (ha : DPA X E (e :: es) dr) (hg : Gl X x := by rfl)
    (hdb : (x == ("__debug__" : Str)) = false := by decide) (he : starEach (e :: es) X.env = (false, eval e X.env) :: starEach es X.env := by rfl) (hpl : (backTo pos (starEach es X.env)).any (·.1) = false := by rfl) :
    DPE X E (.Call (.Name x p) (e :: es) [] pos) (dCallVX spec W dr) := by
  obtain ⟨f, F, hm, hk⟩ := F.ex
  refine pe_imp (pe_callVX F hr hgd tk hg hm hk ha hdb he hpl) fun σ H Q h => ?_
  obtain ⟨g, env, c, P, rel, q, kk⟩ := h
  refine ⟨g, env, c, _, rel, q, fun xs c1 g1 H1 vs p1 m1 r1 o1 f1 => ?_⟩
  obtain ⟨ds, h1, h2⟩ := datsK_all o1 p1
  exact ⟨g1, c1, ds, P, _, r1.ex, r1.dk, h2, h1.1, h1.2, fun y c2 g2 H2 v p2 m2 ex dk ok fr => kk y c2 g2 H2 v p2 (m1.trans m2) (r1.call m2 ex dk) ok fr,
    fun y fs c2 g2 H2 cls d p2 m2 ex dk xok => ⟨g2, env, c2, y, fs, r1.call m2 ex dk, xok, p2⟩⟩
end
section
variable {P : Program} {w : World} {K : PySem.W.Frag} {mg : Str → Option Value} {base : Heap}
theorem defVX_of {x qual : Str} {st : Stmt} {f : Addr} {fd : FuncData} {N : List Str} {pv : Str} {k : Nat} {dt : Xd → DS} (F : Fun K x qual st f fd) (S : FnScope N [pv] (defScope st)) (hm : mg x = some (.ref f))
    (hbd : ∀ rest : List Value, bindArgs fd ⟨rest, []⟩ = (newTuple rest >>= fun t => pure [(pv, t)]))
    (h : ∀ (cdv : Value) (A : Around) (outer : List Env) (s : Shared) (H : Hp) (EX : XK) (E : En) (Px : Xd), Room k (A.deeper (envOfC qual (defScope st) s.heap.objs.size f cdv)) → (A.deeper (envOfC qual (defScope st) s.heap.objs.size f cdv)).guards = some [] →
      Takes (bodyCxX P w K mg base N qual st f cdv A outer s H EX) (upW K mg E fun y fs _ c => Px y fs c) → DPSs (bodyCxX P w K mg base N qual st f cdv A outer s H EX) E (defBody st) (dt Px)) : DefVX P w K mg base (k + 1) x (bodySpecX N.length dt) := by
  have FV := fnVX_star (P := P) (w := w) (mg := mg) (base := base) (sp := spDX K mg 1 (bodySpecX N.length dt)) F S hbd (fun cdv A outer s H vs Q EX hr hgd q => by
    obtain ⟨g, c, args, P', Px, ex, dk, ok, fr, hl, hs, kk, kx⟩ := q
    have tk : Takes (bodyCxX P w K mg base N qual st f cdv A outer s H EX) (fun cls d _ H => EX cls d H) := takes_of rfl rfl rfl rfl
    refine ⟨_, h cdv A outer s H EX ⟨g, H, false⟩ Px hr hgd (tk.imp fun cls d σ H2 z => ?_), g, _, c, _, start_rel ex dk ok fr, hs, fun env' c' g' σ' H' p m r => ?_, fun y c' env' g' σ' H' v p m r o f => ?_, fun _ _ _ _ _ p => p.elim, fun _ _ _ _ _ p => p.elim⟩
    · obtain ⟨g2, env2, c2, y, fs, r, xok, px⟩ := z
      exact kx y fs c2 g2 H2 cls d px ⟨⟨r.mo, r.md rfl⟩, r.fr, fun a o e => r.old e, r.nf⟩ r.ex r.dk xok
    · exact kk _ c' g' H' .non p ⟨⟨r.mo, r.md rfl⟩, r.fr, fun a o e => r.old e, r.nf⟩ r.ex r.dk .non trivial
    · exact kk y c' g' H' v p ⟨⟨r.mo, r.md rfl⟩, r.fr, fun a o e => r.old e, r.nf⟩ r.ex r.dk o f)
  refine ⟨f, ⟨fun A outer s H us vs Q E room quiet e0 r want => FV.run A outer s H us vs Q E room quiet e0 r ?_⟩, hm, F.kp⟩
  obtain ⟨g, c, ds, P', Px, ex, dk, ok, hl, hs, kk, kx⟩ := want
  refine ⟨by rw [DpAll.len ok]; exact hl, fun p hp => ?_⟩
  have r0 : Rel K ⟨g, H, false⟩ g (startE ([] : List Str).length []) c (start [] []) H := start_rel (vs := []) (args := []) ex dk trivial (fun x hx => by cases hx)
  obtain ⟨r1, m1⟩ := r0.new (.tup vs) hp
  refine ⟨_, c, [.dat (.tuple ds)], P', Px, r1.ex, r1.dk, ⟨.tup (.of upd_same) (dpAll_mono m1.f ok), trivial⟩, fun x hx => ?_, rfl, hs, fun y c2 g2 H2 v p2 m2 ex dk ok fr => kk y c2 g2 H2 v p2 (m1.trans m2) ex dk ok fr, fun y fs c2 g2 H2 cls d p2 m2 ex dk xok => kx y fs c2 g2 H2 cls d p2 (m1.trans m2) ex dk xok⟩
  cases List.mem_singleton.mp hx
  trivial
end
/-- in the body of a def that raises: what a loop's own exceptions may do -/
theorem passesX {P : Program} {w : World} {K : PySem.W.Frag} {mg : Str → Option Value} {base : Heap} {N : List Str} {qual : Str} {st : Stmt} {f : Addr} {cdv : Value} {A : Around} {outer : List Env} {s : Shared} {H : Hp} {E : XK} :
    PassesOwn (model P w) (bodyCxX P w K mg base N qual st f cdv A outer s H E).A (bodyCxX P w K mg base N qual st f cdv A outer s H E).env (bodyCxX P w K mg base N qual st f cdv A outer s H E).xe := passes_of (X := bodyCxX P w K mg base N qual st f cdv A outer s H E) rfl
end DL
set_option maxHeartbeats 2000000
/-! a, x = e, [..] -/
namespace DL
open PySem PySem.Spec PyProof.Rows L2
def sParEF (i j : Nat) (da : DE) (dt : DF) : DS := fun D env c => da env c fun y c1 => dt env c1 fun l c2 => D.nx ((env.set i (some y)).set j (some (.own l))) c2
section
variable {X : Cx} {E : En} {a b : Expr} {da : DE} {pos px py pt : Pos} {kt : Nat} {k2 : Nat} {pt2 : Pos} {x y : Str}
theorem ds_parEF (i j : Nat) {dt : DF} (hN : X.N.Nodup) (h : DPE X E a da) (hb : DPF X E b dt) (hij : i ≠ j := by decide) (hi : X.N[i]? = some x := by rfl) (hj : X.N[j]? = some y := by rfl)
    (hx : X.env.scope.names.lookup x = some .local := by rfl) (hy : X.env.scope.names.lookup y = some .local := by rfl) (hc : X.calm = true := by rfl)
    (hw : swappedStores [.Tuple [.Name x px, .Name y py] kt pt] (.Tuple [a, b] k2 pt2) X.env = pure (some [x, y]) := by rfl)
    (hs : swapsWithSole [.Tuple [.Name x px, .Name y py] kt pt] (.Tuple [a, b] k2 pt2) pos.line X.env = pure false := by rfl)
    (he : starEach [a, b] X.env = (false, eval a X.env) :: starEach [b] X.env := by rfl) (he2 : starEach [b] X.env = (false, eval b X.env) :: starEach [] X.env := by rfl) : DPS X E (.Assign [.Tuple [.Name x px, .Name y py] kt pt] (.Tuple [a, b] k2 pt2) pos) (sParEF i j da dt) := by
  refine ps_imp (ps_par hc hN hi hj hij hx hy (pa_cons h (pa_cons hb pa_nil he2) he) hw hs) fun D σ H h => ?_
  obtain ⟨g, env, c, P, rel, q, k, _⟩ := h
  refine ⟨g, env, c, _, rel, q, fun y c1 g1 H1 v p1 m1 r1 o1 f1 => ⟨g1, env, c1, _, r1, p1, fun l c2 g2 H2 p xs hl m2 r2 hp hp' hF ha => ⟨v, .ref p, rfl, ?_⟩⟩⟩
  refine k _ c2 g2 _ H2 hl (m1.f.trans m2.f) ?_
  rw [List.set_comm _ _ hij, List.set_comm _ _ hij]
  exact (r2.takeOwn j (Frs.of r1 m2 hp hp' hF ha)).set i (VOk.mono m2.toMo f1 o1) f1
theorem ds_parEFc (i j : Nat) {dt : DF} (hN : X.N.Nodup) (h : DPE X E a da) (hb : DPF X E b dt) (hij : i ≠ j := by decide) (hi : X.N[i]? = some x := by rfl) (hj : X.N[j]? = some y := by rfl)
    (hx : Loc X.env.scope x := by first | exact Or.inl rfl | exact Or.inr rfl) (hy : Loc X.env.scope y := by first | exact Or.inl rfl | exact Or.inr rfl) (hc : X.calm = true := by rfl)
    (hg : PG X (.Tuple [.Name x px, .Name y py] kt pt) (gTup X.K 2 (gCons (gName i) (gCons (gName j) gNil))) := by exact pg_tup rfl (pgs_cons (pg_name (by assumption) rfl (by first | exact Or.inl rfl | exact Or.inr rfl)) (pgs_cons (pg_name (by assumption) rfl (by first | exact Or.inl rfl | exact Or.inr rfl)) pgs_nil)))
    (hs : swapsWithSole [.Tuple [.Name x px, .Name y py] kt pt] (.Tuple [a, b] k2 pt2) pos.line X.env = pure false := by rfl) (hw : swappedStores [.Tuple [.Name x px, .Name y py] kt pt] (.Tuple [a, b] k2 pt2) X.env = pure none := by rfl)
    (h3 : (assignEach [.Tuple [.Name x px, .Name y py] kt pt] X.env).map (·.2) = [assign (.Tuple [.Name x px, .Name y py] kt pt) X.env] := by rfl)
    (he : starEach [a, b] X.env = (false, eval a X.env) :: starEach [b] X.env := by rfl) (he2 : starEach [b] X.env = (false, eval b X.env) :: starEach [] X.env := by rfl) : DPS X E (.Assign [.Tuple [.Name x px, .Name y py] kt pt] (.Tuple [a, b] k2 pt2) pos) (sParEF i j da dt) := by
  refine ps_imp (ps_asg (pe_tup (pa_cons h (pa_cons hb pa_nil he2) he)) hg hs hw h3) fun D σ H h => ?_
  obtain ⟨g, env, c, P, rel, q, k, _⟩ := h
  refine ⟨g, env, c, _, rel, q, fun y c1 g1 H1 v p1 m1 r1 o1 f1 => ⟨g1, env, c1, _, r1, p1, fun l c2 g2 H2 p xs hl m2 r2 hp hp' hF ha => ?_⟩⟩
  refine ⟨by show 2 ≤ sizeLine; decide, fun T hT => ⟨T, _, rfl, .of upd_same, rfl, v, _, rfl, .ref p, _, rfl, rfl, ?_⟩⟩
  obtain ⟨r3, m3⟩ := r2.skip (.tup [v, .ref p]) hT
  refine k _ c2 g2 _ _ hl (m1.f.trans m2.f) ?_
  rw [List.set_comm _ _ hij, List.set_comm _ _ hij]
  exact (r3.takeOwn j ((Frs.of r1 m2 hp hp' hF ha).mv m3)).set i (VOk.mono (m2.trans m3).toMo f1 o1) f1
end
/-! ### enumerate of a list -/
def wEnumerateL (da : DA) : DI := fun env c P => da env c fun xs c1 => datsK xs fun ds => match ds with
  | [.list xs] => P (enumD xs) c1
  | _ => False
section
variable {X : Cx} {E : En} {a : Expr} {pos : Pos}
theorem dw_enumerateL {elts : List Expr} {kk : Nat} {dr : DA} {p tpos : Pos} (ha : DPA X E [a] dr) (hm : X.mg "enumerate" = none) (hg : Gl X "enumerate" := by rfl) (hs : starEach [a] X.env = [(false, eval a X.env)] := by rfl) :
    DPI X E (.Tuple elts kk tpos) (.Call (.Name "enumerate" p) [a] [] pos) (wEnumerateL dr) := by
  refine pi_imp (pi_enum hg hm ha hs) fun σ H R h => ?_
  obtain ⟨g, env, c, P, rel, q, k⟩ := h
  refine ⟨g, env, c, _, rel, q, fun xs c1 g1 H1 vs p1 m1 r1 o1 f1 => ?_⟩
  obtain ⟨ds, h1, h2⟩ := datsK_all o1 p1
  split at h1
  · rename_i us
    cases h2 with
    | cons h3 t =>
      cases t
      cases h3 with
      | lst s1 a1 =>
        rename_i ad xs
        refine ⟨ad, xs, rfl, r1.ex.seq s1, k _ c1 g1 H1 _ h1 m1 r1 ⟨_, _, by rw [show (enumD us).length = xs.length by unfold enumD; rw [List.length_map, List.length_range, DpAll.len a1]]; exact walk_enum, fun g' H' m e => e.seq (m.seq s1), fun i H2 x2 H3 d2 e y => ?_⟩⟩
        obtain ⟨T, x, y, rfl, hT, rfl, hx, hy⟩ := y
        cases hx
        obtain ⟨dy, ey, py⟩ := DpAll.getV a1 hy
        have hi : i < us.length := (List.getElem?_eq_some_iff.mp ey).1
        have e2 : d2 = .tuple [.int (i : Nat), dy] := by
          unfold enumD at e
          rw [List.getElem?_map, List.getElem?_range hi, Option.map_some, List.getD_eq_getElem?_getD, ey] at e
          exact (Option.some.inj e).symm
        subst e2
        refine .inr ⟨T, _, hT, rfl, fun F hF hFT => .tup (.of upd_same) ?_⟩
        have sF : Same F (upd F T (.tup [.int (i : Nat), y])) := fun b o e => by
          rw [upd_ne (ne_of_none e hFT)]
          exact e
        exact .cons (.int _) (.cons (dp_mono (hF.trans sF) py) .nil)
  · exact h1.elim
end
end DL
set_option maxHeartbeats 2000000
namespace DL
open PySem PySem.Spec PyProof.Rows L2
theorem kit_ty' {K : PySem.W.Frag} {C : Addr} {T : String} {b : Bool} (hm : PySem.W.kitMeta T = true) (hs : PySem.W.subIn K (.ref C) (.type T) = some b) : PySem.W.kitOne K (.ref C) (.type T) = some b := by
  unfold PySem.W.kitOne
  rw [if_neg (by intro h; cases (beq_iff_eq.mp h))]
  show (if PySem.W.kitMeta T = true then PySem.W.subIn K (.ref C) (.type T) else none) = some b
  rw [if_pos hm]
  exact hs
section
variable {X : Cx} {E : En} {a C D : Addr} {oe : Obj} {d : Option Addr} {pn : List (Addr × Obj)} {e : Expr} {de : DE} {x cx n : Str} {fs : List (Str × PyData)} {b : Bool} {p p2 pos tpos : Pos} {kk : Nat}
/-- isinstance(e, (C, T)), T built in -/
theorem de_isXTb {T2 : String} {cx2 : Str} {p3 : Pos} (T : XIs X.K C) (hz : Zc (.ref C) d oe) (hf : ∃ vs, oe.data = .fields vs) (xok : XOk X.K X.mg E.g.F E.H (fun a => ¬ isDk E.g a) x fs (.ref C) d) (hk : PySem.W.kitAny X.K (.ref C) [.ref D, .type T2] = some b) (hm2 : X.mg cx = some (.ref D)) (hm3 : X.mg cx2 = none) (hv : bootBuiltins cx2 = some (.type T2)) (hm : X.mg "isinstance" = none)
    (he : DPE (X.suite a ((a, oe) :: pn)) E e de) (hg : Gl X "isinstance" := by rfl) (hg2 : Gl X cx := by rfl) (hg3 : Gl X cx2 := by rfl) (hdb : (cx == ("__debug__" : Str)) = false := by decide) (hdb2 : (cx2 == ("__debug__" : Str)) = false := by decide) (hnn : cx2 ≠ "__name__" := by decide)
    (h0 : starEach [.Name cx p2, .Name cx2 p3] X.env = (false, eval (.Name cx p2) X.env) :: starEach [.Name cx2 p3] X.env := by rfl)
    (h1 : starEach [e, .Tuple [.Name cx p2, .Name cx2 p3] kk tpos] X.env = (false, eval e X.env) :: starEach [.Tuple [.Name cx p2, .Name cx2 p3] kk tpos] X.env := by rfl) (h2 : (backTo pos (starEach [.Tuple [.Name cx p2, .Name cx2 p3] kk tpos] X.env)).any (·.1) = false := by rfl) :
    DPE (X.suite a ((a, oe) :: pn)) E (.Call (.Name "isinstance" p) [e, .Tuple [.Name cx p2, .Name cx2 p3] kk tpos] [] pos) (dIsX a b de) := by
  refine pe_imp (pe_callB (X := X.suite a ((a, oe) :: pn)) (call_isXT (cs := [.ref D, .ty T2]) (ws := [.ref D, .type T2]) T hz hf) hg hm PyProof.Rows.boot_isinstance (pa_cons he (pa_cons (pe_tup (pa_cons (pe_glob (v := .ref D) hg2 hm2 rfl hdb) (pa_cons (pe_bltn (v := .ty T2) hg3 hm3 hv rfl hnn hdb2) pa_nil) h0)) pa_nil) h1) (by decide) (by decide) h1 h2) fun σ H Q h => ?_
  obtain ⟨g, env, c, P, rel, q, k⟩ := h
  refine ⟨g, env, c, _, rel, q, fun y c1 g1 H1 v p1 m1 r1 o1 f1 => ?_⟩
  obtain ⟨rfl, p1⟩ := p1
  obtain rfl : v = .ref a := o1
  refine ⟨by show 2 ≤ sizeLine; decide, fun tp htp => ?_⟩
  obtain ⟨r2, m2⟩ := r1.extra (.tup [.ref D, .ty T2]) htp
  exact ⟨tp, b, rfl, upd_same, fun ws hw => by
    cases hw with
    | cons ra rr =>
      cases rr with
      | cons rb rr =>
        cases rr
        cases ra
        cases rb
        rfl, xok_field xok r2, hk, k _ c1 g1 _ _ p1 (m1.trans m2) r2 (.bl b) trivial⟩
end
/-! ### three names at once -/
def sPar3 (i j l : Nat) (da : DA) : DS := fun D env c => da env c fun xs c1 => match xs with
  | [x, y, z] => D.nx (((env.set i (some x)).set j (some y)).set l (some z)) c1
  | _ => False
theorem ds_par3 {X : Cx} {E : En} (i j l : Nat) {x y z : Str} {a b c : Expr} {dr : DA} {px py pz pt pos : Pos} {kt k2 pt2} (hN : X.N.Nodup) (ha : DPA X E [a, b, c] dr) (hij : i ≠ j := by decide) (hil : i ≠ l := by decide) (hjl : j ≠ l := by decide) (hi : X.N[i]? = some x := by rfl) (hj : X.N[j]? = some y := by rfl) (hl : X.N[l]? = some z := by rfl)
    (hx : X.env.scope.names.lookup x = some .local := by rfl) (hy : X.env.scope.names.lookup y = some .local := by rfl) (hz : X.env.scope.names.lookup z = some .local := by rfl) (hc : X.calm = true := by rfl)
    (hw : swappedStores [.Tuple [.Name x px, .Name y py, .Name z pz] kt pt] (.Tuple [a, b, c] k2 pt2) X.env = pure (some [x, y, z]) := by rfl)
    (hs : swapsWithSole [.Tuple [.Name x px, .Name y py, .Name z pz] kt pt] (.Tuple [a, b, c] k2 pt2) pos.line X.env = pure false := by rfl) : DPS X E (.Assign [.Tuple [.Name x px, .Name y py, .Name z pz] kt pt] (.Tuple [a, b, c] k2 pt2) pos) (sPar3 i j l dr) := by
  refine ps_imp (ps_par3 hc hN hi hj hl hij hil hjl hx hy hz ha hw hs) fun D σ H h => ?_
  obtain ⟨g, env, c, P, rel, q, k, _⟩ := h
  refine ⟨g, env, c, _, rel, q, fun xs c1 g1 H1 vs p1 m1 r1 o1 f1 => ?_⟩
  split at p1
  · rename_i x y z
    match vs, o1 with
    | [u, v, w], o1 =>
      refine ⟨u, v, w, rfl, k _ c1 g1 _ H1 p1 m1.f (((r1.set i o1.1 (f1 x (by simp))).set j o1.2.1 (f1 y (by simp))).set l o1.2.2.1 (f1 z (by simp)))⟩
  · exact p1.elim
end DL
set_option maxHeartbeats 2000000
/-! texts: str(i), a + b, " ".join(..), f".."; defs that call themselves -/
namespace DL
open PySem PySem.Spec PyProof.Rows L2
def isStr : PyData → Bool
  | .str _ => true
  | _ => false
theorem kit_str : ∀ d : PyData, kitB (tyN d) "str" = some (isStr d)
  | .none => (by decide +kernel : kitB "NoneType" "str" = some false)
  | .bool _ => (by decide +kernel : kitB "bool" "str" = some false)
  | .int _ => (by decide +kernel : kitB "int" "str" = some false)
  | .str _ => (by decide +kernel : kitB "str" "str" = some true)
  | .list _ => (by decide +kernel : kitB "list" "str" = some false)
  | .tuple _ => (by decide +kernel : kitB "tuple" "str" = some false)
  | .dict _ => (by decide +kernel : kitB "dict" "str" = some false)
def rdStr : List PyData → (PyData → Prop) → Prop := fun ds P => match ds with
  | [.int i] => i.natAbs.log2 < 1920 ∧ P (.str (toString i))
  | _ => False
theorem cd_str {K : PySem.W.Frag} : CallD K (fun xs H Q => ∃ i, xs = [V.int i] ∧ i.natAbs.log2 < 1920 ∧ Q (.str (toString i)) H) rdStr := by
  intro E g env c σ H xs ds P Q r h q k
  unfold rdStr at q
  split at q
  · cases h with
    | cons h1 t =>
      cases t
      rw [dp_int h1]
      exact ⟨_, rfl, q.1, k _ g H _ q.2 (Mv.refl g H) r (.str _)⟩
  · exact q.elim
/-- a + b, of texts -/
def rdAddS : PyData → PyData → (PyData → Prop) → Prop := fun d e P => match d, e with
  | .str x, .str y => x.length + y.length ≤ sizeLine ∧ P (.str (x ++ y))
  | _, _ => False
theorem opd_addS {K : PySem.W.Frag} : OpD K (fun x y H Q => ∃ i j, x = V.str i ∧ y = V.str j ∧ i.length + j.length ≤ sizeLine ∧ Q (.str (i ++ j)) H) rdAddS := by
  intro E g env c σ H x y d e P Q r hx hy q k
  unfold rdAddS at q
  split at q
  · rw [dp_str hx, dp_str hy]
    exact ⟨_, _, rfl, rfl, q.1, k _ g H _ q.2 (Mv.refl g H) r (.str _)⟩
  · exact q.elim
section
variable {X : Cx} {E : En} {a b : Expr} {da db : DE} {pos apos : Pos}
theorem de_addS (ha : DPE X E a da) (hb : DPE X E b db) : DPE X E (.BinOp a .Add b pos) (dOp rdAddS da db) := de_op op_add_str opd_addS ha hb
/-- sep.join(xs) -/
def strsOf : List PyData → Option (List Str)
  | [] => some []
  | .str x :: r => (strsOf r).map (x :: ·)
  | _ :: _ => none
theorem strsOf_dp {K : PySem.W.Frag} {F : Hp} : ∀ {ds : List PyData} {vs : List V} {ys : List Str}, strsOf ds = some ys → DpAll K F vs ds → vs = ys.map V.str
  | [], _, _, e, .nil => by cases e; rfl
  | .str x :: r, _, ys, e, .cons h t => by
    unfold strsOf at e
    obtain ⟨zs, e1, rfl⟩ := Option.map_eq_some_iff.mp e
    rw [dp_str h, strsOf_dp e1 t]
    rfl
  | .none :: _, _, _, e, _ => by cases e
  | .bool _ :: _, _, _, e, _ => by cases e
  | .int _ :: _, _, _, e, _ => by cases e
  | .list _ :: _, _, _, e, _ => by cases e
  | .tuple _ :: _, _, _, e, _ => by cases e
  | .dict _ :: _, _, _, e, _ => by cases e
def dJoin (da db : DE) : DE := fun env c P => da env c fun x c1 => datK x fun d => match d with
  | .str s => db env c1 fun y c2 => datK y fun e => match e with
    | .list ds => ∃ ys, strsOf ds = some ys ∧ (ys.map (·.length)).sum + ys.length * s.length ≤ 16777216 ∧ P (.dat (.str (Txt.join s ys))) c2
    | _ => False
  | _ => False
end
/-! ### a def that calls itself: a spec for each depth -/
section
variable {P : Program} {w : World} {K : PySem.W.Frag} {mg : Str → Option Value} {base : Heap}
def recSpec (N : Nat) (dt : Spec → DS) : Nat → Spec
  | 0 => fun _ _ _ => False
  | d + 1 => bodySpec N (dt (recSpec N dt d))
theorem defR_of {x qual : Str} {st : Stmt} {f : Addr} {fd : FuncData} {N ps : List Str} {k n : Nat} {dt : Spec → DS} (F : Fun K x qual st f fd) (S : FnScope N ps (defScope st)) (hm : mg x = some (.ref f)) (hb : Binds K fd ps []) (hn : ps.length = n)
    (h : ∀ (d : Nat) (sp : Spec), Def P w K mg base (k + d) x n sp → ∀ (cdv : Value) (A : Around) (outer : List Env) (s : Shared) (H : Hp) (E : En), Room (k + d) (A.deeper (envOfC qual (defScope st) s.heap.objs.size f cdv)) → (A.deeper (envOfC qual (defScope st) s.heap.objs.size f cdv)).guards = some [] →
      DPSs (bodyCx P w K mg base N qual st f cdv A outer s H) E (defBody st) (dt sp)) : ∀ d, Def P w K mg base (k + d) x n (recSpec N.length dt d)
  | 0 => ⟨f, fd, ps, ⟨fun vs H Q E q => by
      obtain ⟨g, c, args, P, _, _, ok, _, hl, _⟩ := q
      rw [VOks.len ok, hl, hn], fun A outer s H us vs Q _ _ _ _ _ q => by
      obtain ⟨g, c, args, P, _, _, ok, _, hl, z, _⟩ := q
      exact z.elim⟩, hm, F.kp, hb⟩
  | d + 1 => def_of (N := N) (k := k + d) F S hm hb hn (h d _ (defR_of F S hm hb hn h d))
end
end DL
set_option maxHeartbeats 2000000
namespace DL
open PySem PySem.Spec PyProof.Rows L2
/-! ### x == (), x != (), whatever the tuple x holds -/
def rEqNilT (K : PySem.W.Frag) : R2 := fun x y H Q => ∃ a b xs, x = .ref a ∧ y = .ref b ∧ SqT K H a xs ∧ SqT K H b [] ∧ Q (.bl xs.isEmpty) H
def rNeNilT (K : PySem.W.Frag) : R2 := fun x y H Q => ∃ a b xs, x = .ref a ∧ y = .ref b ∧ SqT K H a xs ∧ SqT K H b [] ∧ Q (.bl (!xs.isEmpty)) H
section
variable {X : Cx}
theorem nilT_key {us : List Value} {xs : List V} (hl : xs.length = us.length) : ((List.range (min us.toArray.size ([] : List Value).toArray.size)).all (fun _ => true) && us.toArray.size == ([] : List Value).toArray.size) = xs.isEmpty := by
  cases xs with
  | nil =>
    cases us with
    | nil => rfl
    | cons a l => simp at hl
  | cons b m =>
    cases us with
    | nil => simp at hl
    | cons a l => simp
theorem op_eqNilT (hu : X.A.units < cLine) : OpR X (compareOp .Eq) (rEqNilT X.K) := by
  intro pins s σ H x y v u Q I rx ry h
  obtain ⟨a, b, xs, rfl, rfl, h1, h2, q⟩ := h
  cases rx
  cases ry
  obtain ⟨its, r, hl, _⟩ := I.tuple h1
  obtain ⟨its2, r2, hl2, _⟩ := I.tuple h2
  cases r2
  have z := SeqAt.RcAt.tuples (A := X.A) (e := fun _ => true) hl hl2 hu (fun j h1 h2 => absurd h2 (by simp))
  rw [nilT_key r.length] at z
  exact z X.prog X.w X.xe _ ⟨.bl xs.isEmpty, H, I, rfl, q⟩
theorem op_neNilT (hu : X.A.units < cLine) : OpR X (compareOp .NotEq) (rNeNilT X.K) := by
  intro pins s σ H x y v u Q I rx ry h
  obtain ⟨a, b, xs, rfl, rfl, h1, h2, q⟩ := h
  cases rx
  cases ry
  obtain ⟨its, r, hl, _⟩ := I.tuple h1
  obtain ⟨its2, r2, hl2, _⟩ := I.tuple h2
  cases r2
  have z := SeqAt.RcNeAt.tuples (A := X.A) (e := fun _ => true) hl hl2 hu (fun j h1 h2 => absurd h2 (by simp))
  rw [nilT_key r.length] at z
  exact z X.prog X.w X.xe _ ⟨.bl (!xs.isEmpty), H, I, rfl, q⟩
end
def rdEqNilT : PyData → PyData → (PyData → Prop) → Prop := fun d e P => match d, e with
  | .tuple xs, .tuple [] => P (.bool xs.isEmpty)
  | _, _ => False
def rdNeNilT : PyData → PyData → (PyData → Prop) → Prop := fun d e P => match d, e with
  | .tuple xs, .tuple [] => P (.bool (!xs.isEmpty))
  | _, _ => False
theorem empty_dp {K : PySem.W.Frag} {F : Hp} {vs : List V} {ds : List PyData} (h : DpAll K F vs ds) : vs.isEmpty = ds.isEmpty := by cases h <;> rfl
theorem opd_eqNilT {K : PySem.W.Frag} : OpD K (rEqNilT K) rdEqNilT := by
  intro E g env c σ H x y d e P Q r hx hy q k
  unfold rdEqNilT at q
  split at q
  · cases hx with
    | tup s1 a1 =>
      cases hy with
      | tup s2 a2 =>
        cases a2
        refine ⟨_, _, _, rfl, rfl, seqT r.ex s1, seqT r.ex s2, ?_⟩
        rw [empty_dp a1]
        exact k _ g H _ q (Mv.refl g H) r (.bl _)
  · exact q.elim
theorem opd_neNilT {K : PySem.W.Frag} : OpD K (rNeNilT K) rdNeNilT := by
  intro E g env c σ H x y d e P Q r hx hy q k
  unfold rdNeNilT at q
  split at q
  · cases hx with
    | tup s1 a1 =>
      cases hy with
      | tup s2 a2 =>
        cases a2
        refine ⟨_, _, _, rfl, rfl, seqT r.ex s1, seqT r.ex s2, ?_⟩
        rw [empty_dp a1]
        exact k _ g H _ q (Mv.refl g H) r (.bl _)
  · exact q.elim
section
variable {X : Cx} {E : En} {a b : Expr} {da db : DE} {pos : Pos}
theorem de_eqNilT {k : Nat} (hr : Room k X.A) (ha : DPE X E a da) (hb : DPE X E b db) : DPE X E (.Compare a [.Eq] [b] pos) (dOp rdEqNilT da db) := de_cmp (op_eqNilT (room_line hr)) opd_eqNilT ha hb
theorem de_neNilT {k : Nat} (hr : Room k X.A) (ha : DPE X E a da) (hb : DPE X E b db) : DPE X E (.Compare a [.NotEq] [b] pos) (dOp rdNeNilT da db) := de_cmp (op_neNilT (room_line hr)) opd_neNilT ha hb
theorem dt_eqNilT {k : Nat} (hr : Room k X.A) (ha : DPE X E a da) (hb : DPE X E b db) : DPT X E (.Compare a [.Eq] [b] pos) (tVal (dOp rdEqNilT da db)) := dt_cmp (op_eqNilT (room_line hr)) opd_eqNilT ha hb
theorem dt_neNilT {k : Nat} (hr : Room k X.A) (ha : DPE X E a da) (hb : DPE X E b db) : DPT X E (.Compare a [.NotEq] [b] pos) (tVal (dOp rdNeNilT da db)) := dt_cmp (op_neNilT (room_line hr)) opd_neNilT ha hb
end
end DL
set_option maxHeartbeats 2000000
/-! max(x, key=len) of a list of tuples, [..] * n, own lists asked (in, index), sorted of a tuple, // by negatives -/
namespace DL
open PySem PySem.Spec PyProof.Rows L2
section
variable {prog : Program} {w : World} {A : Around} {E : Value → Shared → Prop} {s : Shared}
theorem max_len_raw {l : Addr} {its : Array Value} {Q : Value → Shared → Prop} (hh : A.handled = none) (hl : s.heap.IsList l its) (ln : Nat → Nat) (hne : 0 < its.size)
    (ht : ∀ (i : Nat) (v : Value), its[i]? = some v → ∃ (t : Addr) (xs : Array Value), v = .ref t ∧ IsTup s.heap t xs ∧ xs.size = ln i ∧ (xs.size : Int) < 2 ^ 63)
    (h : ∀ h' tk v, (∀ b o, s.heap.get? b = some o → h'.get? b = some o) → its[argBest (fun i j => decide (((ln i : Nat) : Int) > (ln j : Nat))) (its.size - 1)]? = some v → Q v { s with heap := h', toks := tk }) :
    wpAny (model prog w) A (call (.builtin "max") [.ref l] [(Str.ofString "key", .builtin "len")]) Q E s := by
  refine PySem.call_max_walkKB (PySem.W.iter_listW (A := A.in1) hh hl fun s₂ e W st hfp hw hk => ?_)
  subst e
  refine ⟨_, _, _, _, _, _, _, (fun s' => ∃ h' tk, s' = { s with heap := h', toks := tk } ∧ ∀ b o, s.heap.get? b = some o → h'.get? b = some o), (fun i k _ => ∃ t, k = .int ((ln i : Nat) : Int) t), (fun i j => decide (((ln i : Nat) : Int) > (ln j : Nat))), rfl, W, st, hfp, hne, ⟨?_, ?_, ?_, ?_⟩, ⟨_, s.toks, rfl, hk⟩, ?_⟩
  · intro s1 s' ⟨h1, tk1, e1, k1⟩ m
    subst e1
    refine ⟨s'.heap, s'.toks, ?_, fun b o e => m.heap b o (fun hb => ?_) (k1 b o e)⟩
    · obtain ⟨hp, g, d, tk, os⟩ := s'
      have h1 : g = s.gens := m.gens
      have h2 : d = s.drawn := m.drawn
      have h3 : os = s.os := m.os
      subst h1
      subst h2
      subst h3
      rfl
    · have hlt := Heap.lt_size e
      rcases List.mem_cons.mp hb with z | z
      · have hz : b = (s.heap.push _).objs.size := z
        rw [Heap.size_push] at hz
        rw [hz] at hlt
        exact absurd hlt (Nat.not_lt.mpr (Nat.le_succ _))
      · exact hw b o e z
  · intro i k s1 s' hv _
    exact hv
  · intro i v s1 o Q' E' hi hP ⟨h1, tk1, e1, k1⟩ hst hS hQ
    subst e1
    obtain ⟨t, xs, rfl, htup, hsz, h63⟩ := ht i v hP
    refine len_tuple (htup.keeps k1) h63 ?_
    refine hQ _ _ ⟨h1, _, rfl, k1⟩ ?_ hS ⟨_, by rw [hsz]⟩ (fun j k' hv => hv)
    exact W.frame (i + 1) _ h1 _ hst (by show tk1 ≤ tk1 + 1 + 1; omega) fun b _ o e => e
  · intro i j ki kj s1 Q' E' _ hi hj hq
    exact CmpOf.ints_gt (prog := prog) (w := w) (A := A.in1) (P := fun i v => ∃ t, v = .int ((ln i : Nat) : Int) t) (fun i => ((ln i : Nat) : Int)) (fun i v h => h) i j ki kj s1 Q' E' hi hj hq
  · intro v s' hP ⟨h1, tk1, e1, k1⟩
    subst e1
    exact h h1 tk1 v k1 hP
end
def tMaxLen (K : PySem.W.Frag) (te : TE) : TE := fun σ H Q => te σ H fun x H1 => ∃ (a : Addr) (xs : List V) (ln : Nat → Nat), x = .ref a ∧ SqL K H1 a xs ∧ 0 < xs.length ∧
  (∀ i v, xs[i]? = some v → ∃ t ys, v = .ref t ∧ SqT K H1 t ys ∧ ys.length = ln i) ∧ ∀ v, xs[argBest (fun i j => decide (((ln i : Nat) : Int) > (ln j : Nat))) (xs.length - 1)]? = some v → Q v H1
section
variable {X : Cx} {E : En} {a : Expr} {te : TE} {pos p1 p2 p3 : Pos}
theorem pe_maxLen (hm : X.mg "max" = none) (hml : X.mg "len" = none) (ha : PE X a te) (hc : X.calm = true := by rfl) (hg : Gl X "max" := by rfl) (hgl : Gl X "len" := by rfl)
    (hs : starEach [a] X.env = (false, eval a X.env) :: starEach [] X.env := by rfl)
    (he : backTo pos (starEach [a] X.env) = (false, eval a X.env) :: backTo pos (starEach [] X.env) := by rfl)
    (hpl : (backTo pos (starEach [a] X.env)).any (·.1) = false := by rfl) : PE X (.Call (.Name "max" p1) [a] [⟨some "key", .Name "len" p2, p3⟩] pos) (tMaxLen X.K te) := by
  refine ⟨fun pins s σ H Q I h => ?_⟩
  refine wpAny_Call_Name_kw (ld_blt I hg hm (u := .builtin "max") (by decide +kernel) ?_)
  refine PyProof.Rows.callWith_kw (thn ((pa_cons ha pa_nil hs).run pos pins s σ H (fun vs H1 => match vs with | [x] => (∃ (a : Addr) (xs : List V) (ln : Nat → Nat), x = .ref a ∧ SqL X.K H1 a xs ∧ 0 < xs.length ∧ (∀ i v, xs[i]? = some v → ∃ t ys, v = .ref t ∧ SqT X.K H1 t ys ∧ ys.length = ln i) ∧ ∀ v, xs[argBest (fun i j => decide (((ln i : Nat) : Int) > (ln j : Nat))) (xs.length - 1)]? = some v → Q v H1) | _ => False) I ?_) fun us s1 hq => ?_) he hpl
  · exact h
  · obtain ⟨vs, H1, I1, r1, hq⟩ := hq
    obtain ⟨x, rfl⟩ : ∃ x, vs = [x] := by
      match vs, hq with
      | [x], _ => exact ⟨x, rfl⟩
    obtain ⟨l, xs, ln, rfl, hl, hne, hts, hQ⟩ := hq
    show wpAny _ _ (evalAll ((do let v ← eval (.Name "len" p2) X.env; standAt pos; pure v) :: [])) _ _ s1
    refine wpAny_evalAll_cons (wpAny_bind (ld_blt I1 hgl hml (u := .builtin "len") (by decide +kernel) (wpAny_bind (wpAny_standAt (wpAny_pure ?_)))))
    refine wpAny_evalAll_nil ?_
    rw [Vals.ref1 r1]
    obtain ⟨its, rv, pl, hz⟩ := I1.list hl
    have hlen := rv.length
    refine max_len_raw (I1.ok.hd hc) pl.isList ln (by simpa using (by omega : 0 < its.length)) (fun i v hv => ?_) fun h' tk v hk hv => ?_
    · have hi : i < xs.length := by
        have := (List.getElem?_eq_some_iff.mp (by simpa using hv : its[i]? = some v)).1
        omega
      obtain ⟨u, hu, ru⟩ := rv.get (List.getElem?_eq_getElem hi)
      have e : u = v := Option.some.inj (hu.symm.trans (by simpa using hv))
      subst e
      obtain ⟨t, ys, e1, hq, hl2⟩ := hts i _ (List.getElem?_eq_getElem hi)
      rw [e1] at ru
      obtain rfl : u = .ref t := ru
      obtain ⟨ts, rt, pt, hzt⟩ := I1.tuple hq
      have := rt.length
      refine ⟨t, _, rfl, pt, by rw [List.size_toArray]; omega, ?_⟩
      have := line63
      simp only [List.size_toArray]
      omega
    · have hv' : its[argBest (fun i j => decide (((ln i : Nat) : Int) > (ln j : Nat))) (xs.length - 1)]? = some v := by
        rw [hlen]
        simpa using hv
      have hi := (List.getElem?_eq_some_iff.mp hv').1
      obtain ⟨u, hu, ru⟩ := rv.get (List.getElem?_eq_getElem (by omega : argBest (fun i j => decide (((ln i : Nat) : Int) > (ln j : Nat))) (xs.length - 1) < xs.length))
      have e : u = v := Option.some.inj (hu.symm.trans hv')
      subst e
      exact ⟨_, H1, I1.kept hk, ru, hQ _ (List.getElem?_eq_getElem (by omega))⟩
/-- the first one of the longest -/
def lenB (tss : List (List PyData)) : Nat := argBest (fun i j => decide ((((tss.getD i []).length : Nat) : Int) > ((tss.getD j []).length : Nat))) (tss.length - 1)
theorem lenB_lt {tss : List (List PyData)} (h : 0 < tss.length) : lenB tss < tss.length := by
  have := (argBest_gt (fun i => (((tss.getD i []).length : Nat) : Int)) (tss.length - 1)).1
  show argBest _ _ < _
  omega
theorem lenB_max {tss : List (List PyData)} {j : Nat} (h : j < tss.length) : (tss.getD j []).length ≤ (tss.getD (lenB tss) []).length := by
  have := (argBest_gt (fun i => (((tss.getD i []).length : Nat) : Int)) (tss.length - 1)).2 j (by omega)
  have e : argBest (fun i j => decide ((fun i => (((tss.getD i []).length : Nat) : Int)) i > (fun i => (((tss.getD i []).length : Nat) : Int)) j)) (tss.length - 1) = lenB tss := rfl
  rw [e] at this
  simpa using this
def dMaxLen (da : DE) : DE := fun env c P => da env c fun x c1 => datK x fun d => match d with
  | .list ds => ∃ tss : List (List PyData), ds = tss.map PyData.tuple ∧ 0 < tss.length ∧ P (.dat (.tuple (tss.getD (lenB tss) []))) c1
  | _ => False
theorem de_maxLen {da : DE} (hm : X.mg "max" = none) (hml : X.mg "len" = none) (ha : DPE X E a da) (hc : X.calm = true := by rfl) (hg : Gl X "max" := by rfl) (hgl : Gl X "len" := by rfl)
    (hs : starEach [a] X.env = (false, eval a X.env) :: starEach [] X.env := by rfl)
    (he : backTo pos (starEach [a] X.env) = (false, eval a X.env) :: backTo pos (starEach [] X.env) := by rfl)
    (hpl : (backTo pos (starEach [a] X.env)).any (·.1) = false := by rfl) : DPE X E (.Call (.Name "max" p1) [a] [⟨some "key", .Name "len" p2, p3⟩] pos) (dMaxLen da) := by
  refine pe_imp (pe_maxLen hm hml ha hc hg hgl hs he hpl) fun σ H Q h => ?_
  obtain ⟨g, env, c, P, rel, q, k⟩ := h
  refine ⟨g, env, c, _, rel, q, fun x c1 g1 H1 v p1 m1 r1 o1 f1 => ?_⟩
  cases x with
  | deck => exact p1.elim
  | exc _ => exact p1.elim
  | own l => exact p1.elim
  | dat d =>
    cases d <;> try exact p1.elim
    rename_i ds
    have o1 : Dp X.K g1.F v (.list ds) := o1
    obtain ⟨tss, rfl, h0, hP⟩ := p1
    cases o1 with
    | @lst b xs _ hsq hal =>
      have hl : xs.length = tss.length := by rw [DpAll.len hal, List.length_map]
      have at_ : ∀ i, i < xs.length → ∃ v, xs[i]? = some v ∧ Dp X.K g1.F v (.tuple (tss.getD i [])) := fun i hi => by
        obtain ⟨v, e1, e2⟩ := DpAll.get (i := i) (d := .tuple (tss.getD i [])) hal (by
          have : i < tss.length := by omega
          simp [List.getD, this])
        exact ⟨v, e1, e2⟩
      refine ⟨b, xs, fun i => (tss.getD i []).length, rfl, r1.ex.seq hsq, by omega, fun i v hv => ?_, fun v hv => ?_⟩
      · obtain ⟨u, e1, e2⟩ := at_ i (List.getElem?_eq_some_iff.mp hv).1
        rw [hv] at e1
        cases e1
        cases e2 with
        | tup s2 a2 => exact ⟨_, _, rfl, seqT r1.ex s2, DpAll.len a2⟩
      · rw [hl] at hv
        obtain ⟨u, e1, e2⟩ := at_ (lenB tss) (by rw [hl]; exact lenB_lt h0)
        have e3 : xs[lenB tss]? = some v := hv
        rw [e3] at e1
        cases e1
        exact k _ c1 g1 H1 _ hP m1 r1 e2 trivial
/-! ### [..] * n -/
def fRep (dt : DF) (db : DE) : DF := fun env c P => dt env c fun l c1 => db env c1 fun y c2 => datK y fun e => intK e fun k => (0 ≤ k ∧ k < 2 ^ 63 ∧ l.length * k.toNat ≤ sizeLine) ∧ P (List.replicate k.toNat l).flatten c2
theorem df_rep {b : Expr} {db : DE} {dt : DF} (h : DPF X E a dt) (hb : DPE X E b db) : DPF X E (.BinOp a .Mult b pos) (fRep dt db) := by
  refine pe_imp (pe_op op_rep h hb) fun σ H Q h => ?_
  obtain ⟨g, env, c, P, rel, q, k⟩ := h
  refine ⟨g, env, c, _, rel, q, fun l c1 g1 H1 p xs hl m1 r1 hp hp' hF ha => ⟨g1, env, c1, _, r1, hl, fun y c2 g2 H2 u p2 m2 r2 o2 f2 => ?_⟩⟩
  have fr := (Frs.of rel m1 hp hp' hF ha).mv m2
  obtain ⟨ys, h5, h6⟩ := fr.at_
  cases y with
  | deck => exact p2.elim
  | exc _ => exact p2.elim
  | own l => exact p2.elim
  | dat e =>
    cases e <;> try exact p2.elim
    rename_i i
    have o2 : Dp X.K g2.F u (.int i) := o2
    obtain ⟨⟨h1, h2, h3⟩, p2⟩ := p2
    rw [dp_int o2]
    exact ⟨p, i, ys, rfl, rfl, h5, by omega, h2, by rw [DpAll.len h6]; exact h3, fun p' hp' => fresh_end k p2 (m1.trans m2) r2 (h6.rep i.toNat) p' hp'⟩
end
/-! ### x in l, l.index(x), of a list of one's own -/
def dOwnIn (i : Nat) (da : DE) : DE := fun env c P => da env c fun x c1 => datK x fun d => match env[i]? with
  | some (some (.own l)) => flatP d = true ∧ l.all flatP = true ∧ P (.dat (.bool (l.any fun y => eqP y d))) c1
  | _ => False
def dOwnIdx (i : Nat) (da : DE) : DE := fun env c P => match env[i]? with
  | some (some (.own l)) => da env c fun x c1 => datK x fun d => flatP d = true ∧ l.all flatP = true ∧ ∃ (j : Nat) (z : PyData), l[j]? = some z ∧ eqP z d = true ∧ (∀ (m : Nat) (z' : PyData), m < j → l[m]? = some z' → eqP z' d = false) ∧ P (.dat (.int (j : Nat))) c1
  | _ => False
section
variable {X : Cx} {E : En} {a : Expr} {da : DE} {pos : Pos}
theorem ownIn_up {K : PySem.W.Frag} {i : Nat} {σ : L2.St} {H : Hp} {Q : VK} (h : up K E (dOwnIn i da) σ H Q) : tOp (rIn K false) (up K E da) (tVar i) σ H Q := by
  obtain ⟨g, env, c, P, rel, q, k⟩ := h
  refine ⟨g, env, c, _, rel, q, fun x c1 g1 H1 v p1 m1 r1 o1 f1 => ?_⟩
  cases x with
  | deck => exact p1.elim
  | exc _ => exact p1.elim
  | own l => exact p1.elim
  | dat d =>
    have o1 : Dp K g1.F v d := o1
    have p1 : (match env[i]? with
      | some (some (.own l)) => flatP d = true ∧ l.all flatP = true ∧ P (.dat (.bool (l.any fun y => eqP y d))) c1
      | _ => False) := p1
    split at p1
    · rename_i l e
      obtain ⟨u, e1, p, xs, rfl, h3, h4, h5, h6⟩ := r1.sl i _ e
      refine ⟨_, e1, p, xs, rfl, .inl (.of h5), flat_dp o1 p1.1, flats_dp h6 p1.2.1, ?_⟩
      show Q (.bl (inV v xs)) H1
      rw [in_dp o1 p1.1 h6 p1.2.1]
      exact k _ c1 g1 H1 _ p1.2.2 m1 r1 (.bl _) trivial
    · exact p1.elim
theorem de_ownIn (i : Nat) {x : Str} {p1 : Pos} (ha : DPE X E a da) (hN : X.N[i]? = some x := by rfl) (hv : Vis X.env.scope x := by first | exact Or.inl rfl | exact Or.inr (Or.inl rfl) | exact Or.inr (Or.inr rfl)) (h1 : (x == ("__debug__" : Str)) = false := by decide)
    (h2 : (x == ("__classdict__" : Str)) = false := by decide) (hm : behindInMarks .In (.Name x p1) = false := by rfl) : DPE X E (.Compare a [.In] [.Name x p1] pos) (dOwnIn i da) :=
  pe_imp (pe_cmpR op_in_seq ha (pe_var hN hv h1 h2) hm) fun _ _ _ h => ownIn_up h
theorem dt_ownIn (i : Nat) {x : Str} {p1 : Pos} (ha : DPE X E a da) (hN : X.N[i]? = some x := by rfl) (hv : Vis X.env.scope x := by first | exact Or.inl rfl | exact Or.inr (Or.inl rfl) | exact Or.inr (Or.inr rfl)) (h1 : (x == ("__debug__" : Str)) = false := by decide)
    (h2 : (x == ("__classdict__" : Str)) = false := by decide) (hm : behindInMarks .In (.Name x p1) = false := by rfl) : DPT X E (.Compare a [.In] [.Name x p1] pos) (tVal (dOwnIn i da)) :=
  pt_imp (pt_cmpR op_in_seq ha (pe_var hN hv h1 h2) hm) fun _ _ _ h => tB_up (fun _ _ _ h => ownIn_up h) h
theorem de_ownIdx (i : Nat) {x : Str} {p1 p2 p3 : Pos} (h : DPE X E a da) (hN : X.N[i]? = some x := by rfl) (hv : Vis X.env.scope x := by first | exact Or.inl rfl | exact Or.inr (Or.inl rfl) | exact Or.inr (Or.inr rfl)) (h1 : (x == ("__debug__" : Str)) = false := by decide)
    (h2 : (x == ("__classdict__" : Str)) = false := by decide) (hb : attributeBase (.Name x p1) "index" X.env (eval (.Name x p1) X.env) = eval (.Name x p1) X.env := by rfl)
    (hfew : ((backTo p3 (starEach [a] X.env)).all (fun x => !x.1) && (backToKw p3 (keywordEach [] X.env)).all (fun x => x.1.isSome) && decide ([a].length + ([] : List Keyword).length + (if ([] : List Keyword).isEmpty then 0 else 1) < 30)) = true := by rfl)
    (hline : (p2.endLine == p3.line) = true := by rfl) (he : starEach [a] X.env = (false, eval a X.env) :: starEach [] X.env := by rfl) (hpl : (backTo p3 (starEach [] X.env)).any (·.1) = false := by rfl) :
    DPE X E (.Call (.Attribute (.Name x p1) "index" p2) [a] [] p3) (dOwnIdx i da) := by
  refine pe_imp (pe_bm PySem.F.plainAttrs_list PySem.F.slot_list_index PySem.F.type_list_index mt_index (pe_var hN hv h1 h2) (pa_cons h pa_nil he) hb hfew hline he hpl) fun σ H Q h => ?_
  obtain ⟨g, env, c, P, rel, q, k⟩ := h
  unfold dOwnIdx at q
  split at q
  · rename_i l e
    obtain ⟨v, e1, p, xs, rfl, h3, h4, h5, h6⟩ := rel.sl i _ e
    refine ⟨_, e1, .inl ⟨rfl, _, .of h5⟩, g, env, c, _, rel, q, fun y c1 g1 H1 w p1 m1 r1 o1 f1 => ?_⟩
    cases y with
    | deck => exact p1.elim
    | exc _ => exact p1.elim
    | own l => exact p1.elim
    | dat d =>
      have o1 : Dp X.K g1.F w d := o1
      obtain ⟨q1, q2, j, z, q3, q4, q5, q6⟩ := p1
      have h5' := m1.fr p _ h5 h4
      have h6' := dpAll_mono m1.f h6
      obtain ⟨u, e2, e3⟩ := h6'.get q3
      have fl : ∀ {y : PyData}, y ∈ l → flatP y = true := fun {y} hy => List.all_eq_true.mp q2 y hy
      refine ⟨p, xs, w, j, u, rfl, rfl, .of h5', flat_dp o1 q1, flats_dp h6' q2, e2, ?_, fun m z' hm hz => ?_, k _ c1 g1 H1 _ q6 m1 r1 (.int _) trivial⟩
      · rw [eq_dp e3 o1 (fl (List.mem_of_getElem? q3)) q1]
        exact q4
      · obtain ⟨d', e4, e5⟩ := h6'.getV hz
        rw [eq_dp e5 o1 (fl (List.mem_of_getElem? e4)) q1]
        exact q5 m d' hm e4
  · exact q.elim
/-! ### a // b, b of any sign -/
abbrev rdDivN := rdIc CDivN fun i j => .int (i.fdiv j)
theorem de_divN {b : Expr} {db : DE} (ha : DPE X E a da) (hb : DPE X E b db) : DPE X E (.BinOp a .FloorDiv b pos) (dOp rdDivN da db) := de_op op_fdivN (opd_I fun _ _ _ _ => .int _) ha hb
end
end DL
set_option maxHeartbeats 2000000
/-! sorted(t), t a tuple of ints -/
namespace DL
open PySem PySem.Spec PyProof.Rows L2
section
variable {prog : Program} {w : World} {A : Around} {E : Value → Shared → Prop} {s : Shared}
theorem collect_tup {t : Addr} {us : List Value} {Q : List Value → Shared → Prop} (ht : IsTup s.heap t us.toArray) (hz : us.length ≤ sizeLine)
    (h : Q us { s with heap := (s.heap.push (seqObj "list" #[] 0)).update s.heap.objs.size (Obj.mapSeq (· ++ us.toArray)) }) : wpAny (model prog w) A (collect (.ref t)) Q E s := by
  obtain ⟨ob, e1, e2, m, e3⟩ := id ht
  unfold collect
  refine wpAny_bind (wpAny_runValue (codeAny_builtin entry_proto_collect' ?_))
  show wpAny _ _ (do again (.builtin "list.__iadd__" ⟨[← newList [], .ref t], []⟩)) _ _ s
  refine wpAny_bind (wpAny_newList (wpAny_pure ⟨Code.quiet_builtin _ (by decide +kernel), codeAny_builtin entry_list_iadd' ?_⟩))
  show wpAny _ _ (Builtin.List.listExtendWith (.ref s.heap.objs.size) (.ref t) (.ref s.heap.objs.size)) _ _ { s with heap := s.heap.push (seqObj "list" #[] 0) }
  unfold Builtin.List.listExtendWith
  have e1' : (s.heap.push (seqObj "list" #[] 0)).get? t = some ob := Heap.get?_push_of_some _ e1
  refine wpAny_bind (wpAny_typeOf (T := "tuple") ⟨ob, e1', e2⟩ ?_)
  have q : (Value.type "tuple" == Value.type "tuple") = true := by rfl
  rw [if_pos (by rw [q]; simp)]
  refine wpAny_bind (listItems_at e1' e3 ?_)
  refine wpAny_bind (listItems_at (n := 0) (xs := #[]) (Heap.get?_push_size _ rfl) rfl ?_)
  rw [if_neg (by simp)]
  refine wpAny_bind (listUpdate_at (n := 0) (xs := #[]) (Heap.get?_push_size _ rfl) rfl ?_ (Nat.zero_le _) (by show (#[] ++ us.toArray).size ≤ sizeLine + 1; simp only [Array.size_append, List.size_toArray, List.length_nil]; omega))
  refine wpAny_pure ?_
  show wpAny (model prog w) A (do
      let ob ← load s.heap.objs.size
      match ob.data with
      | .seq xs _ => pure xs.toList
      | _ => unsupported "internal:collect") Q E { s with heap := (s.heap.push (seqObj "list" #[] 0)).update s.heap.objs.size (Obj.mapSeq (· ++ us.toArray)) }
  refine wpAny_bind (wpAny_load (get?_update_seq (Heap.get?_push_size _ rfl) _) ?_)
  show wpAny _ _ (pure ((#[] : Array Value) ++ us.toArray).toList) Q E _
  rw [show ((#[] : Array Value) ++ us.toArray).toList = us by simp]
  exact wpAny_pure h
theorem sorted_tup {t : Addr} {us : List Value} {ns : List Int} {Q : Value → Shared → Prop} (ht : IsTup s.heap t us.toArray) (hI : IntsAre us ns) (h64 : us.length < 64)
    (h : ∀ (out : Array Value) (ms : List Int), IntsAre out.toList ms → ms.Perm ns → ms.Pairwise (· ≤ ·) → Q (.ref (s.heap.objs.size + 1)) { s with heap := sortedAll s.heap us out }) : wpAny (model prog w) A (call (.builtin "sorted") [.ref t]) Q E s := by
  refine Calls.call_function_entry kind_sorted plain_sorted entry_sorted (args_sorted1 _) ?_
  unfold Builtin.«sorted»
  refine wpAny_bind (m := checkCount "sorted" 1 1 _) (wpAny_pure ?_)
  refine wpAny_bind (collect_tup ht (by rw [sizeLine_eq]; omega) ?_)
  refine wpAny_bind (wpAny_newList ?_ (by rw [sizeLine_eq]; omega))
  have z1 : ((s.heap.push (seqObj "list" #[] 0)).update s.heap.objs.size (Obj.mapSeq (· ++ us.toArray))).objs.size = s.heap.objs.size + 1 := by
    rw [Heap.size_update, size_push']
  have z2 : (((s.heap.push (seqObj "list" #[] 0)).update s.heap.objs.size (Obj.mapSeq (· ++ us.toArray))).push (seqObj "list" us.toArray 0)).get? (s.heap.objs.size + 1) = some (seqObj "list" us.toArray 0) := by
    rw [← z1]; exact Heap.get?_push_size _ rfl
  show wpAny _ _ _ _ _ { s with heap := ((s.heap.push (seqObj "list" #[] 0)).update s.heap.objs.size (Obj.mapSeq (· ++ us.toArray))).push (seqObj "list" us.toArray 0) }
  rw [z1]
  refine wpAny_bind (wpAny_holding (wpAny_call_entry slot_list_sort ⟨_, z2, rfl⟩ entry_list_sort (list_sort_tree z2 hI h64 fun out ms a1 a2 a3 => ⟨_, rfl, ?_⟩) (args_list_sort _)))
  exact wpAny_pure ⟨_, rfl, h out ms a1 a2 a3⟩
end
def rSortedU (K : PySem.W.Frag) : List V → Hp → VK → Prop := fun vs H Q => ∃ (a : Addr) (ns : List Int), vs = [V.ref a] ∧ SqT K H a (ns.map V.int) ∧ ns.length < 64 ∧
  ∀ (ms : List Int) (p : Addr), ms.Perm ns → ms.Pairwise (· ≤ ·) → H p = none → Q (.ref p) (upd H p (.lst (ms.map V.int)))
theorem cr_sortedU {X : Cx} : CallR X (.builtin "sorted") (rSortedU X.K) := by
  intro pins s σ H vs us Q I r h
  obtain ⟨a, ns, rfl, hs, h64, q⟩ := h
  obtain ⟨its, rv, hl, _⟩ := I.tuple hs
  rw [Vals.ref1 r]
  have hi := rv.ints
  refine sorted_tup hl hi (by rw [hi.length]; exact h64) fun out ms h1 h2 h3 => ?_
  obtain ⟨ep, he'⟩ := PyProof.Rows.sortedAll_at s.heap its out
  have hlen : (ms.map V.int).length ≤ sizeLine := by
    rw [List.length_map, h2.length_eq]
    exact small64 h64
  exact ⟨.ref _, upd H (s.heap.objs.size + 1) (.lst (ms.map V.int)), I.laid (t' := s.toks) (fun _ _ => PyProof.Rows.sortedAll_old) (Nat.le_succ _) ⟨hlen, out.toList, ep, vals_of_ints h1, he'⟩, rfl, q ms _ h2 h3 (I.hok.fresh (Nat.le_succ _))⟩
def rdSortedA : List PyData → (PyData → Prop) → Prop := fun ds P => match ds with
  | [.list xs] => ∃ ns, intsOf xs = some ns ∧ ns.length < 64 ∧ ∀ ms : List Int, ms.Perm ns → ms.Pairwise (· ≤ ·) → P (.list (dInts ms))
  | [.tuple xs] => ∃ ns, intsOf xs = some ns ∧ ns.length < 64 ∧ ∀ ms : List Int, ms.Perm ns → ms.Pairwise (· ≤ ·) → P (.list (dInts ms))
  | _ => False
theorem cd_sortedA {K : PySem.W.Frag} : CallD K (fun xs H Q => rSorted K xs H Q ∨ rSortedU K xs H Q) rdSortedA := by
  intro E g env c σ H xs ds P Q r h q k
  unfold rdSortedA at q
  split at q
  · cases h with
    | cons h1 t =>
      cases t
      cases h1 with
      | lst hs ha =>
        obtain ⟨ns, e, hl, q⟩ := q
        have ex := intsOf_dp e ha
        subst ex
        refine .inl ⟨_, ns, rfl, r.ex.seq hs, hl, fun ms p h1 h2 hp => ?_⟩
        obtain ⟨r2, m2⟩ := r.new (.lst (ms.map V.int)) hp
        exact k _ _ _ _ (q ms h1 h2) m2 r2 (.lst (.of upd_same) (dpAll_ints ms))
  · cases h with
    | cons h1 t =>
      cases t
      cases h1 with
      | tup hs ha =>
        obtain ⟨ns, e, hl, q⟩ := q
        have ex := intsOf_dp e ha
        subst ex
        refine .inr ⟨_, ns, rfl, seqT r.ex hs, hl, fun ms p h1 h2 hp => ?_⟩
        obtain ⟨r2, m2⟩ := r.new (.lst (ms.map V.int)) hp
        exact k _ _ _ _ (q ms h1 h2) m2 r2 (.lst (.of upd_same) (dpAll_ints ms))
  · exact q.elim
end DL
set_option maxHeartbeats 2000000
/-! a, b = e, e a list -/
namespace DL
open PySem PySem.Spec PyProof.Rows L2
def gLi (n : Nat) (u : DGs) : DG := fun x env k => datK x fun d => match d with
  | .list ds => ds.length = n ∧ u ds env k
  | _ => False
section
variable {X : Cx} {E : En} {pos : Pos}
theorem dg_lst {es : List Expr} {kk : Nat} {t : DGs} {n : Nat} {ws : List Nat} (h : DPGs X E ws es t) (hc : X.calm = true := by rfl)
    (hn : (assignEach es X.env).length = n := by rfl) (hst : (assignEach es X.env).findIdx? (·.1) = none := by rfl) : DPG X E ws (.Tuple es kk pos) (gLi n t) := by
  refine pg_imp (pg_unl hc h hn hst) fun v σ H Q h => ?_
  obtain ⟨g, env, c, x, P, rel, o, f, q, k⟩ := h
  cases x with
  | deck => exact q.elim
  | exc _ => exact q.elim
  | own l => exact f.elim
  | dat d =>
    cases d <;> try exact q.elim
    rename_i ds
    have o : Dp X.K g.F v (.list ds) := o
    cases o with
    | lst hs ha => exact ⟨_, _, rfl, rel.ex.seq hs, (DpAll.len ha).trans q.1, g, env, c, ds, _, rel, ha, q.2, k⟩
end
/-! ### a, b, c = e, f, [..]: the last a list of one's own -/
def sPar3F (i j l : Nat) (da db : DE) (dt : DF) : DS := fun D env c => da env c fun x c1 => db env c1 fun y c2 => dt env c2 fun m c3 => D.nx (((env.set l (some (.own m))).set i (some x)).set j (some y)) c3
section
variable {X : Cx} {E : En} {a b e : Expr} {da db : DE} {pos px py pz pt : Pos} {kt : Nat} {k2 : Nat} {pt2 : Pos} {x y z : Str}
theorem ds_par3F (i j l : Nat) {dt : DF} (hN : X.N.Nodup) (ha : DPE X E a da) (hb : DPE X E b db) (hf : DPF X E e dt) (hij : i ≠ j := by decide) (hil : i ≠ l := by decide) (hjl : j ≠ l := by decide) (hi : X.N[i]? = some x := by rfl) (hj : X.N[j]? = some y := by rfl) (hl : X.N[l]? = some z := by rfl)
    (hx : X.env.scope.names.lookup x = some .local := by rfl) (hy : X.env.scope.names.lookup y = some .local := by rfl) (hz : X.env.scope.names.lookup z = some .local := by rfl) (hc : X.calm = true := by rfl)
    (hw : swappedStores [.Tuple [.Name x px, .Name y py, .Name z pz] kt pt] (.Tuple [a, b, e] k2 pt2) X.env = pure (some [x, y, z]) := by rfl)
    (hs : swapsWithSole [.Tuple [.Name x px, .Name y py, .Name z pz] kt pt] (.Tuple [a, b, e] k2 pt2) pos.line X.env = pure false := by rfl)
    (he : starEach [a, b, e] X.env = (false, eval a X.env) :: starEach [b, e] X.env := by rfl) (he2 : starEach [b, e] X.env = (false, eval b X.env) :: starEach [e] X.env := by rfl) (he3 : starEach [e] X.env = (false, eval e X.env) :: starEach [] X.env := by rfl) :
    DPS X E (.Assign [.Tuple [.Name x px, .Name y py, .Name z pz] kt pt] (.Tuple [a, b, e] k2 pt2) pos) (sPar3F i j l da db dt) := by
  refine ps_imp (ps_par3 hc hN hi hj hl hij hil hjl hx hy hz (pa_cons ha (pa_cons hb (pa_cons hf pa_nil he3) he2) he) hw hs) fun D σ H h => ?_
  obtain ⟨g, env, c, P, rel, q, k, _⟩ := h
  refine ⟨g, env, c, _, rel, q, fun u c1 g1 H1 v p1 m1 r1 o1 f1 => ⟨g1, env, c1, _, r1, p1, fun u2 c2 g2 H2 v2 p2 m2 r2 o2 f2 => ⟨g2, env, c2, _, r2, p2, fun m c3 g3 H3 p xs hm m3 r3 hp hp' hF hal => ⟨v, v2, .ref p, rfl, ?_⟩⟩⟩⟩
  refine k _ c3 g3 _ H3 hm (m1.f.trans (m2.f.trans m3.f)) ?_
  rw [List.set_comm (l := σ.set i (some v)) _ _ hjl, List.set_comm (l := σ) _ _ hil]
  exact ((r3.takeOwn l (Frs.of r2 m3 hp hp' hF hal)).set i (VOk.mono (m2.trans m3).toMo f1 o1) f1).set j (VOk.mono m3.toMo f2 o2) f2
end
end DL
set_option maxHeartbeats 2000000
/-! tuple(range(n)), list(range(n)), list * n -/
namespace DL
open PySem PySem.Spec PyProof.Rows L2
theorem dpAll_rg {K : PySem.W.Frag} {F : Hp} (n : Int) : DpAll K F (rgV 0 n) (rangeD 0 n.toNat) := by
  unfold rgV rangeD
  rw [show (n - 0).toNat = n.toNat by rw [Int.sub_zero]]
  generalize List.range n.toNat = l
  induction l with
  | nil => exact .nil
  | cons k l ih => exact .cons (.int _) ih
def rdTupRg : PyData → (PyData → Prop) → Prop := fun d P => match d with
  | .int n => 0 ≤ n ∧ n ≤ 16777216 ∧ P (.tuple (rangeD 0 n.toNat))
  | _ => False
def rdLstRg : PyData → (PyData → Prop) → Prop := fun d P => match d with
  | .int n => 0 ≤ n ∧ n ≤ 16777216 ∧ P (.list (rangeD 0 n.toNat))
  | _ => False
section
variable {X : Cx} {E : En} {a : Expr} {p1 p2 pos pos2 : Pos}
theorem de_tupRg {da : DE} (hmr : X.mg "range" = none) (hmt : X.mg "tuple" = none) (ha : DPE X E a da) (hc : X.calm = true := by rfl) (hgr : Gl X "range" := by rfl) (hgt : Gl X "tuple" := by rfl)
    (na : starEach [a] X.env = (false, eval a X.env) :: starEach [] X.env := by rfl)
    (nb : starEach [.Call (.Name "range" p1) [a] [] pos] X.env = (false, eval (.Call (.Name "range" p1) [a] [] pos) X.env) :: starEach [] X.env := by rfl) :
    DPE X E (.Call (.Name "tuple" p2) [.Call (.Name "range" p1) [a] [] pos] [] pos2) (dUn rdTupRg da) := by
  refine pe_imp (pe_tupRg hc hgt hmt (prg_1 hgr hmr ha na) nb) fun σ H Q h => ?_
  obtain ⟨g, env, c, P, rel, q, k⟩ := h
  refine ⟨g, env, c, _, rel, q, fun x c1 g1 H1 v p1 m1 r1 o1 f1 => ?_⟩
  cases x with
  | deck => exact p1.elim
  | exc _ => exact p1.elim
  | own l => exact p1.elim
  | dat d =>
    cases d <;> try exact p1.elim
    rename_i n
    have o1 : Dp X.K g1.F v (.int n) := o1
    obtain ⟨h0, h1, hP⟩ := p1
    cases o1
    refine ⟨n, rfl, .of_le (Int.le_refl _) h1 (by decide) h0, fun b hb => ?_⟩
    obtain ⟨r2, m2⟩ := r1.new (.tup (rgV 0 n)) hb
    exact k _ _ _ _ _ hP (m1.trans m2) r2 (Dp.tup (.of upd_same) (dpAll_rg n)) trivial
theorem de_lstRg {da : DE} (hmr : X.mg "range" = none) (hmt : X.mg "list" = none) (ha : DPE X E a da) (hc : X.calm = true := by rfl) (hgr : Gl X "range" := by rfl) (hgt : Gl X "list" := by rfl)
    (na : starEach [a] X.env = (false, eval a X.env) :: starEach [] X.env := by rfl)
    (nb : starEach [.Call (.Name "range" p1) [a] [] pos] X.env = (false, eval (.Call (.Name "range" p1) [a] [] pos) X.env) :: starEach [] X.env := by rfl) :
    DPE X E (.Call (.Name "list" p2) [.Call (.Name "range" p1) [a] [] pos] [] pos2) (dUn rdLstRg da) := by
  refine pe_imp (pe_listRg hc hgt hmt (prg_1 hgr hmr ha na) nb) fun σ H Q h => ?_
  obtain ⟨g, env, c, P, rel, q, k⟩ := h
  refine ⟨g, env, c, _, rel, q, fun x c1 g1 H1 v p1 m1 r1 o1 f1 => ?_⟩
  cases x with
  | deck => exact p1.elim
  | exc _ => exact p1.elim
  | own l => exact p1.elim
  | dat d =>
    cases d <;> try exact p1.elim
    rename_i n
    have o1 : Dp X.K g1.F v (.int n) := o1
    obtain ⟨h0, h1, hP⟩ := p1
    cases o1
    refine ⟨n, rfl, .of_le (Int.le_refl _) h1 (by decide) h0, fun b hb => ?_⟩
    obtain ⟨r2, m2⟩ := r1.new (.lst (rgV 0 n)) hb
    exact k _ _ _ _ _ hP (m1.trans m2) r2 (Dp.lst (.of upd_same) (dpAll_rg n)) trivial
end
/-! ### a list times an int -/
theorem int_rmulW (a : Int) (t : Tok) (l : Addr) (items : Array Value) (n : Nat) (dd sl) :
    Meets (Builtin.«int.__rmul__» ⟨[.int a t, .ref l], []⟩) (fun _ R s => s.heap.get? l = some { cls := .type "list", dict := dd, data := .seq items n, slots := sl } ∧ R (.ok (.ret Value.notImplemented)) s) :=
  .of_wp fun prog w A R s h => by obtain ⟨hp, g, d, tk, os⟩ := s; obtain ⟨hl, h⟩ := h; wp_walk; exact ⟨_, rfl, h⟩
theorem list_mulW (l : Addr) (items : Array Value) (n : Nat) (x : Int) (u : Tok) (dd sl) (hc0 : ¬(!Builtin.List.listFitsIndex x) = true) (hc1 : ¬items.size * x.toNat > (2 ^ 63 - 1) / 8) (hc2 : ¬Builtin.List.listTooLong (items.size * x.toNat) = true) :
    Meets (Builtin.«list.__mul__» ⟨[.ref l, .int x u], []⟩) (fun _ R s => s.heap.get? l = some { cls := .type "list", dict := dd, data := .seq items n, slots := sl } ∧ R (.ok (.ret (Value.ref s.heap.objs.size))) { s with heap := s.heap.push { cls := Value.type "list", data := Data.seq (List.foldl (fun x1 x2 => x1 ++ x2) #[] (List.replicate (if items.isEmpty = true then 0 else x.toNat) items)) }, toks := s.toks }) :=
  .of_wp fun prog w A R s h => by
    obtain ⟨hp, g, d, tk, os⟩ := s; obtain ⟨hl, h⟩ := h
    have hsz := AutoListH.joined_fits hc2
    wp_walk; refine wpAny_ite_false (decide_eq_false (Nat.not_lt.mpr hsz)) ?_; wp_walk; exact ⟨_, rfl, h⟩
def rRepL (K : PySem.W.Frag) : R2 := fun x y H Q => ∃ l k xs, x = .ref l ∧ y = .int k ∧ SqL K H l xs ∧ -(2 ^ 63) ≤ k ∧ k < 2 ^ 63 ∧ xs.length * k.toNat ≤ sizeLine ∧
  ∀ p, H p = none → Q (.ref p) (upd H p (.lst (List.replicate k.toNat xs).flatten))
section
variable {X : Cx}
theorem op_repL : OpR X (binaryOp .Mult) (rRepL X.K) := by
  intro pins s σ H x y v u Q I rx ry h
  obtain ⟨l, k, xs, rfl, rfl, hH, h1, h2, hz, q⟩ := h
  cases rx
  obtain ⟨t, rfl⟩ := ry
  obtain ⟨its, r, ⟨⟨cls, dd, data, sl⟩, n, e, hc, _, hd⟩, hl⟩ := I.list hH
  simp only at hc hd
  subst hc hd
  have hl := r.length
  have hlen : its.toArray.size * k.toNat ≤ sizeLine := by rw [List.size_toArray, ← hl]; exact hz
  have hcap : ¬ its.toArray.size * k.toNat > (2 ^ 63 - 1) / 8 := by
    have : (sizeLine : Nat) ≤ (2 ^ 63 - 1) / 8 := by decide
    omega
  have hfit : ¬ (!Builtin.List.listFitsIndex k) = true := by
    rw [fitsIndex_both h1 h2]
    exact Bool.false_ne_true
  have hlong : ¬ Builtin.List.listTooLong (its.toArray.size * k.toNat) = true := by
    rw [notLongL hlen]
    exact Bool.false_ne_true
  have hnew : List.foldl (fun x1 x2 => x1 ++ x2) #[] (List.replicate (if its.toArray.isEmpty = true then 0 else k.toNat) its.toArray) = (List.replicate k.toNat its).flatten.toArray := by
    have f0 : ∀ m : Nat, List.foldl (fun x1 x2 => x1 ++ x2) #[] (List.replicate m its.toArray) = (List.replicate m its).flatten.toArray := fun m => by
      have := foldl_rep its m []
      rw [List.nil_append] at this
      exact this
    rw [f0]
    cases its with
    | nil => simp
    | cons a r' => rw [if_neg (by simp)]
  refine wpAny_binaryOp_repeat_ref (T := "list") (U := "int") (by decide) ⟨_, e, rfl⟩ (fun s' => typeIs_int s' k t) noFill_list_mul PySem.F.fills_int_mul PySem.F.slot_int_rmul repeat_list PySem.F.slot_int_index.lookup
    (call_meets PySem.F.slot_int_rmul (typeIs_int s k t) PySem.F.entry_int_rmul (PySem.F.args_int_rmul_2 _ _) (int_rmulW k t l its.toArray n dd sl)
      ⟨e, rfl, ⟨_, e, rfl⟩, call_meets PySem.F.slot_list_mul ⟨_, e, rfl⟩ PySem.F.entry_list_mul (PySem.F.args_list_mul_2 _ _) (list_mulW l its.toArray n k t dd sl hfit hcap hlong) ⟨e, ?_⟩⟩)
  rw [hnew]
  exact ⟨.ref _, _, I.lnew (t' := s.toks) (r.rep k.toNat) (by rw [PyProof.Rows.lm_len_rep_flat, Nat.mul_comm]; exact hz), rfl, q _ I.fresh⟩
end
def rdRepL : PyData → PyData → (PyData → Prop) → Prop := fun d e P => match d, e with
  | .list xs, .int k => (0 ≤ k ∧ k < 2 ^ 63 ∧ xs.length * k.toNat ≤ sizeLine) ∧ P (.list (List.replicate k.toNat xs).flatten)
  | _, _ => False
theorem opd_repL {K : PySem.W.Frag} : OpD K (rRepL K) rdRepL := by
  intro E g env c σ H x y d e P Q r hx hy q k
  unfold rdRepL at q
  split at q
  · rename_i xs kk
    obtain ⟨⟨h0, h1, hl⟩, q⟩ := q
    cases hx with
    | lst h1' a1 =>
      rw [dp_int hy]
      refine ⟨_, kk, _, rfl, rfl, r.ex.seq h1', by omega, h1, by rw [DpAll.len a1]; exact hl, fun p hp => ?_⟩
      obtain ⟨r2, m2⟩ := r.new (.lst _) hp
      exact k _ _ _ _ q m2 r2 (.lst (.of upd_same) ((dpAll_mono m2.f a1).rep _))
  · exact q.elim
section
variable {X : Cx} {E : En} {a b : Expr} {da db : DE} {pos : Pos}
theorem de_repL (ha : DPE X E a da) (hb : DPE X E b db) : DPE X E (.BinOp a .Mult b pos) (dOp rdRepL da db) := de_op op_repL opd_repL ha hb
end
end DL
set_option maxHeartbeats 2000000
/-! x in l, of data of any depth -/
namespace DL
open PySem PySem.Spec PyProof.Rows L2
def rdInD : PyData → PyData → (PyData → Prop) → Prop := fun d e P => match e with
  | .list es => SeqAt.shaped d = true ∧ SeqAt.shaped (.list es) = true ∧ P (.bool (es.any fun z => PyData.eqv z d))
  | _ => False
theorem opd_inD {K : PySem.W.Frag} : OpD K (rInD K) rdInD := by
  intro E g env c σ H x y d e P Q r hx hy q k
  unfold rdInD at q
  split at q
  · rename_i es
    exact ⟨_, es, dp_l2 (dpF r hx) (PyData.hasDict_of_canLay _ (SeqAt.canLay_of_shaped q.1)), dp_l2 (dpF r hy) (PyData.hasDict_of_canLay _ (SeqAt.canLay_of_shaped q.2.1)), q.1, q.2.1, k _ g H _ q.2.2 (Mv.refl g H) r (.bl _)⟩
  · exact q.elim
section
variable {X : Cx} {E : En} {a b : Expr} {da db : DE} {pos : Pos}
theorem de_inD {k : Nat} (hr : Room k X.A) (ha : DPE X E a da) (hb : DPE X E b db) (hm : behindInMarks .In b = false := by rfl) : DPE X E (.Compare a [.In] [b] pos) (dOp rdInD da db) := de_cmp (op_inD (by have := hr.un; omega)) opd_inD ha hb hm
theorem dt_inD {k : Nat} (hr : Room k X.A) (ha : DPE X E a da) (hb : DPE X E b db) (hm : behindInMarks .In b = false := by rfl) : DPT X E (.Compare a [.In] [b] pos) (tVal (dOp rdInD da db)) := dt_cmp (op_inD (by have := hr.un; omega)) opd_inD ha hb hm
end
end DL
namespace DL
open PySem PySem.Spec PyProof.Rows L2
/-! ### what a body means, run by rewriting: heads first, what comes later stays as it stands -/
structure Tg {α : Type} (a : α) : Type
/-- a call, its wish put away -/
def Cl (sp : Spec) (xs : List Vl) (c : Nat) (P : Vl → Nat → Prop) (_ : Tg P) : Prop := sp xs c P
def ClX (sp : SpecX) (xs : List Vl) (c : Nat) (P : Vl → Nat → Prop) (Px : Xd) (_ : Tg P) (_ : Tg Px) : Prop := sp xs c P Px
def Sq (C A : Prop) (_ : Tg A) : Prop := C ∧ A
def Br (b : Bool) (A B : Prop) (_ : Tg A) (_ : Tg B) : Prop := if b = true then A else B
def FL (dg : DG) (db : DS) (D : DEnds) (ds : List PyData) (env : Ev) (c : Nat) (_ : Tg D) : Prop := forL dg db D ds env c
def LL (dg : DG) (dt : DT) (de : DE) (env : Ev) (ds acc : List PyData) (c : Nat) (k : List PyData → Nat → Prop) (_ : Tg k) : Prop := lcL dg dt de env ds acc c k
def IxN (n : Nat) (j : Int) (f : Nat → Prop) (_ : Tg f) : Prop := ∃ k, ixN n j = some k ∧ f k
def IxK (ds : List PyData) (i : Int) (P : PyData → Prop) (_ : Tg P) : Prop := ixK ds (.int i) P
/-- a slot set, a slot read, the slots of an entry: one after the other -/
def SetK (env : Ev) (i : Nat) (x : Option Vl) (f : Ev → Prop) : Prop := f (env.set i x)
def OwnK (env : Ev) (i : Nat) (f : List PyData → Prop) : Prop := match env[i]? with
  | some (some (.own l)) => f l
  | _ => False
def StK (N : Nat) (args : List Vl) (f : Ev → Prop) : Prop := f (startE N args)
theorem startE_cons (n : Nat) (a : Vl) (r : List Vl) : startE (n + 1) (a :: r) = some a :: startE n r := by simp [startE]
theorem startE_none (n : Nat) : startE (n + 1) [] = none :: startE n [] := by simp [startE, List.replicate_succ]
theorem startE_zero : startE 0 [] = [] := rfl
theorem x_set0 {x y : Option Vl} {env : Ev} {f : Ev → Prop} : SetK (x :: env) 0 y f = f (y :: env) := rfl
theorem x_setS {x y : Option Vl} {env : Ev} {i : Nat} {f : Ev → Prop} : SetK (x :: env) (i + 1) y f = SetK env i y fun env' => f (x :: env') := rfl
theorem x_own0 {l : List PyData} {env : Ev} {f : List PyData → Prop} : OwnK (some (.own l) :: env) 0 f = f l := rfl
theorem x_ownS {x : Option Vl} {env : Ev} {i : Nat} {f : List PyData → Prop} : OwnK (x :: env) (i + 1) f = OwnK env i f := rfl
theorem x_st0 {f : Ev → Prop} : StK 0 [] f = f [] := rfl
theorem x_stS {n : Nat} {a : Vl} {r : List Vl} {f : Ev → Prop} : StK (n + 1) (a :: r) f = StK n r fun env => f (some a :: env) := by
  unfold StK
  rw [startE_cons]
theorem x_stN {n : Nat} {f : Ev → Prop} : StK (n + 1) [] f = StK n [] fun env => f (none :: env) := by
  unfold StK
  rw [startE_none]
def WipeM (env : Ev) (o : List (Str × Nat)) (f : Ev → Prop) : Prop := f (wipeE env (List.map (·.2) o))
theorem x_wm0 {env : Ev} {f : Ev → Prop} : WipeM env [] f = f env := rfl
theorem x_wmS {env : Ev} {a : Str} {i : Nat} {o : List (Str × Nat)} {f : Ev → Prop} : WipeM env ((a, i) :: o) f = WipeM env o fun env' => SetK env' i none f := rfl
/-- a wish that waits for a fact: an existential, a draw -/
def Sx (A : Prop) (_ : Tg A) : Prop := A
section
variable {D : DEnds} {env : Ev} {c : Nat} {P : Vl → Nat → Prop} {PT : Bool → Nat → Prop} {PA : List Vl → Nat → Prop} {PF : List PyData → Nat → Prop} {PD : PyData → Prop}
variable {s t u : DS} {da db dc : DE} {dr : DA} {ta tb : DT} {dg : DG} {dgs : DGs} {dw : DI} {df dh : DF} {d e : PyData} {i j k : Nat}
theorem x_seq {a : Ev → Nat → Prop} {b : Vl → Nat → Prop} {e f : Ev → Nat → Prop} : sSeq s t (no_index (DEnds.mk a b e f)) env c = s (DEnds.mk (t (DEnds.mk a b e f)) b e f) env c := rfl
theorem x_nx : sNx D env c = D.nx env c := rfl
theorem x_ret : sRet da D env c = da env c D.rt := rfl
theorem x_retN : sRetN D env c = D.rt (.dat .none) c := rfl
theorem x_asg : sAsg da dg D env c = da env c fun x c1 => dg x env fun env' => D.nx env' c1 := rfl
theorem x_if : sIf ta s u D env c = ta env c fun b c1 => Br b (s D env c1) (u D env c1) {} {} := rfl
theorem x_drop : sDrop da D env c = da env c fun _ c1 => D.nx env c1 := rfl
theorem x_brk : sBrk D env c = D.bk env c := rfl
theorem x_cnt : sCnt D env c = D.ct env c := rfl
theorem x_par : sPar i j dr D env c = dr env c fun xs c1 => match xs with
  | [x, y] => SetK env i (some x) fun env' => SetK env' j (some y) fun env' => D.nx env' c1
  | _ => False := rfl
theorem x_par3 : sPar3 i j k dr D env c = dr env c fun xs c1 => match xs with
  | [x, y, z] => SetK env i (some x) fun env' => SetK env' j (some y) fun env' => SetK env' k (some z) fun env' => D.nx env' c1
  | _ => False := rfl
theorem x_for : sFor dw dg s D env c = dw env c fun items c1 => FL dg s D items env c1 {} := rfl
theorem x_new : sNew i D env c = SetK env i (some (.own [])) fun env' => D.nx env' c := rfl
theorem x_app : sApp i da D env c = OwnK env i fun l => da env c fun x c1 => datK x fun d => Sq (l.length < sizeLine) (SetK env i (some (.own (l ++ [d]))) fun env' => D.nx env' c1) {} := rfl
theorem x_frz : sFrz i s D env c = OwnK env i fun l => SetK env i (some (.dat (.list l))) fun env' => s D env' c := rfl
theorem x_ownSet : sOwnSet i da db D env c = da env c fun x c1 => datK x fun d => OwnK env i fun l => db env c1 fun y c2 => datK y fun e => intK e fun j => IxN l.length j (fun k => SetK env i (some (.own (l.set k d))) fun env' => D.nx env' c2) {} := rfl
theorem x_own : sOwn i df D env c = df env c fun l c1 => SetK env i (some (.own l)) fun env' => D.nx env' c1 := rfl
theorem x_parF : sParF i j df db D env c = df env c fun l c1 => db env c1 fun y c2 => SetK env i (some (.own l)) fun env' => SetK env' j (some y) fun env' => D.nx env' c2 := rfl
theorem x_parFF : sParFF i j df dh D env c = df env c fun l c1 => dh env c1 fun m c2 => SetK env i (some (.own l)) fun env' => SetK env' j (some (.own m)) fun env' => D.nx env' c2 := rfl
theorem x_parEF : sParEF i j da df D env c = da env c fun y c1 => df env c1 fun l c2 => SetK env i (some y) fun env' => SetK env' j (some (.own l)) fun env' => D.nx env' c2 := rfl
theorem x_par3F : sPar3F i j k da db df D env c = da env c fun x c1 => db env c1 fun y c2 => df env c2 fun m c3 => SetK env k (some (.own m)) fun env' => SetK env' i (some x) fun env' => SetK env' j (some y) fun env' => D.nx env' c3 := rfl
theorem x_newLst : sNewLst i da D env c = da env c fun x c1 => datK x fun d => match d with
  | .list xs => SetK env i (some (.own xs)) fun env' => D.nx env' c1
  | .tuple xs => SetK env i (some (.own xs)) fun env' => D.nx env' c1
  | _ => False := rfl
-- expressions
theorem x_dat {f : PyData → Prop} : datK (.dat d) f = f d := rfl
theorem x_int {f : Int → Prop} {i : Int} : intK (.int i) f = f i := rfl
theorem x_bool {f : Bool → Prop} {b : Bool} : boolK (.bool b) f = f b := rfl
theorem x_tru0 {f : Bool → Prop} : truK .none f = f false := rfl
theorem x_truB {f : Bool → Prop} {b : Bool} : truK (.bool b) f = f b := rfl
theorem x_truI {f : Bool → Prop} {i : Int} : truK (.int i) f = f (i != 0) := rfl
theorem x_truL {f : Bool → Prop} {l : List PyData} : truK (.list l) f = f (!l.isEmpty) := rfl
theorem x_truT {f : Bool → Prop} {l : List PyData} : truK (.tuple l) f = f (!l.isEmpty) := rfl
theorem x_v0 {env : Ev} : dVar 0 (some (.dat d) :: env) c P = P (.dat d) c := rfl
theorem x_v0k {env : Ev} : dVar 0 (some .deck :: env) c P = P .deck c := rfl
theorem x_v0e {env : Ev} {a : Addr} : dVar 0 (some (.exc a) :: env) c P = P (.exc a) c := rfl
theorem x_vS {env : Ev} {x : Option Vl} : dVar (i + 1) (x :: env) c P = dVar i env c P := rfl
theorem x_c : dC d env c P = P (.dat d) c := rfl
theorem x_op {rd} : dOp rd da db env c P = da env c fun x c1 => datK x fun d => db env c1 fun y c2 => datK y fun e => rd d e fun z => P (.dat z) c2 := rfl
theorem x_un {rd} : dUn rd da env c P = da env c fun x c1 => datK x fun d => rd d fun z => P (.dat z) c1 := rfl
theorem x_anil : aNil env c PA = PA [] c := rfl
theorem x_acons : aCons da dr env c PA = da env c fun x c1 => dr env c1 fun xs c2 => PA (x :: xs) c2 := rfl
theorem x_call {sp : Spec} : dCall sp dr env c P = dr env c fun xs c1 => Cl sp xs c1 P {} := rfl
theorem x_callX {sp : SpecX} {W : XW} : dCallX i sp W dr env c P = dr env c fun xs c1 => Sq (xs.length = i) (ClX sp xs c1 P (fun y fs c2 => W y fs env c2) {} {}) {} := rfl
theorem x_callV {sp : Spec} : dCallV sp dr env c P = dr env c fun xs c1 => datsK xs fun ds => Sq (ds.length ≤ sizeLine) (Cl sp [.dat (.tuple ds)] c1 P {}) {} := rfl
theorem x_callVX {sp : SpecX} {W : XW} : dCallVX sp W dr env c P = dr env c fun xs c1 => datsK xs fun ds => Sq (ds.length ≤ sizeLine) (ClX sp [.dat (.tuple ds)] c1 P (fun y fs c2 => W y fs env c2) {} {}) {} := rfl
theorem x_dats0 {f : List PyData → Prop} : datsK [] f = f [] := rfl
theorem x_datsS {f : List PyData → Prop} {r : List Vl} : datsK (.dat d :: r) f = datsK r fun ds => f (d :: ds) := rfl
theorem x_cb {rd} : dCB rd dr env c P = dr env c fun xs c1 => datsK xs fun ds => rd ds fun z => P (.dat z) c1 := rfl
theorem x_rdI {f : Int → Int → PyData} : rdI f d e PD = intK d fun i => intK e fun j => PD (f i j) := rfl
theorem x_rdIc {C : Int → Int → Prop} {f : Int → Int → PyData} : rdIc C f d e PD = intK d fun i => intK e fun j => Sq (C i j) (PD (f i j)) {} := rfl
theorem x_neg : rdNeg d PD = intK d fun i => PD (.int (-i)) := rfl
theorem x_eqS {x y : Str} : rdEq (.str x) (.str y) PD = PD (.bool (decide (x = y))) := rfl
theorem x_eqI {x y : Int} : rdEq (.int x) (.int y) PD = PD (.bool (decide (x = y))) := rfl
theorem x_eqB {x y : Bool} : rdEq (.bool x) (.bool y) PD = PD (.bool (decide (x = y))) := by
  show (_ ∧ _ ∧ _) = _
  have : PyData.eqv (.bool x) (.bool y) = decide (x = y) := by cases x <;> cases y <;> rfl
  rw [this]
  cases x <;> cases y <;> simp [SeqAt.shaped, PyData.canLay0, PyData.depth]
theorem x_eqL {x y : List PyData} : rdEq (.list x) (.list y) PD = Sq (SeqAt.shaped (.list x) = true) (Sq (SeqAt.shaped (.list y) = true) (PD (.bool (PyData.eqv (.list x) (.list y)))) {}) {} := rfl
theorem x_eqT {x y : List PyData} : rdEq (.tuple x) (.tuple y) PD = Sq (SeqAt.shaped (.tuple x) = true) (Sq (SeqAt.shaped (.tuple y) = true) (PD (.bool (PyData.eqv (.tuple x) (.tuple y)))) {}) {} := rfl
theorem x_eqNT {y : List PyData} : rdEq .none (.tuple y) PD = Sq (SeqAt.shaped (.tuple y) = true) (PD (.bool false)) {} := by
  show (_ ∧ _ ∧ _) = (_ ∧ _)
  simp [SeqAt.shaped, PyData.canLay0, PyData.depth, PyData.eqv]
theorem x_eqTN {y : List PyData} : rdEq (.tuple y) .none PD = Sq (SeqAt.shaped (.tuple y) = true) (PD (.bool false)) {} := by
  show (_ ∧ _ ∧ _) = (_ ∧ _)
  simp [SeqAt.shaped, PyData.canLay0, PyData.depth, PyData.eqv]
theorem x_eqNN : rdEq .none .none PD = PD (.bool true) := by
  show (_ ∧ _ ∧ _) = _
  simp [SeqAt.shaped, PyData.canLay0, PyData.depth, PyData.eqv]
theorem x_ne : rdNe d e PD = rdEq d e fun z => boolK z fun b => PD (.bool (!b)) := rfl
theorem x_isN0 : rdIsN .none PD = PD (.bool true) := rfl
theorem x_isNI {i : Int} : rdIsN (.int i) PD = PD (.bool false) := rfl
theorem x_isNB {i : Bool} : rdIsN (.bool i) PD = PD (.bool false) := rfl
theorem x_isNS {i : Str} : rdIsN (.str i) PD = PD (.bool false) := rfl
theorem x_isNT {l : List PyData} : rdIsN (.tuple l) PD = PD (.bool false) := rfl
theorem x_isNL {l : List PyData} : rdIsN (.list l) PD = PD (.bool false) := rfl
theorem x_ntN0 : rdNotN .none PD = PD (.bool false) := rfl
theorem x_ntNI {i : Int} : rdNotN (.int i) PD = PD (.bool true) := rfl
theorem x_ntNB {i : Bool} : rdNotN (.bool i) PD = PD (.bool true) := rfl
theorem x_ntNS {i : Str} : rdNotN (.str i) PD = PD (.bool true) := rfl
theorem x_ntNT {l : List PyData} : rdNotN (.tuple l) PD = PD (.bool true) := rfl
theorem x_ntNL {l : List PyData} : rdNotN (.list l) PD = PD (.bool true) := rfl
theorem x_ixL {ds : List PyData} {i : Int} : rdIx (.list ds) (.int i) PD = IxK ds i PD {} := rfl
theorem x_ixT {ds : List PyData} {i : Int} : rdIx (.tuple ds) (.int i) PD = IxK ds i PD {} := rfl
theorem x_ixO {ds : List PyData} {i : Int} : ixK ds (.int i) PD = IxK ds i PD {} := rfl
theorem x_ixAt {ds : List PyData} {j : Nat} {z : PyData} {tg : Tg PD} (h : ds[j]? = some z) : IxK ds (j : Int) PD tg = PD z := by
  show (match atI ds (j : Int) with | some z => PD z | none => False) = _
  rw [atI_nat h]
theorem x_ix0 {x0 : PyData} {ds : List PyData} {tg : Tg PD} : IxK (x0 :: ds) 0 PD tg = PD x0 := x_ixAt (j := 0) rfl
theorem x_ix1 {x0 x1 : PyData} {ds : List PyData} {tg : Tg PD} : IxK (x0 :: x1 :: ds) 1 PD tg = PD x1 := x_ixAt (j := 1) rfl
theorem x_ix2 {x0 x1 x2 : PyData} {ds : List PyData} {tg : Tg PD} : IxK (x0 :: x1 :: x2 :: ds) 2 PD tg = PD x2 := x_ixAt (j := 2) rfl
theorem x_ix3 {x0 x1 x2 x3 : PyData} {ds : List PyData} {tg : Tg PD} : IxK (x0 :: x1 :: x2 :: x3 :: ds) 3 PD tg = PD x3 := x_ixAt (j := 3) rfl
theorem x_inTt {es : List PyData} : rdIn true d (.tuple es) PD = Sq (flatP d = true) (Sq (es.all flatP = true) (PD (.bool (!(es.any fun y => eqP y d)))) {}) {} := rfl
theorem x_inTf {es : List PyData} : rdIn false d (.tuple es) PD = Sq (flatP d = true) (Sq (es.all flatP = true) (PD (.bool (es.any fun y => eqP y d))) {}) {} := rfl
theorem x_inLt {es : List PyData} : rdIn true d (.list es) PD = Sq (flatP d = true) (Sq (es.all flatP = true) (PD (.bool (!(es.any fun y => eqP y d)))) {}) {} := rfl
theorem x_inLf {es : List PyData} : rdIn false d (.list es) PD = Sq (flatP d = true) (Sq (es.all flatP = true) (PD (.bool (es.any fun y => eqP y d))) {}) {} := rfl
theorem x_tup : dTup dr env c P = dr env c fun xs c1 => datsK xs fun ds => Sq (ds.length ≤ sizeLine) (P (.dat (.tuple ds)) c1) {} := rfl
theorem x_lst : dLst dr env c P = dr env c fun xs c1 => datsK xs fun ds => Sq (ds.length ≤ sizeLine) (P (.dat (.list ds)) c1) {} := rfl
theorem x_lenL {l : List PyData} : rdLen [.list l] PD = PD (.int l.length) := rfl
theorem x_lenT {l : List PyData} : rdLen [.tuple l] PD = PD (.int l.length) := rfl
theorem x_tupL {l : List PyData} : rdTuple [.list l] PD = PD (.tuple l) := rfl
theorem x_tupT {l : List PyData} : rdTuple [.tuple l] PD = PD (.tuple l) := rfl
theorem x_lstL {l : List PyData} : rdList [.list l] PD = PD (.list l) := rfl
theorem x_lstT {l : List PyData} : rdList [.tuple l] PD = PD (.list l) := rfl
theorem x_sumL {ns : List Int} : rdSumA [.list (dInts ns)] PD = PD (.int ns.sum) := by
  show (∃ ms, intsOf (dInts ns) = some ms ∧ _) = _
  rw [show intsOf (dInts ns) = some ns from intsOf_map ns]
  simp
theorem x_sumT {ns : List Int} : rdSumA [.tuple (dInts ns)] PD = PD (.int ns.sum) := by
  show (∃ ms, intsOf (dInts ns) = some ms ∧ _) = _
  rw [show intsOf (dInts ns) = some ns from intsOf_map ns]
  simp
theorem x_max {i j : Int} : rdMaxA [.int i, .int j] PD = PD (.int (max i j)) := rfl
theorem x_min {i j : Int} : rdMinA [.int i, .int j] PD = PD (.int (min i j)) := rfl
theorem x_abs {i : Int} : rdAbs [.int i] PD = PD (.int (if i < 0 then -i else i)) := rfl
theorem x_intI {i : Int} : rdInt1 [.int i] PD = PD (.int i) := rfl
theorem x_intB {b : Bool} : rdInt1 [.bool b] PD = PD (.int (if b then 1 else 0)) := rfl
theorem x_if1 : (if (true = true) then (1 : Int) else 0) = 1 := by simp
theorem x_if0 : (if (false = true) then (1 : Int) else 0) = 0 := by simp
theorem x_repr : rdRepr [d] PD = Sq (shows d) (PD (.str d.shown)) {} := rfl
theorem x_ty {f : PyData → Bool} : rdTy f d PD = PD (.bool (f d)) := rfl
theorem x_addUI {i j : Int} : rdAddU (.int i) (.int j) PD = PD (.int (i + j)) := rfl
theorem x_addUT {x y : List PyData} : rdAddU (.tuple x) (.tuple y) PD = Sq (x.length + y.length ≤ sizeLine) (PD (.tuple (x ++ y))) {} := rfl
theorem x_addRT {a : List R4} {y : List PyData} : rdAddU (rDs a) (.tuple y) PD = Sq (a.length + y.length ≤ sizeLine) (PD (.tuple (a.map rD ++ y))) {} := by
  show ((a.map rD).length + y.length ≤ sizeLine ∧ _) = (_ ∧ _)
  rw [List.length_map]
theorem x_addRR {a b : List R4} : rdAddU (rDs a) (rDs b) PD = Sq (a.length + b.length ≤ sizeLine) (PD (rDs (a ++ b))) {} := by
  show ((a.map rD).length + (b.map rD).length ≤ sizeLine ∧ PD (.tuple (a.map rD ++ b.map rD))) = (_ ∧ PD (.tuple ((a ++ b).map rD)))
  rw [List.length_map, List.length_map, List.map_append]
theorem x_lenR {a : List R4} : rdLen [rDs a] PD = PD (.int a.length) := by
  show PD (.int (a.map rD).length) = _
  rw [List.length_map]
theorem x_revR {a : List R4} : rdRevT (rDs a) PD = PD (rDs a.reverse) := by
  show PD (.tuple (a.map rD).reverse) = PD (.tuple (a.reverse.map rD))
  rw [List.map_reverse]
theorem x_isNR {a : List R4} : rdIsN (rDs a) PD = PD (.bool false) := rfl
theorem x_addXL {x y : List PyData} : rdAddX (.list x) (.list y) PD = Sq (x.length + y.length ≤ sizeLine) (PD (.list (x ++ y))) {} := rfl
theorem x_addXT {x y : List PyData} : rdAddX (.tuple x) (.tuple y) PD = rdAddU (.tuple x) (.tuple y) PD := rfl
theorem x_addXI {i j : Int} : rdAddX (.int i) (.int j) PD = rdAddU (.int i) (.int j) PD := rfl
theorem x_revT {x : List PyData} : rdRevT (.tuple x) PD = PD (.tuple x.reverse) := rfl
theorem x_isB {x y : Bool} : rdIsB (.bool x) (.bool y) PD = PD (.bool (decide (x = y))) := rfl
theorem x_ntB {x y : Bool} : rdNotB (.bool x) (.bool y) PD = PD (.bool (!decide (x = y))) := rfl
theorem x_neNil {x : List PyData} : rdNeNil (.list x) (.list []) PD = PD (.bool (!x.isEmpty)) := rfl
theorem x_eqNil {x : List PyData} : rdEqNil (.list x) (.list []) PD = PD (.bool x.isEmpty) := rfl
theorem x_neNilT {x : List PyData} : rdNeNilT (.tuple x) (.tuple []) PD = PD (.bool (!x.isEmpty)) := rfl
theorem x_eqNilT {x : List PyData} : rdEqNilT (.tuple x) (.tuple []) PD = PD (.bool x.isEmpty) := rfl
theorem x_mulUI {i j : Int} : rdMulU (.int i) (.int j) PD = Sq (CMul i j) (PD (.int (i * j))) {} := rfl
theorem x_tupRg {i : Int} : rdTupRg (.int i) PD = Sq (0 ≤ i) (Sq (i ≤ 16777216) (PD (.tuple (rangeD 0 i.toNat))) {}) {} := rfl
theorem x_lstRg {i : Int} : rdLstRg (.int i) PD = Sq (0 ≤ i) (Sq (i ≤ 16777216) (PD (.list (rangeD 0 i.toNat))) {}) {} := rfl
theorem x_slT {lo hi : DO} : dSlT da lo hi env c P = da env c fun x c1 => datK x fun d => lo env c1 fun l c2 => hi env c2 fun u c3 => match d with
  | .tuple ds => P (.dat (.tuple (cutD ds l u))) c3
  | _ => False := rfl
theorem x_cut1 {a : PyData} {l : List PyData} : cutD (a :: l) (some 1) none = l := by
  unfold cutD
  rw [show HT.sIx (a :: l).length 0 (some (1 : Int)) = min 1 (a :: l).length from HT.sIx_nat _ _ 1, show HT.sIx (a :: l).length (a :: l).length none = (a :: l).length from rfl]
  have e : min 1 (a :: l).length = 1 := by simp
  rw [e]
  simp
theorem x_evTC {x y : PyData} {l m : List PyData} : PyData.eqv (.tuple (x :: l)) (.tuple (y :: m)) = (PyData.eqv x y && PyData.eqv (.tuple l) (.tuple m)) := by simp [PyData.eqv, PyData.eqvAll]
theorem x_evTN : PyData.eqv (.tuple []) (.tuple []) = true := by simp [PyData.eqv, PyData.eqvAll]
theorem x_evLC {x y : PyData} {l m : List PyData} : PyData.eqv (.list (x :: l)) (.list (y :: m)) = (PyData.eqv x y && PyData.eqv (.list l) (.list m)) := by simp [PyData.eqv, PyData.eqvAll]
theorem x_evLN : PyData.eqv (.list []) (.list []) = true := by simp [PyData.eqv, PyData.eqvAll]
theorem x_evI {i j : Int} : PyData.eqv (.int i) (.int j) = decide (i = j) := by
  by_cases h : i = j <;> simp [PyData.eqv, h]
theorem x_evS {i j : Str} : PyData.eqv (.str i) (.str j) = decide (i = j) := by
  by_cases h : i = j <;> simp [PyData.eqv, h]
theorem x_evB {i j : Bool} : PyData.eqv (.bool i) (.bool j) = decide (i = j) := by
  cases i <;> cases j <;> rfl
theorem x_evNN : PyData.eqv .none .none = true := by simp [PyData.eqv]
theorem x_evNI {i : Int} : PyData.eqv .none (.int i) = false := by simp [PyData.eqv]
theorem x_evIN {i : Int} : PyData.eqv (.int i) .none = false := by simp [PyData.eqv]
theorem x_evNT {l : List PyData} : PyData.eqv .none (.tuple l) = false := by simp [PyData.eqv]
theorem x_evTNo {l : List PyData} : PyData.eqv (.tuple l) .none = false := by simp [PyData.eqv]
theorem x_oNo {Po : Option Int → Nat → Prop} : oNo env c Po = Po none c := rfl
theorem x_oSome {Po : Option Int → Nat → Prop} : oSome da env c Po = da env c fun x c1 => datK x fun d => intK d fun i => Po (some i) c1 := rfl
theorem x_chain {r r'} : dChain r r' da db dc env c P = da env c fun x c1 => datK x fun d => db env c1 fun y c2 => datK y fun e => r d e fun z => boolK z fun k => Br k (dc env c2 fun w c3 => datK w fun u => r' e u fun z => P (.dat z) c3) (P (.dat (.bool false)) c2) {} {} := rfl
theorem x_val : tVal da env c PT = da env c fun x c1 => datK x fun d => boolK d fun b => PT b c1 := rfl
theorem x_tnt : tNt ta env c PT = ta env c fun b c1 => PT (!b) c1 := rfl
theorem x_tan : tAn ta tb env c PT = ta env c fun b c1 => Br b (tb env c1 PT) (PT false c1) {} {} := rfl
theorem x_too : tOo ta tb env c PT = ta env c fun b c1 => Br b (PT true c1) (tb env c1 PT) {} {} := rfl
theorem x_dnt : dNt da env c P = da env c fun x c1 => datK x fun d => boolK d fun b => P (.dat (.bool (!b))) c1 := rfl
theorem x_dan : dAn da db env c P = da env c fun x c1 => datK x fun d => boolK d fun b => Br b (db env c1 P) (P (.dat (.bool false)) c1) {} {} := rfl
theorem x_doo : dOo da db env c P = da env c fun x c1 => datK x fun d => boolK d fun b => Br b (P (.dat (.bool true)) c1) (db env c1 P) {} {} := rfl
theorem x_dorT : dOrT da db env c P = da env c fun x c1 => datK x fun d => truK d fun b => Br b (P (.dat d) c1) (db env c1 P) {} {} := rfl
theorem x_ife : dIfE ta da db env c P = ta env c fun b c1 => Br b (da env c1 P) (db env c1 P) {} {} := rfl
theorem x_lc {o : List (Str × Nat)} : dLc dw dg ta da (List.map (·.2) o) env c P = dw env c fun items c1 => WipeM env o fun env' => Sq (items.length < sizeLine) (LL dg ta da env' items [] c1 (fun out c2 => P (.dat (.list out)) c2) {}) {} := rfl
theorem x_flc {o : List (Str × Nat)} : fLc dw dg ta da (List.map (·.2) o) env c PF = dw env c fun items c1 => WipeM env o fun env' => Sq (items.length < sizeLine) (LL dg ta da env' items [] c1 PF {}) {} := rfl
theorem x_ton : tOn env c PT = PT true c := rfl
theorem x_flst : fLst dr env c PF = dr env c fun xs c1 => datsK xs fun ds => Sq (ds.length ≤ sizeLine) (PF ds c1) {} := rfl
theorem x_flist : fList da env c PF = da env c fun x c1 => datK x fun d => match d with
  | .list xs => PF xs c1
  | .tuple xs => PF xs c1
  | _ => False := rfl
theorem x_fcat : fCat da db env c PF = da env c fun x c1 => datK x fun d => db env c1 fun y c2 => datK y fun e => match d, e with
  | .list xs, .list ys => Sq (xs.length + ys.length ≤ sizeLine) (PF (xs ++ ys) c2) {}
  | _, _ => False := rfl
theorem x_fsl {lo hi : DO} : fSl da lo hi env c PF = da env c fun x c1 => datK x fun d => lo env c1 fun l c2 => hi env c2 fun u c3 => match d with
  | .list ds => PF (cutD ds l u) c3
  | _ => False := rfl
theorem x_frev : fRev da env c PF = da env c fun x c1 => datK x fun d => match d with
  | .list ds => PF ds.reverse c1
  | _ => False := rfl
theorem x_frep : fRep df db env c PF = df env c fun l c1 => db env c1 fun y c2 => datK y fun e => intK e fun k => Sq (0 ≤ k ∧ k < 2 ^ 63 ∧ l.length * k.toNat ≤ sizeLine) (PF (List.replicate k.toNat l).flatten c2) {} := rfl
theorem x_df : dF df env c P = df env c fun l c' => P (.dat (.list l)) c' := rfl
theorem x_ownIx : dOwnIx i db env c P = OwnK env i fun l => db env c fun y c1 => datK y fun e => ixK l e fun z => P (.dat z) c1 := rfl
theorem x_ownLen : dOwnLen i env c P = OwnK env i fun l => P (.dat (.int l.length)) c := rfl
theorem x_repL {xs : List PyData} {k : Int} : rdRepL (.list xs) (.int k) PD = Sq (0 ≤ k ∧ k < 2 ^ 63 ∧ xs.length * k.toNat ≤ sizeLine) (PD (.list (List.replicate k.toNat xs).flatten)) {} := rfl
-- walks
theorem x_wl : wL da env c PF = da env c fun x c1 => datK x fun d => match d with
  | .list ds => PF ds c1
  | _ => False := rfl
theorem x_wt : wT da env c PF = da env c fun x c1 => datK x fun d => match d with
  | .tuple ds => PF ds c1
  | _ => False := rfl
theorem x_wr1 : wR1 dr env c PF = dr env c fun xs c1 => datsK xs fun ds => match ds with
  | [.int n] => Sq (-(2 ^ 62) ≤ n) (Sq (n < 2 ^ 62) (PF (rangeD 0 n.toNat) c1) {}) {}
  | _ => False := rfl
theorem x_wr2 : wR2 dr env c PF = dr env c fun xs c1 => datsK xs fun ds => match ds with
  | [.int i, .int j] => Sq (-(2 ^ 62) ≤ i ∧ i < 2 ^ 62 ∧ -(2 ^ 62) ≤ j ∧ j < 2 ^ 62) (PF (rangeD i (j - i).toNat) c1) {}
  | _ => False := rfl
theorem x_wzT : wZipT dr env c PF = dr env c fun xs c1 => datsK xs fun ds => match ds with
  | [.tuple xs, .tuple ys] => PF ((xs.zip ys).map fun z => .tuple [z.1, z.2]) c1
  | _ => False := rfl
theorem x_wzL : wZipL dr env c PF = dr env c fun xs c1 => datsK xs fun ds => match ds with
  | [.list xs, .list ys] => PF ((xs.zip ys).map fun z => .tuple [z.1, z.2]) c1
  | _ => False := rfl
theorem x_weT : wEnumerateT dr env c PF = dr env c fun xs c1 => datsK xs fun ds => match ds with
  | [.tuple xs] => PF (enumD xs) c1
  | _ => False := rfl
theorem x_weL : wEnumerateL dr env c PF = dr env c fun xs c1 => datsK xs fun ds => match ds with
  | [.list xs] => PF (enumD xs) c1
  | _ => False := rfl
-- targets
theorem x_gnm {x : Vl} {f : Ev → Prop} : gNm i x env f = SetK env i (some x) f := rfl
theorem x_gs0 {f : Ev → Prop} : gsNil [] env f = f env := rfl
theorem x_gsS {f : Ev → Prop} {r : List PyData} : gsCons dg dgs (d :: r) env f = dg (.dat d) env fun env' => dgs r env' f := rfl
theorem x_gtu {f : Ev → Prop} {ds : List PyData} : gTu i dgs (.dat (.tuple ds)) env f = Sq (ds.length = i) (dgs ds env f) {} := rfl
theorem x_gli {f : Ev → Prop} {ds : List PyData} : gLi i dgs (.dat (.list ds)) env f = Sq (ds.length = i) (dgs ds env f) {} := rfl
theorem x_wipe0 {env : Ev} : wipeE env [] = env := rfl
theorem x_wipeS {env : Ev} {l : List Nat} : wipeE env (i :: l) = (wipeE env l).set i none := rfl
-- ends
theorem x_sd {C A : Prop} {tg : Tg A} (h : C) : Sq C A tg = A := by
  show (C ∧ A) = A
  simp [h]
theorem x_sdY {A : Prop} {tg : Tg A} : Sq True A tg = A := by
  show (True ∧ A) = A
  simp
theorem x_flI {i : Int} : (flatP (.int i) = true) = True := by simp [flatP]
theorem x_flS' {x : Str} : (flatP (.str x) = true) = True := by simp [flatP]
theorem x_flN : (flatP .none = true) = True := by simp [flatP]
theorem x_flB {b : Bool} : (flatP (.bool b) = true) = True := by simp [flatP]
theorem x_all0 : (([] : List PyData).all flatP = true) = True := by simp
theorem x_allS {a : PyData} {l : List PyData} : ((a :: l).all flatP = true) = (flatP a = true ∧ l.all flatP = true) := by simp
theorem x_andT {p : Prop} : (True ∧ p) = p := by simp
theorem x_brT {A B : Prop} {t1 : Tg A} {t2 : Tg B} : Br true A B t1 t2 = A := by
  show (if true = true then A else B) = A
  simp
theorem x_brF {A B : Prop} {t1 : Tg A} {t2 : Tg B} : Br false A B t1 t2 = B := by
  show (if false = true then A else B) = B
  simp
theorem x_brN {b : Bool} {A B : Prop} {t1 : Tg A} {t2 : Tg B} : Br (!b) A B t1 t2 = Br b B A t2 t1 := by
  cases b <;> simp [Br]
theorem x_brO {a b : Bool} {A B : Prop} {t1 : Tg A} {t2 : Tg B} : Br (a || b) A B t1 t2 = Br a A (Br b A B t1 t2) t1 {} := by
  cases a <;> cases b <;> simp [Br]
theorem x_brA {a b : Bool} {A B : Prop} {t1 : Tg A} {t2 : Tg B} : Br (a && b) A B t1 t2 = Br a (Br b A B t1 t2) B {} t2 := by
  cases a <;> cases b <;> simp [Br]
theorem x_eqPI {a b : Int} : eqP (.int a) (.int b) = decide (a = b) := rfl
theorem x_any0 {p : PyData → Bool} : [].any p = false := rfl
theorem x_anyS {p : PyData → Bool} {a : PyData} {l : List PyData} : (a :: l).any p = (p a || l.any p) := rfl
theorem x_brP {q A B : Prop} [Decidable q] {t1 : Tg A} {t2 : Tg B} (h : q) : Br (decide q) A B t1 t2 = A := by
  simp [Br, h]
theorem x_brQ {q A B : Prop} [Decidable q] {t1 : Tg A} {t2 : Tg B} (h : ¬ q) : Br (decide q) A B t1 t2 = B := by
  simp [Br, h]
theorem x_brB {b : Bool} {A B : Prop} {t1 : Tg A} {t2 : Tg B} (h : b = true) : Br b A B t1 t2 = A := by
  simp [Br, h]
theorem x_brC {b : Bool} {A B : Prop} {t1 : Tg A} {t2 : Tg B} (h : b = false) : Br b A B t1 t2 = B := by
  simp [Br, h]
theorem x_fl0 {tg : Tg D} : FL dg s D [] env c tg = D.nx env c := rfl
theorem x_flS {a : Ev → Nat → Prop} {b : Vl → Nat → Prop} {e f : Ev → Nat → Prop} {tg : Tg (DEnds.mk a b e f)} {ds : List PyData} : FL dg s (no_index (DEnds.mk a b e f)) (d :: ds) env c tg = dg (.dat d) env fun env' => s (DEnds.mk (forL dg s (DEnds.mk a b e f) ds) b a (forL dg s (DEnds.mk a b e f) ds)) env' c := rfl
theorem x_fl {ds : List PyData} : forL dg s D ds env c = FL dg s D ds env c {} := rfl
theorem x_ll0 {acc : List PyData} {tg : Tg PF} : LL dg ta da env [] acc c PF tg = PF acc c := rfl
theorem x_llS {acc ds : List PyData} {tg : Tg PF} : LL dg ta da env (d :: ds) acc c PF tg = dg (.dat d) env fun env' => ta env' c fun b c1 => Br b (da env' c1 fun x c2 => datK x fun z => LL dg ta da env ds (acc ++ [z]) c2 PF {}) (LL dg ta da env ds acc c1 PF {}) {} {} := rfl
theorem x_s0 {x : Option Vl} {y : Option Vl} {env : Ev} : (x :: env).set 0 y = y :: env := rfl
theorem x_sS {x : Option Vl} {y : Option Vl} {env : Ev} : (x :: env).set (i + 1) y = x :: env.set i y := rfl
theorem x_g0 {x : Option Vl} {env : Ev} : (x :: env)[0]? = some x := rfl
theorem x_gS {x : Option Vl} {env : Ev} : (x :: env)[i + 1]? = env[i]? := rfl
theorem x_body {N : Nat} {args : List Vl} : bodySpec N s args c P = StK N args fun env => s { nx := fun _ c' => P (.dat .none) c', rt := P, bk := fun _ _ => False, ct := fun _ _ => False } env c := rfl
theorem x_bodyX {N : Nat} {dt : Xd → DS} {args : List Vl} {Px : Xd} : bodySpecX N dt args c P Px = StK N args fun env => dt Px { nx := fun _ c' => P (.dat .none) c', rt := P, bk := fun _ _ => False, ct := fun _ _ => False } env c := rfl
end
theorem startE_eq (N : Nat) (args : List Vl) : startE N args = args.map some ++ List.replicate (N - args.length) none := rfl
theorem cmul_l {i j : Int} (h1 : -(2 ^ 64) < i) (h2 : i < 2 ^ 64) : CMul i j := .inl ⟨h1, h2⟩
theorem cmul_r {i j : Int} (h1 : -(2 ^ 64) < j) (h2 : j < 2 ^ 64) : CMul i j := .inr ⟨h1, h2⟩
theorem cdiv_ok {i j : Int} (h1 : 0 < j) (h2 : j < 1073741824) : CDiv i j := ⟨h1, h2⟩
theorem cpow_ok {i j : Int} (h1 : 0 ≤ j) (h2 : j ≤ 1000000) (h3 : i.natAbs < 2 ^ 64) : CPow i j := ⟨h1, h2, h3⟩
/-! ### in and out of the wrappers -/
theorem cl_ok {sp : Spec} {n : Nat} {xs : List Vl} {c : Nat} {P : Vl → Nat → Prop} {t : Tg P} (h : sp xs c P) (hl : xs.length = n := by rfl) : Cl (fun xs c P => xs.length = n ∧ sp xs c P) xs c P t := ⟨hl, h⟩
theorem clV_ok {sp : Spec} {xs : List Vl} {c : Nat} {P : Vl → Nat → Prop} {t : Tg P} (h : sp xs c P) : Cl sp xs c P t := h
theorem clX_ok {sp : SpecX} {xs : List Vl} {c : Nat} {P : Vl → Nat → Prop} {Px : Xd} {t : Tg P} {t2 : Tg Px} (h : sp xs c P Px) : ClX sp xs c P Px t t2 := h
theorem br_ok {b : Bool} {A B : Prop} {t1 : Tg A} {t2 : Tg B} (h : if b = true then A else B) : Br b A B t1 t2 := h
theorem br_both {b : Bool} {A B : Prop} {t1 : Tg A} {t2 : Tg B} (h1 : b = true → A) (h2 : b = false → B) : Br b A B t1 t2 := by
  cases b
  · exact x_brF.symm ▸ h2 rfl
  · exact x_brT.symm ▸ h1 rfl
theorem br_dec {q A B : Prop} [Decidable q] {t1 : Tg A} {t2 : Tg B} (h1 : q → A) (h2 : ¬ q → B) : Br (decide q) A B t1 t2 := br_both (fun h => h1 (of_decide_eq_true h)) (fun h => h2 (of_decide_eq_false h))
theorem sd_ok {C A : Prop} {t : Tg A} (h1 : C) (h2 : A) : Sq C A t := ⟨h1, h2⟩
theorem ixk_ok {ds : List PyData} {i : Int} {z : PyData} {P : PyData → Prop} {t : Tg P} (e : atI ds i = some z) (h : P z) : IxK ds i P t := ix_ok e h
theorem ixn_ok {n : Nat} {j : Int} {k : Nat} {f : Nat → Prop} {t : Tg f} (e : ixN n j = some k) (h : f k) : IxN n j f t := ⟨k, e, h⟩
theorem fl_ok {dg : DG} {db : DS} {D : DEnds} {items : List PyData} {env : Ev} {c : Nat} {t : Tg D} (h : forL dg db D items env c) : FL dg db D items env c t := h
theorem ll_ok {dg : DG} {dt : DT} {de : DE} {env : Ev} {ds acc : List PyData} {c : Nat} {k : List PyData → Nat → Prop} {t : Tg k} (h : lcL dg dt de env ds acc c k) : LL dg dt de env ds acc c k t := h
end DL
namespace DL
open PySem PySem.Spec PyProof.Rows L2
/-! ### comprehensions and walks, run -/
theorem ll_gen {α : Type} {dg : DG} {dt : DT} {de : DE} {env : Ev} (toD : α → PyData) (p : α → Bool) (f : α → PyData) : ∀ (xs : List α) (acc : List PyData) (c : Nat) (k : List PyData → Nat → Prop) (t : Tg k),
    (∀ x ∈ xs, ∀ (A : PyData → Nat → Prop) (B : Nat → Prop), (p x = true → A (f x) c) → (p x = false → B c) → dg (.dat (toD x)) env fun env' => dt env' c fun b c1 => Br b (de env' c1 fun y c2 => datK y fun z => A z c2) (B c1) {} {}) →
    k (acc ++ (xs.filter p).map f) c → LL dg dt de env (xs.map toD) acc c k t
  | [], acc, c, k, t, _, h => by
    have h : k (acc ++ []) c := h
    rw [List.append_nil] at h
    exact h
  | x :: xs, acc, c, k, t, hx, h => by
    refine hx x List.mem_cons_self (fun z c2 => LL dg dt de env (xs.map toD) (acc ++ [z]) c2 k {}) (fun c1 => LL dg dt de env (xs.map toD) acc c1 k {}) (fun hp => ?_) (fun hp => ?_)
    · refine ll_gen toD p f xs (acc ++ [f x]) c k {} (fun y hy => hx y (List.mem_cons_of_mem _ hy)) ?_
      rw [List.filter_cons_of_pos hp] at h
      simpa using h
    · refine ll_gen toD p f xs acc c k {} (fun y hy => hx y (List.mem_cons_of_mem _ hy)) ?_
      rw [List.filter_cons_of_neg (by simp [hp])] at h
      exact h
/-- each item gives one -/
theorem ll_map {α : Type} {dg : DG} {de : DE} {env : Ev} {xs : List α} {c : Nat} {k : List PyData → Nat → Prop} {t : Tg k} (toD : α → PyData) (f : α → PyData)
    (hx : ∀ x ∈ xs, ∀ (A : PyData → Nat → Prop), A (f x) c → dg (.dat (toD x)) env fun env' => de env' c fun y c2 => datK y fun z => A z c2) (h : k (xs.map f) c) : LL dg tOn de env (xs.map toD) [] c k t := by
  refine ll_gen toD (fun _ => true) f xs [] c k t (fun x hm A B ha _ => ?_) ?_
  · have q := hx x hm A (ha rfl)
    have e : (fun env' => tOn env' c fun b c1 => Br b (de env' c1 fun y c2 => datK y fun z => A z c2) (B c1) {} {}) = fun env' => de env' c fun y c2 => datK y fun z => A z c2 := by
      funext env'
      exact x_brT (t1 := {}) (t2 := {})
    rw [e]
    exact q
  · rw [List.filter_eq_self.mpr (fun _ _ => rfl), List.nil_append]
    exact h
theorem ll_ints {dg : DG} {de : DE} {env : Ev} {xs : List Int} {c : Nat} {k : List PyData → Nat → Prop} {t : Tg k} (f : Int → PyData)
    (hx : ∀ x ∈ xs, ∀ (A : PyData → Nat → Prop), A (f x) c → dg (.dat (.int x)) env fun env' => de env' c fun y c2 => datK y fun z => A z c2) (h : k (xs.map f) c) : LL dg tOn de env (dInts xs) [] c k t := ll_map PyData.int f hx h
/-- nothing comes of it -/
theorem ll_none {dg : DG} {dt : DT} {de : DE} {env : Ev} {items : List PyData} {c : Nat} {k : List PyData → Nat → Prop} {t : Tg k} (Q : PyData → Prop) (hQ : ∀ d ∈ items, Q d)
    (hx : ∀ d, Q d → ∀ (A : PyData → Nat → Prop) (B : Nat → Prop), B c → dg (.dat d) env fun env' => dt env' c fun b c1 => Br b (de env' c1 fun y c2 => datK y fun z => A z c2) (B c1) {} {}) (h : k [] c) : LL dg dt de env items [] c k t := by
  have e : items.map id = items := by simp
  rw [← e]
  refine ll_gen id (fun _ => false) id items [] c k t (fun d hd A B _ hB => hx d (hQ d hd) A B (hB rfl)) ?_
  have e2 : items.filter (fun _ => false) = [] := List.filter_eq_nil_iff.mpr (by simp)
  rw [e2]
  exact h
theorem mem_rep {α : Type} {k : Nat} {l : List α} {d : α} (h : d ∈ (List.replicate k l).flatten) : d ∈ l ∧ 0 < k := by
  rw [List.mem_flatten] at h
  obtain ⟨m, hm, hd⟩ := h
  obtain ⟨h0, rfl⟩ := List.mem_replicate.mp hm
  exact ⟨hd, by omega⟩
theorem rep_len {α : Type} (k : Nat) (l : List α) : ((List.replicate k l).flatten).length = k * l.length := by simp
/-- over a range -/
theorem ll_range {dg : DG} {de : DE} {env : Ev} {lo : Int} {n : Nat} {c : Nat} {k : List PyData → Nat → Prop} {t : Tg k} (f : Nat → PyData)
    (hx : ∀ j, j < n → ∀ (A : PyData → Nat → Prop), A (f j) c → dg (.dat (.int (lo + (j : Int)))) env fun env' => de env' c fun y c2 => datK y fun z => A z c2) (h : k ((List.range n).map f) c) : LL dg tOn de env (rangeD lo n) [] c k t :=
  ll_map (fun j : Nat => PyData.int (lo + (j : Int))) f (fun j hj => hx j (List.mem_range.mp hj)) h
theorem ll_rangeF {dg : DG} {dt : DT} {de : DE} {env : Ev} {lo : Int} {n : Nat} {c : Nat} {k : List PyData → Nat → Prop} {t : Tg k} (p : Nat → Bool) (f : Nat → PyData)
    (hx : ∀ j, j < n → ∀ (A : PyData → Nat → Prop) (B : Nat → Prop), (p j = true → A (f j) c) → (p j = false → B c) → dg (.dat (.int (lo + (j : Int)))) env fun env' => dt env' c fun b c1 => Br b (de env' c1 fun y c2 => datK y fun z => A z c2) (B c1) {} {})
    (h : k (((List.range n).filter p).map f) c) : LL dg dt de env (rangeD lo n) [] c k t :=
  ll_gen (fun j : Nat => PyData.int (lo + (j : Int))) p f (List.range n) [] c k t (fun j hj => hx j (List.mem_range.mp hj)) (by rw [List.nil_append]; exact h)
/-- with draws: what has come so far keeps I, and the number of draws -/
theorem ll_inv {dg : DG} {de : DE} {env : Ev} (I : Nat → List PyData → Nat → Prop) : ∀ (items : List PyData) (j : Nat) (acc : List PyData) (c : Nat) (k : List PyData → Nat → Prop) (t : Tg k),
    (∀ (i : Nat) (d : PyData) (acc : List PyData) (c : Nat) (A : PyData → Nat → Prop), items[i]? = some d → I (j + i) acc c → (∀ z c', I (j + i + 1) (acc ++ [z]) c' → A z c') → dg (.dat d) env fun env' => de env' c fun y c2 => datK y fun z => A z c2) →
    I j acc c → (∀ out c', I (j + items.length) out c' → k out c') → LL dg tOn de env items acc c k t
  | [], j, acc, c, k, t, _, h0, hk => hk acc c h0
  | d :: ds, j, acc, c, k, t, hs, h0, hk => by
    have q := hs 0 d acc c (fun z c2 => LL dg tOn de env ds (acc ++ [z]) c2 k {}) rfl h0 (fun z c' hz => ll_inv I ds (j + 1) (acc ++ [z]) c' k {} (fun i d' acc' c'' A hd hI hA => ?_) hz (fun out c'' ho => hk out c'' ?_))
    · have e : (fun env' => tOn env' c fun b c1 => Br b (de env' c1 fun y c2 => datK y fun z => LL dg tOn de env ds (acc ++ [z]) c2 k {}) (LL dg tOn de env ds acc c1 k {}) {} {}) = fun env' => de env' c fun y c2 => datK y fun z => LL dg tOn de env ds (acc ++ [z]) c2 k {} := by
        funext env'
        exact x_brT (t1 := {}) (t2 := {})
      show dg (.dat d) env fun env' => tOn env' c fun b c1 => Br b (de env' c1 fun y c2 => datK y fun z => LL dg tOn de env ds (acc ++ [z]) c2 k {}) (LL dg tOn de env ds acc c1 k {}) {} {}
      rw [e]
      exact q
    · have e : j + 1 + i = j + (i + 1) := by omega
      rw [e] at hI hA
      exact hs (i + 1) d' acc' c'' A hd hI (fun z c3 hz => hA z c3 hz)
    · have e : j + (d :: ds).length = j + 1 + ds.length := by simp; omega
      rw [e]
      exact ho
theorem fl_inv {dg : DG} {db : DS} {a : Ev → Nat → Prop} {b : Vl → Nat → Prop} {e f : Ev → Nat → Prop} {items : List PyData} {env : Ev} {c : Nat} {t : Tg (DEnds.mk a b e f)} (I : Nat → Ev → Nat → Prop)
    (step : ∀ (j : Nat) (d : PyData) (env : Ev) (c : Nat) (k : Ev → Nat → Prop), items[j]? = some d → I j env c → (∀ env' c', I (j + 1) env' c' → k env' c') → dg (.dat d) env fun env' => db (DEnds.mk k b a k) env' c)
    (h0 : I 0 env c) (hk : ∀ env c, I items.length env c → a env c) : FL dg db (DEnds.mk a b e f) items env c t := fl_ok (forL_inv I step h0 hk)
/-- over a list of which only a property is known -/
theorem fl_all {dg : DG} {db : DS} {a : Ev → Nat → Prop} {b : Vl → Nat → Prop} {e f : Ev → Nat → Prop} {items : List PyData} {env : Ev} {c : Nat} {t : Tg (DEnds.mk a b e f)} (I : Ev → Nat → Prop) (Q : PyData → Prop) (hQ : ∀ d ∈ items, Q d)
    (step : ∀ (d : PyData) (env : Ev) (c : Nat) (k : Ev → Nat → Prop), Q d → I env c → (∀ env' c', I env' c' → k env' c') → dg (.dat d) env fun env' => db (DEnds.mk k b a k) env' c)
    (h0 : I env c) (hk : ∀ env c, I env c → a env c) : FL dg db (DEnds.mk a b e f) items env c t :=
  fl_inv (fun _ env c => I env c) (fun j d env c k hd hI hk => step d env c k (hQ d (List.mem_of_getElem? hd)) hI hk) h0 hk
theorem lit_nil {Q : PyData → Prop} : ∀ d ∈ ([] : List PyData), Q d := fun d h => by simp at h
theorem lit_cons {Q : PyData → Prop} {x : PyData} {l : List PyData} (h1 : Q x) (h2 : ∀ d ∈ l, Q d) : ∀ d ∈ x :: l, Q d := fun d hd => by
  rcases List.mem_cons.mp hd with rfl | hd
  · exact h1
  · exact h2 d hd
/-! a walk whose body changes some slots only -/
theorem set_own (env : Ev) (i : Nat) : List.set env i ((env[i]?).getD none) = env := by
  by_cases h : i < env.length
  · rw [List.getElem?_eq_getElem h]
    simp
  · rw [List.set_eq_of_length_le (by omega)]
theorem keep1_eq {env : Ev} {i : Nat} : env = List.set env i ((env[i]?).getD none) := (set_own env i).symm
theorem keep2_eq {env : Ev} {i j : Nat} : env = (List.set env i ((env[i]?).getD none)).set j ((env[j]?).getD none) := by rw [set_own, set_own]
theorem keep3_eq {env : Ev} {i j l : Nat} : env = ((List.set env i ((env[i]?).getD none)).set j ((env[j]?).getD none)).set l ((env[l]?).getD none) := by rw [set_own, set_own, set_own]
theorem keep4_eq {env : Ev} {i j l m : Nat} : env = (((List.set env i ((env[i]?).getD none)).set j ((env[j]?).getD none)).set l ((env[l]?).getD none)).set m ((env[m]?).getD none) := by rw [set_own, set_own, set_own, set_own]
theorem fl_keep1 {dg : DG} {db : DS} {a : Ev → Nat → Prop} {b : Vl → Nat → Prop} {u f : Ev → Nat → Prop} {items : List PyData} {env : Ev} {c : Nat} {t : Tg (DEnds.mk a b u f)} (i : Nat) (Q : PyData → Prop) (C : Nat → Prop) (hQ : ∀ d ∈ items, Q d) (h0 : C c)
    (step : ∀ (d : PyData) (x0 : Option Vl) (c' : Nat) (k : Ev → Nat → Prop), Q d → C c' → (∀ (x0' : Option Vl) (c'' : Nat), C c'' → SetK env i x0' fun e0 => k e0 c'') → SetK env i x0 fun e0 => dg (.dat d) e0 fun env' => db (DEnds.mk k b a k) env' c')
    (hk : ∀ (x0 : Option Vl) (c' : Nat), C c' → SetK env i x0 fun e0 => a e0 c') : FL dg db (DEnds.mk a b u f) items env c t := by
  have key : ∃ (x0 : Option Vl), env = (List.set env i x0) := ⟨(env[i]?).getD none, keep1_eq⟩
  obtain ⟨x0, e⟩ := key
  refine fl_inv (fun _ env' c' => C c' ∧ ∃ x0', env' = (List.set env i x0')) (fun q d env' c' k hd hI hk' => ?_) ⟨h0, x0, e⟩ (fun env' c' hI => ?_)
  · obtain ⟨hC, x0', rfl⟩ := hI
    exact step d x0' c' k (hQ d (List.mem_of_getElem? hd)) hC (fun x0 c'' hC' => hk' _ _ ⟨hC', x0, rfl⟩)
  · obtain ⟨hC, x0', rfl⟩ := hI
    exact hk x0' c' hC
theorem fl_keep2 {dg : DG} {db : DS} {a : Ev → Nat → Prop} {b : Vl → Nat → Prop} {u f : Ev → Nat → Prop} {items : List PyData} {env : Ev} {c : Nat} {t : Tg (DEnds.mk a b u f)} (i j : Nat) (Q : PyData → Prop) (C : Nat → Prop) (hQ : ∀ d ∈ items, Q d) (h0 : C c)
    (step : ∀ (d : PyData) (x0 x1 : Option Vl) (c' : Nat) (k : Ev → Nat → Prop), Q d → C c' → (∀ (x0' x1' : Option Vl) (c'' : Nat), C c'' → SetK env i x0' fun e0 => SetK e0 j x1' fun e1 => k e1 c'') → SetK env i x0 fun e0 => SetK e0 j x1 fun e1 => dg (.dat d) e1 fun env' => db (DEnds.mk k b a k) env' c')
    (hk : ∀ (x0 x1 : Option Vl) (c' : Nat), C c' → SetK env i x0 fun e0 => SetK e0 j x1 fun e1 => a e1 c') : FL dg db (DEnds.mk a b u f) items env c t := by
  have key : ∃ (x0 x1 : Option Vl), env = ((List.set env i x0).set j x1) := ⟨(env[i]?).getD none, (env[j]?).getD none, keep2_eq⟩
  obtain ⟨x0, x1, e⟩ := key
  refine fl_inv (fun _ env' c' => C c' ∧ ∃ x0' x1', env' = ((List.set env i x0').set j x1')) (fun q d env' c' k hd hI hk' => ?_) ⟨h0, x0, x1, e⟩ (fun env' c' hI => ?_)
  · obtain ⟨hC, x0', x1', rfl⟩ := hI
    exact step d x0' x1' c' k (hQ d (List.mem_of_getElem? hd)) hC (fun x0 x1 c'' hC' => hk' _ _ ⟨hC', x0, x1, rfl⟩)
  · obtain ⟨hC, x0', x1', rfl⟩ := hI
    exact hk x0' x1' c' hC
theorem fl_keep3 {dg : DG} {db : DS} {a : Ev → Nat → Prop} {b : Vl → Nat → Prop} {u f : Ev → Nat → Prop} {items : List PyData} {env : Ev} {c : Nat} {t : Tg (DEnds.mk a b u f)} (i j l : Nat) (Q : PyData → Prop) (C : Nat → Prop) (hQ : ∀ d ∈ items, Q d) (h0 : C c)
    (step : ∀ (d : PyData) (x0 x1 x2 : Option Vl) (c' : Nat) (k : Ev → Nat → Prop), Q d → C c' → (∀ (x0' x1' x2' : Option Vl) (c'' : Nat), C c'' → SetK env i x0' fun e0 => SetK e0 j x1' fun e1 => SetK e1 l x2' fun e2 => k e2 c'') → SetK env i x0 fun e0 => SetK e0 j x1 fun e1 => SetK e1 l x2 fun e2 => dg (.dat d) e2 fun env' => db (DEnds.mk k b a k) env' c')
    (hk : ∀ (x0 x1 x2 : Option Vl) (c' : Nat), C c' → SetK env i x0 fun e0 => SetK e0 j x1 fun e1 => SetK e1 l x2 fun e2 => a e2 c') : FL dg db (DEnds.mk a b u f) items env c t := by
  have key : ∃ (x0 x1 x2 : Option Vl), env = (((List.set env i x0).set j x1).set l x2) := ⟨(env[i]?).getD none, (env[j]?).getD none, (env[l]?).getD none, keep3_eq⟩
  obtain ⟨x0, x1, x2, e⟩ := key
  refine fl_inv (fun _ env' c' => C c' ∧ ∃ x0' x1' x2', env' = (((List.set env i x0').set j x1').set l x2')) (fun q d env' c' k hd hI hk' => ?_) ⟨h0, x0, x1, x2, e⟩ (fun env' c' hI => ?_)
  · obtain ⟨hC, x0', x1', x2', rfl⟩ := hI
    exact step d x0' x1' x2' c' k (hQ d (List.mem_of_getElem? hd)) hC (fun x0 x1 x2 c'' hC' => hk' _ _ ⟨hC', x0, x1, x2, rfl⟩)
  · obtain ⟨hC, x0', x1', x2', rfl⟩ := hI
    exact hk x0' x1' x2' c' hC
theorem fl_keep4 {dg : DG} {db : DS} {a : Ev → Nat → Prop} {b : Vl → Nat → Prop} {u f : Ev → Nat → Prop} {items : List PyData} {env : Ev} {c : Nat} {t : Tg (DEnds.mk a b u f)} (i j l m : Nat) (Q : PyData → Prop) (C : Nat → Prop) (hQ : ∀ d ∈ items, Q d) (h0 : C c)
    (step : ∀ (d : PyData) (x0 x1 x2 x3 : Option Vl) (c' : Nat) (k : Ev → Nat → Prop), Q d → C c' → (∀ (x0' x1' x2' x3' : Option Vl) (c'' : Nat), C c'' → SetK env i x0' fun e0 => SetK e0 j x1' fun e1 => SetK e1 l x2' fun e2 => SetK e2 m x3' fun e3 => k e3 c'') → SetK env i x0 fun e0 => SetK e0 j x1 fun e1 => SetK e1 l x2 fun e2 => SetK e2 m x3 fun e3 => dg (.dat d) e3 fun env' => db (DEnds.mk k b a k) env' c')
    (hk : ∀ (x0 x1 x2 x3 : Option Vl) (c' : Nat), C c' → SetK env i x0 fun e0 => SetK e0 j x1 fun e1 => SetK e1 l x2 fun e2 => SetK e2 m x3 fun e3 => a e3 c') : FL dg db (DEnds.mk a b u f) items env c t := by
  have key : ∃ (x0 x1 x2 x3 : Option Vl), env = ((((List.set env i x0).set j x1).set l x2).set m x3) := ⟨(env[i]?).getD none, (env[j]?).getD none, (env[l]?).getD none, (env[m]?).getD none, keep4_eq⟩
  obtain ⟨x0, x1, x2, x3, e⟩ := key
  refine fl_inv (fun _ env' c' => C c' ∧ ∃ x0' x1' x2' x3', env' = ((((List.set env i x0').set j x1').set l x2').set m x3')) (fun q d env' c' k hd hI hk' => ?_) ⟨h0, x0, x1, x2, x3, e⟩ (fun env' c' hI => ?_)
  · obtain ⟨hC, x0', x1', x2', x3', rfl⟩ := hI
    exact step d x0' x1' x2' x3' c' k (hQ d (List.mem_of_getElem? hd)) hC (fun x0 x1 x2 x3 c'' hC' => hk' _ _ ⟨hC', x0, x1, x2, x3, rfl⟩)
  · obtain ⟨hC, x0', x1', x2', x3', rfl⟩ := hI
    exact hk x0' x1' x2' x3' c' hC
/-- a draw -/
theorem draw_ok {m : Int} {c : Nat} {P : Vl → Nat → Prop} {t : Tg P} (h0 : 0 < m) (h1 : m < 2 ^ 200) (hc : c < 10000000) (h : ∀ r : Int, 0 ≤ r → r < m → P (.dat (.int r)) (c + 1)) : Cl (fun xs c P => xs.length = 2 ∧ drawSpec xs c P) [.deck, .dat (.int m)] c P t := ⟨rfl, h0, h1, by omega, h⟩
theorem plain_start (N : Nat) (d : PyData) : ∀ x ∈ startE N [.dat d], plain x := fun x hx => by
  simp only [startE, List.map_cons, List.map_nil, List.mem_append, List.mem_singleton, List.mem_replicate] at hx
  rcases hx with rfl | ⟨_, rfl⟩ <;> trivial
/-- the law's first row: the deck -/
theorem law_start {N i : Nat} {t : DS} {ns : List Int} {P : Vl → Nat → Prop} (h63 : ns.length ≤ 63)
    (h : StK N [.dat (.list (ns.map PyData.int))] fun env => SetK env i (some .deck) fun env' => t { nx := fun _ c' => P (.dat .none) c', rt := P, bk := fun _ _ => False, ct := fun _ _ => False } env' 0) :
    bodySpec N (sSeq (sDeck i 0) t) [.dat (.list (ns.map PyData.int))] 0 P := ⟨⟨ns, h63, rfl⟩, plain_start N _, h⟩
/-- a list that is written out, by a drawn or counted place -/
theorem at_lit {ds : List PyData} {i : Int} (h0 : 0 ≤ i) (h1 : i < ds.length) : ∃ k : Nat, ∃ hk : k < ds.length, i = (k : Int) ∧ atI ds i = some ds[k] := by
  obtain ⟨k, rfl⟩ := Int.eq_ofNat_of_zero_le h0
  have hk : k < ds.length := by omega
  exact ⟨k, hk, rfl, atI_nat (List.getElem?_eq_getElem hk)⟩
/-- a list of ints that is written out, by a drawn or counted place: all that is known of what comes is p -/
theorem ixk_int (xs : List Int) (p : Int → Prop) {i : Int} {P : PyData → Prop} {t : Tg P} (h0 : 0 ≤ i) (h1 : i < xs.length) (hp : ∀ x ∈ xs, p x) (h : ∀ x, p x → P (.int x)) : IxK (dInts xs) i P t := by
  obtain ⟨k, hk, _, e⟩ := at_lit (ds := dInts xs) h0 (by simpa [dInts] using h1)
  refine ixk_ok e ?_
  have : (dInts xs)[k] = .int (xs[k]'(by simpa [dInts] using hk)) := by simp [dInts]
  rw [this]
  exact h _ (hp _ (List.getElem_mem _))
end DL
set_option maxHeartbeats 2000000
/-! list(range(n)) of one's own, a copy of one's own list, one's own list against another -/
namespace DL
open PySem PySem.Spec PyProof.Rows L2
def fRg (da : DE) : DF := fun env c P => da env c fun x c1 => datK x fun d => match d with
  | .int n => 0 ≤ n ∧ n ≤ 16777216 ∧ P (rangeD 0 n.toNat) c1
  | _ => False
def dOwnLst (i : Nat) : DE := fun env c P => match env[i]? with
  | some (some (.own l)) => P (.dat (.list l)) c
  | _ => False
def dOwnNe (i : Nat) (db : DE) : DE := fun env c P => match env[i]? with
  | some (some (.own l)) => db env c fun y c1 => datK y fun e => rdNe (.list l) e fun z => P (.dat z) c1
  | _ => False
section
variable {X : Cx} {E : En} {a b : Expr} {da db : DE} {p1 p2 pos pos2 : Pos}
theorem df_lstRg (hmr : X.mg "range" = none) (hmt : X.mg "list" = none) (ha : DPE X E a da) (hc : X.calm = true := by rfl) (hgr : Gl X "range" := by rfl) (hgt : Gl X "list" := by rfl)
    (na : starEach [a] X.env = (false, eval a X.env) :: starEach [] X.env := by rfl)
    (nb : starEach [.Call (.Name "range" p1) [a] [] pos] X.env = (false, eval (.Call (.Name "range" p1) [a] [] pos) X.env) :: starEach [] X.env := by rfl) :
    DPF X E (.Call (.Name "list" p2) [.Call (.Name "range" p1) [a] [] pos] [] pos2) (fRg da) := by
  refine pe_imp (pe_listRg hc hgt hmt (prg_1 hgr hmr ha na) nb) fun σ H Q h => ?_
  obtain ⟨g, env, c, P, rel, q, k⟩ := h
  refine ⟨g, env, c, _, rel, q, fun x c1 g1 H1 v p1 m1 r1 o1 f1 => ?_⟩
  cases x with
  | deck => exact p1.elim
  | exc _ => exact p1.elim
  | own l => exact p1.elim
  | dat d =>
    cases d <;> try exact p1.elim
    rename_i n
    have o1 : Dp X.K g1.F v (.int n) := o1
    obtain ⟨h0, h1, hP⟩ := p1
    cases o1
    exact ⟨n, rfl, .of_le (Int.le_refl _) h1 (by decide) h0, fun b hb => fresh_end k hP m1 r1 (dpAll_rg n) b hb⟩
theorem de_ownLst (i : Nat) {x : Str} (hm : X.mg "list" = none) (hN : X.N[i]? = some x := by rfl) (hv : Vis X.env.scope x := by first | exact Or.inl rfl | exact Or.inr (Or.inl rfl) | exact Or.inr (Or.inr rfl)) (h1 : (x == ("__debug__" : Str)) = false := by decide)
    (h2 : (x == ("__classdict__" : Str)) = false := by decide) (hg : Gl X "list" := by rfl)
    (he : starEach [.Name x p1] X.env = (false, eval (.Name x p1) X.env) :: starEach [] X.env := by rfl) (hpl : (backTo pos (starEach [] X.env)).any (·.1) = false := by rfl) :
    DPE X E (.Call (.Name "list" p2) [.Name x p1] [] pos) (dOwnLst i) := by
  refine pe_imp (pe_callTy call_list_of hg hm (by decide +kernel) (pa_cons (pe_var hN hv h1 h2) pa_nil he) (by decide) (by decide) he hpl) fun σ H Q h => ?_
  obtain ⟨g, env, c, P, rel, q, k⟩ := h
  unfold dOwnLst at q
  split at q
  · rename_i l e
    obtain ⟨v, e1, p, xs, rfl, h3, h4, h5, h6⟩ := rel.sl i _ e
    refine ⟨_, e1, _, _, rfl, .inl (.of h5), fun b hb => ?_⟩
    obtain ⟨r2, m2⟩ := rel.new (.lst xs) hb
    exact k _ _ _ _ _ q m2 r2 (Dp.lst (.of upd_same) (dpAll_mono m2.f h6)) trivial
  · exact q.elim
theorem ownNe_up {K : PySem.W.Frag} {i : Nat} {σ : L2.St} {H : Hp} {Q : VK} (h : up K E (dOwnNe i db) σ H Q) : tOp (rNeD K) (tVar i) (up K E db) σ H Q := by
  obtain ⟨g, env, c, P, rel, q, k⟩ := h
  unfold dOwnNe at q
  split at q
  · rename_i l e
    obtain ⟨v, e1, p, xs, rfl, h3, h4, h5, h6⟩ := rel.sl i _ e
    refine ⟨_, e1, g, env, c, _, rel, q, fun y c1 g1 H1 w p1 m1 r1 o1 f1 => ?_⟩
    cases y with
    | deck => exact p1.elim
    | exc _ => exact p1.elim
    | own l => exact p1.elim
    | dat d =>
      have o1 : Dp K g1.F w d := o1
      have p1 : SeqAt.shaped (.list l) = true ∧ SeqAt.shaped d = true ∧ P (.dat (.bool (!PyData.eqv (.list l) d))) c1 := by
        have p1 : rdNe (.list l) d fun z => P (.dat z) c1 := p1
        unfold rdNe rdEq at p1
        cases d <;> exact p1
      have h5' := m1.fr p _ h5 h4
      have h6' := dpAll_mono m1.f h6
      have D1 : Dp K H1 (.ref p) (.list l) := .lst (.of h5') (dpAll_mono r1.ex h6')
      exact ⟨_, _, dp_l2 D1 (PyData.hasDict_of_canLay _ (SeqAt.canLay_of_shaped p1.1)), dp_l2 (dp_mono r1.ex o1) (PyData.hasDict_of_canLay _ (SeqAt.canLay_of_shaped p1.2.1)), p1.1, p1.2.1, k _ c1 g1 H1 _ p1.2.2 m1 r1 (.bl _) trivial⟩
  · exact q.elim
theorem dt_ownNe (i : Nat) {x : Str} {k : Nat} (hr : Room k X.A) (hb : DPE X E b db) (hN : X.N[i]? = some x := by rfl) (hv : Vis X.env.scope x := by first | exact Or.inl rfl | exact Or.inr (Or.inl rfl) | exact Or.inr (Or.inr rfl)) (h1 : (x == ("__debug__" : Str)) = false := by decide)
    (h2 : (x == ("__classdict__" : Str)) = false := by decide) (hm : behindInMarks .NotEq b = false := by first | exact nobehind _ (by decide) (by decide) | rfl) : DPT X E (.Compare (.Name x p1) [.NotEq] [b] pos) (tVal (dOwnNe i db)) :=
  pt_imp (pt_cmpR (op_neD hr.units) (pe_var hN hv h1 h2) hb hm) fun _ _ _ h => tB_up (fun _ _ _ h => ownNe_up h) h
end
section
variable {env : Ev} {c : Nat} {P : Vl → Nat → Prop} {PF : List PyData → Nat → Prop} {da db : DE} {i : Nat}
theorem x_frg : fRg da env c PF = da env c fun x c1 => datK x fun d => match d with
  | .int n => Sq (0 ≤ n) (Sq (n ≤ 16777216) (PF (rangeD 0 n.toNat) c1) {}) {}
  | _ => False := rfl
theorem x_ownLst : dOwnLst i env c P = OwnK env i fun l => P (.dat (.list l)) c := rfl
theorem x_ownNe : dOwnNe i db env c P = OwnK env i fun l => db env c fun y c1 => datK y fun e => rdNe (.list l) e fun z => P (.dat z) c1 := rfl
end
end DL
set_option maxHeartbeats 2000000
/-! x.extend([..]), range(a, b, -1) -/
namespace DL
open PySem PySem.Spec PyProof.Rows L2
def sExt (i : Nat) (dt : DF) : DS := fun D env c => match env[i]? with
  | some (some (.own l)) => dt env c fun m c1 => l.length + m.length ≤ sizeLine ∧ D.nx (env.set i (some (.own (l ++ m)))) c1
  | _ => False
def downD (hi : Int) (n : Nat) : List PyData := (List.range n).map fun (k : Nat) => PyData.int (hi - k)
def wR3 (da : DA) : DI := fun env c P => da env c fun xs c1 => datsK xs fun ds => match ds with
  | [.int i, .int j, .int k] => (k = -1 ∧ -(2 ^ 62) ≤ i ∧ i < 2 ^ 62 ∧ -(2 ^ 62) ≤ j ∧ j < 2 ^ 62) ∧ P (downD i (i - j).toNat) c1
  | _ => False
def dOwnEq (i : Nat) (db : DE) : DE := fun env c P => match env[i]? with
  | some (some (.own l)) => db env c fun y c1 => datK y fun e => rdEq (.list l) e fun z => P (.dat z) c1
  | _ => False
theorem downD_len (hi : Int) (n : Nat) : (downD hi n).length = n := by simp [downD]
theorem walkD_down {K : PySem.W.Frag} {g : Gh} {hi : Int} {n : Nat} : WalkD K g (Itc hi (-1) n) (downD hi n) := by
  refine ⟨_, _, by rw [downD_len]; exact walk_rangeC, fun _ _ _ _ => trivial, fun i H x H' d e y => ?_⟩
  obtain ⟨rfl, rfl⟩ := y
  unfold downD at e
  rw [List.getElem?_map] at e
  by_cases hi2 : i < n
  · rw [List.getElem?_range hi2] at e
    cases e
    have z : hi + (i : Int) * (-1) = hi - (i : Int) := by omega
    refine .inl ⟨rfl, ?_⟩
    show Dp K g.F (V.int (hi + (i : Int) * (-1))) (PyData.int (hi - (i : Int)))
    rw [z]
    exact .int _
  · rw [List.getElem?_eq_none (by simpa using hi2)] at e
    cases e
section
variable {X : Cx} {E : En} {tg a b d : Expr} {da db : DE} {dr : DA} {dt : DF} {pos p : Pos}
theorem dw_r3 (ha : DPA X E [a, b, d] dr) (hm : X.mg "range" = none) (hg : Gl X "range" := by rfl) (hs : starEach [a, b, d] X.env = (false, eval a X.env) :: starEach [b, d] X.env := by rfl) (hpl : (backTo pos (starEach [b, d] X.env)).any (·.1) = false := by rfl) :
    DPI X E tg (.Call (.Name "range" p) [a, b, d] [] pos) (wR3 dr) := by
  refine pi_imp (pi_range3 hg hm ha hs hpl) fun σ H R h => ?_
  obtain ⟨g, env, c, P, rel, q, k⟩ := h
  refine ⟨g, env, c, _, rel, q, fun xs c1 g1 H1 vs p1 m1 r1 o1 f1 => ?_⟩
  obtain ⟨ds, h1, h2⟩ := datsK_all o1 p1
  split at h1
  · cases h2 with
    | cons h3 t =>
      cases t with
      | cons h4 t =>
        cases t with
        | cons h5 t =>
          cases t
          obtain ⟨⟨rfl, b1, b2, b3, b4⟩, q1⟩ := h1
          exact ⟨_, _, _, _, by rw [dp_int h3, dp_int h4, dp_int h5], RgC.neg b1 b2 b3 b4, k _ c1 g1 H1 _ q1 m1 r1 walkD_down⟩
  · exact h1.elim
theorem ownEq_up {K : PySem.W.Frag} {i : Nat} {σ : L2.St} {H : Hp} {Q : VK} (h : up K E (dOwnEq i db) σ H Q) : tOp (rEqD K) (tVar i) (up K E db) σ H Q := by
  obtain ⟨g, env, c, P, rel, q, k⟩ := h
  unfold dOwnEq at q
  split at q
  · rename_i l e
    obtain ⟨v, e1, p, xs, rfl, h3, h4, h5, h6⟩ := rel.sl i _ e
    refine ⟨_, e1, g, env, c, _, rel, q, fun y c1 g1 H1 w p1 m1 r1 o1 f1 => ?_⟩
    cases y with
    | deck => exact p1.elim
    | exc _ => exact p1.elim
    | own l => exact p1.elim
    | dat d =>
      have o1 : Dp K g1.F w d := o1
      have p1 : SeqAt.shaped (.list l) = true ∧ SeqAt.shaped d = true ∧ P (.dat (.bool (PyData.eqv (.list l) d))) c1 := by
        have p1 : rdEq (.list l) d fun z => P (.dat z) c1 := p1
        unfold rdEq at p1
        cases d <;> exact p1
      have h5' := m1.fr p _ h5 h4
      have h6' := dpAll_mono m1.f h6
      have D1 : Dp K H1 (.ref p) (.list l) := .lst (.of h5') (dpAll_mono r1.ex h6')
      exact ⟨_, _, dp_l2 D1 (PyData.hasDict_of_canLay _ (SeqAt.canLay_of_shaped p1.1)), dp_l2 (dp_mono r1.ex o1) (PyData.hasDict_of_canLay _ (SeqAt.canLay_of_shaped p1.2.1)), p1.1, p1.2.1, k _ c1 g1 H1 _ p1.2.2 m1 r1 (.bl _) trivial⟩
  · exact q.elim
theorem dt_ownEq (i : Nat) {x : Str} {k : Nat} (hr : Room k X.A) (hb : DPE X E b db) (hN : X.N[i]? = some x := by rfl) (hv : Vis X.env.scope x := by first | exact Or.inl rfl | exact Or.inr (Or.inl rfl) | exact Or.inr (Or.inr rfl)) (h1 : (x == ("__debug__" : Str)) = false := by decide)
    (h2 : (x == ("__classdict__" : Str)) = false := by decide) (hm : behindInMarks .Eq b = false := by first | exact nobehind _ (by decide) (by decide) | rfl) : DPT X E (.Compare (.Name x p) [.Eq] [b] pos) (tVal (dOwnEq i db)) :=
  pt_imp (pt_cmpR (op_eqD hr.units) (pe_var hN hv h1 h2) hb hm) fun _ _ _ h => tB_up (fun _ _ _ h => ownEq_up h) h
/-- x.extend([..]) -/
theorem ds_ext (i : Nat) {x : Str} {p1 p2 p3 : Pos} (h : DPF X E a dt) (hN : X.N[i]? = some x := by rfl) (hv : Vis X.env.scope x := by first | exact Or.inl rfl | exact Or.inr (Or.inl rfl) | exact Or.inr (Or.inr rfl)) (h1 : (x == ("__debug__" : Str)) = false := by decide)
    (h2 : (x == ("__classdict__" : Str)) = false := by decide) (hb : attributeBase (.Name x p1) "extend" X.env (eval (.Name x p1) X.env) = eval (.Name x p1) X.env := by rfl)
    (hfew : ((backTo p3 (starEach [a] X.env)).all (fun x => !x.1) && (backToKw p3 (keywordEach [] X.env)).all (fun x => x.1.isSome) && decide ([a].length + ([] : List Keyword).length + (if ([] : List Keyword).isEmpty then 0 else 1) < 30)) = true := by rfl)
    (hline : (p2.endLine == p3.line) = true := by rfl) (he : starEach [a] X.env = (false, eval a X.env) :: starEach [] X.env := by rfl) (hpl : (backTo p3 (starEach [] X.env)).any (·.1) = false := by rfl)
    (hs : swapsWith (.Call (.Attribute (.Name x p1) "extend" p2) [a] [] p3) none pos.line X.env = pure false := by rfl) :
    DPS X E (.Expr (.Call (.Attribute (.Name x p1) "extend" p2) [a] [] p3) pos) (sExt i dt) := by
  refine ps_imp (ps_expr (pe_bm PySem.F.plainAttrs_list PySem.F.slot_list_extend PySem.F.type_list_extend mt_extend (pe_var hN hv h1 h2) (pa_cons h pa_nil he) hb hfew hline he hpl) hs) fun D σ H h => ?_
  obtain ⟨g, env, c, P, rel, q, k, _⟩ := h
  unfold sExt at q
  split at q
  · rename_i l e
    obtain ⟨v, e1, p, xs, rfl, h3, h4, h5, h6⟩ := rel.sl i _ e
    refine ⟨_, e1, .inl ⟨rfl, _, .of h5⟩, g, env, c, _, rel, q, fun m c1 g1 H1 p' zs p1 m1 r1 hp hp' hF ha => ?_⟩
    have h5' := m1.fr p _ h5 h4
    exact ⟨p, p', xs, zs, rfl, rfl, h5', hp', by rw [DpAll.len h6, DpAll.len ha]; exact p1.1, k _ c1 g1 _ _ p1.2 m1.f (r1.writeOwn i e e1 (DpAll.app (dpAll_mono m1.f h6) ha))⟩
  · exact q.elim
end
theorem x_ownEq {db : DE} {env : Ev} {c : Nat} {P : Vl → Nat → Prop} {i : Nat} : dOwnEq i db env c P = OwnK env i fun l => db env c fun y c1 => datK y fun e => rdEq (.list l) e fun z => P (.dat z) c1 := rfl
section
variable {env : Ev} {c : Nat} {PF : List PyData → Nat → Prop} {da : DA} {dt : DF} {i : Nat} {D : DEnds}
theorem x_ext : sExt i dt D env c = OwnK env i fun l => dt env c fun m c1 => Sq (l.length + m.length ≤ sizeLine) (SetK env i (some (.own (l ++ m))) fun env' => D.nx env' c1) {} := rfl
theorem x_wr3 : wR3 da env c PF = da env c fun xs c1 => datsK xs fun ds => match ds with
  | [.int i, .int j, .int k] => Sq (k = -1 ∧ -(2 ^ 62) ≤ i ∧ i < 2 ^ 62 ∧ -(2 ^ 62) ≤ j ∧ j < 2 ^ 62) (PF (downD i (i - j).toNat) c1) {}
  | _ => False := rfl
end
end DL
set_option maxHeartbeats 3200000
/-! sorted(set(xs)) of a list of ints -/
namespace DL
open PySem PySem.Spec PyProof.Rows L2
/-- the set that set(..) begins with -/
def nuS (w : World) : Obj := { cls := .type "set", dict := none, data := .set #[] 0 (.fresh 0 0 (!w.params.followText "set-order")) }
section
variable {P : Program} {w : World} {A : Around} {E : Value → Shared → Prop} {s : Shared}
/-- the loop of set.update over a list that stands in the heap with the new set -/
theorem upd_lst {l a I : Addr} {its : Array Value} {ns : List Int} (hh : A.in1.handled = none) (hi : IntsAre its.toList ns) (hb : ns.length + 1 < scanBound) (la : l ≠ I) (aI : a ∉ [I, l]) (hit : s.heap.IsListIter I l 0) (hl : s.heap.IsList l its) (hs : s.heap.get? a = some (nuS w)) {R : Result → Shared → Prop}
    (k : ∀ s' c, Moved (a :: [I]) (fun g g' => g' = g) s s' → c ≤ ns.length → SetR w s'.heap a (fun j => decide (j ∈ ns)) c → R (.ok (.ret .none)) s') : codeAny (model P w) A (.builtin "set.update.loop" ⟨[.ref a, .ref I], []⟩) R s := by
  have hz : its.size = ns.length := by
    rw [← Array.length_toList]
    exact IntsAre.length hi
  have val : ∀ (i : Nat) (v : Value), its[i]? = some v → ∃ z t, ns[i]? = some z ∧ v = .int z t := fun i v hv => by
    have hin : i < ns.length := hz ▸ (Array.getElem?_eq_some_iff.mp hv).1
    obtain ⟨t, e⟩ := IntsAre.int_at hi i v (by rw [Array.getElem?_toList, hv])
    refine ⟨ns[i], t, List.getElem?_eq_getElem hin, e.trans ?_⟩
    simp [List.getD, hin]
  exact set_update_ints ((Walks.list hh I l la its).toS) a aI ns hz hb val its.size 0 s (by omega) (Nat.zero_le _) ⟨hit, hl⟩ ⟨0, Nat.le_refl 0, setR_new_at hs⟩ (fun s' c m hc S => k s' c m (hz ▸ hc) S)
theorem set_lst {l : Addr} {its : Array Value} {ns : List Int} {Q : Value → Shared → Prop} (hh : A.handled = none) (hl : s.heap.IsList l its) (hi : IntsAre its.toList ns) (hb : ns.length + 1 < scanBound)
    (q : ∀ (hp : Heap) (tk c : Nat), SetR w hp s.heap.objs.size (fun j => decide (j ∈ ns)) c → c ≤ ns.length → (∀ b o, s.heap.get? b = some o → hp.get? b = some o) → Q (.ref s.heap.objs.size) { s with heap := hp, toks := tk }) : wpAny (model P w) A (call (.type "set") [.ref l]) Q E s := by
  obtain ⟨c0, tl0, f1⟩ := F.called_set.mro
  have f2 := F.called_set.made
  have f3 := F.called_set.sub
  have f4 := F.called_set.notType
  have f5 := F.called_set.canCreate
  have f6 := F.typeCall_set_1 (.ref l)
  refine wpAny_call (codeAny_of_tree (show wpAny _ _ (callAny (.type "set") _) _ _ _ from wpAny_pure ⟨Code.quiet_builtin _ (by decide +kernel), codeAny_builtin F.entry_type_call ?_⟩))
  rw [Around.under_plain (weight_type_call_type "set" [.ref l] []) rfl]
  (repeat any_goals first | (assumption) | wp_step)
  have new : (s.heap.push (nuS w)).get? s.heap.objs.size = some (nuS w) := Heap.get?_push_size _ rfl
  refine codeAny_mono (code_set_led1 (.ref l) (E := E) (Q₁ := fun v z => v = .ref s.heap.objs.size ∧ z = { s with heap := s.heap.push (nuS w) }) ⟨rfl, rfl⟩) fun r z hr => ?_
  cases r with
  | error e => exact hr
  | ok fl =>
    cases fl with
    | ret obj =>
      obtain ⟨rfl, rfl⟩ := hr
      have ty : Shared.TypeIs { s with heap := s.heap.push (nuS w) } (.ref s.heap.objs.size) "set" := ⟨_, new, rfl⟩
      have f7 := F.called_set.init.lookup
      have f8 := F.called_set.init.bind (.ref s.heap.objs.size)
      (repeat any_goals first | (assumption) | wp_step)
      refine codeAny_mono (codeAny_call_builtin (R := wants (fun v y => v = .none ∧ ∃ hp tk c, y = { s with heap := hp, toks := tk } ∧ SetR w hp s.heap.objs.size (fun j => decide (j ∈ ns)) c ∧ c ≤ ns.length ∧ ∀ b o, s.heap.get? b = some o → hp.get? b = some o) E) F.called_set.init.plain F.entry_set_init (check_set_init_1 ty ?_)) fun r2 z2 hr2 => ?_
      · obtain ⟨o, ho, oc, nl, od⟩ := hl
        obtain ⟨ocls, odict, odata, oslots⟩ := o
        dsimp only at oc od
        subst oc
        subst od
        have ho2 : (s.heap.push (nuS w)).get? l = some { cls := .type "list", dict := odict, data := .seq its nl, slots := oslots } := Heap.get?_push_of_some _ ho
        have n1 := F.sub_list_set
        have n2 := F.sub_list_frozenset
        have n3 : (Value.type "list" == Value.type "dict") = false := by decide
        have lst : (s.heap.push (nuS w)).IsList l its := ⟨_, ho2, rfl, nl, rfl⟩
        have lt : l < s.heap.objs.size := Heap.lt_size ho
        have sz : (s.heap.push (nuS w)).objs.size = s.heap.objs.size + 1 := Heap.size_push ..
        unfold Builtin.«set.__init__» noKeywords Builtin.Frozenset.updateFrom
        generalize hPI : pyIter = PI
        wp_walk
        subst hPI
        refine wpAny_pyIter_list lst (wpAny_bind (wpAny_runValue ?_))
        refine upd_lst (its := its) (ns := ns) (by simp [hh]) hi hb (by rw [sz]; exact Nat.ne_of_lt (Nat.lt_succ_of_lt lt)) (by rw [sz]; simp only [List.mem_cons, List.not_mem_nil, or_false, not_or]; exact ⟨Nat.ne_of_lt (Nat.lt_succ_self _), Nat.ne_of_gt lt⟩) ⟨_, Heap.get?_push_size _ rfl, rfl, rfl⟩ (lst.push _) (Heap.get?_push_of_some _ new) fun s' c m hc S => ?_
        obtain ⟨hp, g2, d2, tk, os2⟩ := s'
        obtain rfl : g2 = s.gens := m.gens
        obtain rfl : d2 = s.drawn := m.drawn
        obtain rfl : os2 = s.os := m.os
        show wpAny _ _ _ _ _ _
        refine wpAny_pure (show wpAny _ _ (ret Value.none) _ _ _ from wpAny_pure ⟨rfl, hp, tk, c, rfl, S, hc, fun b o e => ?_⟩)
        have b0 : b < s.heap.objs.size := Heap.lt_size e
        refine m.heap b o (fun z => ?_) (Heap.get?_push_of_some _ (Heap.get?_push_of_some _ e))
        rw [sz] at z
        simp only [List.mem_cons, List.not_mem_nil, or_false] at z
        rcases z with z | z
        · exact Nat.ne_of_lt b0 z
        · exact Nat.ne_of_lt (Nat.lt_succ_of_lt b0) z
      · cases r2 with
        | error e => exact hr2
        | ok fl2 =>
          cases fl2 with
          | ret v =>
            obtain ⟨rfl, hp, tk, c, rfl, S, hc, kp⟩ := hr2
            (repeat any_goals first | (assumption) | wp_step)
            exact q _ _ _ S hc kp
          | _ => exact hr2.elim
    | _ => exact hr.elim
end
/-- set(xs) -/
def rSetL (w : World) (K : PySem.W.Frag) : List V → Hp → VK → Prop := fun xs H Q => ∃ (p : Addr) (ns : List Int), xs = [V.ref p] ∧ SqL K H p (ns.map V.int) ∧ ns.length ≤ 1000 ∧ ∀ a c, H a = none → c ≤ ns.length → Q (.ref a) (upd H a (SetO w a (fun j => decide (j ∈ ns)) c))
theorem cr_setL {X : Cx} (hc : X.calm = true) : CallR X (.type "set") (rSetL X.w X.K) := by
  intro pins s σ H xs us Q I r h
  obtain ⟨p, ns, rfl, hq, hl, q⟩ := h
  rw [Vals.ref1 r]
  obtain ⟨its, rv, pl, hz⟩ := I.list hq
  have hi : IntsAre its.toArray.toList ns := ints_of_vals rv
  refine set_lst (I.ok.hd hc) pl.isList hi (by unfold scanBound; omega) fun hp tk c S hcn k => ?_
  exact ⟨.ref s.heap.objs.size, upd H s.heap.objs.size (SetO X.w s.heap.objs.size (fun j => decide (j ∈ ns)) c), I.laid (t' := tk) k (Nat.le_refl _) (setO_new S), rfl, q _ c (I.hok.fresh (Nat.le_refl _)) hcn⟩
/-! ### over data -/
def rdSrtSet : PyData → (PyData → Prop) → Prop := fun d P => match d with
  | .list ds => ∃ ns, intsOf ds = some ns ∧ ns.length < 64 ∧ ∀ out : List Int, out.Pairwise (· < ·) → (∀ k, k ∈ out ↔ k ∈ ns) → P (.list (dInts out))
  | _ => False
theorem dpAll_intsS {K : PySem.W.Frag} {F : Hp} : ∀ ns : List Int, DpAll K F (ns.map V.int) (dInts ns)
  | [] => .nil
  | n :: ns => .cons (.int n) (dpAll_intsS ns)
section
variable {X : Cx} {E : En} {a : Expr} {p1 p2 pos pos2 : Pos} {da : DE}
theorem de_srtSet (hms : X.mg "sorted" = none) (hmt : X.mg "set" = none) (ha : DPE X E a da) (hc : X.calm = true := by rfl) (hgs : Gl X "sorted" := by rfl) (hgt : Gl X "set" := by rfl)
    (na : starEach [a] X.env = (false, eval a X.env) :: starEach [] X.env := by rfl)
    (nb : starEach [.Call (.Name "set" p2) [a] [] pos] X.env = (false, eval (.Call (.Name "set" p2) [a] [] pos) X.env) :: starEach [] X.env := by rfl)
    (hpl : (backTo pos (starEach [] X.env)).any (·.1) = false := by rfl) :
    DPE X E (.Call (.Name "sorted" p1) [.Call (.Name "set" p2) [a] [] pos] [] pos2) (dUn rdSrtSet da) := by
  refine pe_imp (pe_callB (cr_sortedSet hc) hgs hms (by decide +kernel) (pa_cons (pe_callTy (cr_setL hc) hgt hmt (by decide +kernel) (pa_cons ha pa_nil na) (by decide) (by decide) na hpl) pa_nil nb)) fun σ H Q h => ?_
  obtain ⟨g, env, c, P, rel, q, k⟩ := h
  refine ⟨g, env, c, _, rel, q, fun x c1 g1 H1 v p1 m1 r1 o1 f1 => ?_⟩
  cases x with
  | deck => exact p1.elim
  | exc _ => exact p1.elim
  | own l => exact p1.elim
  | dat d =>
    cases d <;> try exact p1.elim
    rename_i ds
    have o1 : Dp X.K g1.F v (.list ds) := o1
    obtain ⟨ns, e1, hl, hP⟩ := p1
    cases o1 with
    | lst hsq hal =>
      obtain rfl := intsOf_dp e1 hal
      refine ⟨_, ns, rfl, r1.ex.seq hsq, by omega, fun b n hb hn => ?_⟩
      obtain ⟨r2, m2⟩ := r1.skip (SetO X.w b (fun j => decide (j ∈ ns)) n) hb
      refine ⟨b, _, n, rfl, upd_same, by omega, fun out p' hs hm hlen hp' => ?_⟩
      obtain ⟨r3, m3⟩ := r2.new (.lst (out.map V.int)) hp'
      exact k _ _ _ _ _ (hP out hs fun k => by rw [hm k]; simp) ((m1.trans m2).trans m3) r3 (Dp.lst (.of upd_same) (dpAll_intsS out)) trivial
end
theorem srtSet_ok {ns : List Int} {P : PyData → Prop} (hl : ns.length < 64) (h : ∀ out : List Int, (∀ k, k ∈ out ↔ k ∈ ns) → P (.list (dInts out))) : rdSrtSet (.list (dInts ns)) P := ⟨ns, intsOf_map ns, hl, fun out _ hm => h out hm⟩
end DL
set_option maxHeartbeats 2000000
/-! list(zip(a, b)), of two lists of one length -/
namespace DL
open PySem PySem.Spec PySem.W PySem.Calls PyProof.Rows L2
/-- a zip that has handed out k pairs, which are still held -/
def ZSt (h : Heap) (z TI TO i1 i2 l1 l2 S : Addr) (k : Nat) : Prop := IsPair h TI (.ref i1) (.ref i2) ∧ h.IsListIter i1 l1 k ∧ h.IsListIter i2 l2 k ∧
  ((IsZip h z TI TO .none ∧ ∃ a b, IsPair h TO a b) ∨ ∃ T f oT, IsZipHeld h z TI TO T f ∧ h.get? T = some oT ∧ T ≠ z ∧ T ≠ i1 ∧ T ≠ i2 ∧ T ≠ S)
structure ZG (xs ys : Array Value) (lo : Addr) (h : Heap) (as : List Addr) : Prop where
  rise : as.Pairwise (· < ·)
  above : ∀ a ∈ as, lo < a
  pairs : ∀ (j : Nat) (a : Addr), as[j]? = some a → ∃ x y, xs[j]? = some x ∧ ys[j]? = some y ∧ IsPair h a x y
theorem ZG.there {xs ys : Array Value} {lo : Addr} {h : Heap} {as : List Addr} (g : ZG xs ys lo h as) {a : Addr} (ha : a ∈ as) : a < h.objs.size := by
  obtain ⟨j, hj⟩ := List.mem_iff_getElem?.mp ha
  obtain ⟨_, _, _, _, e⟩ := g.pairs j a hj
  exact Heap.lt_size e
theorem zip_no_len : typeLookup (.type "zip") "__len__" = pure none := am_miss_of_fast (by decide +kernel)
theorem zip_no_hint : typeLookup (.type "zip") "__length_hint__" = pure none := am_miss_of_fast (by decide +kernel)
section
variable {prog : Program} {w : World} {A : Around} {E : Value → Shared → Prop} {s : Shared} {z TI TO i1 i2 l1 l2 S : Addr} {xs ys : Array Value} {k : Nat} {x y : Value}
theorem zl_item {Q : Option Value → Shared → Prop} (D : ZipApart z TI TO i1 i2 l1 l2) (st : ZSt s.heap z TI TO i1 i2 l1 l2 S k) (hS : S < s.heap.objs.size) (hl1 : s.heap.IsList l1 xs) (hl2 : s.heap.IsList l2 ys) (hx : xs[k]? = some x) (hy : ys[k]? = some y)
    (hQ : ∀ h', ZSt h' z TI TO i1 i2 l1 l2 S (k + 1) → IsPair h' s.heap.objs.size x y → h'.objs.size = s.heap.objs.size + 1 → (∀ c o, c ≠ z → c ≠ TO → c ≠ i1 → c ≠ i2 → s.heap.get? c = some o → h'.get? c = some o) → Q (some (.ref s.heap.objs.size)) { s with heap := h' }) :
    wpAny (model prog w) A (pyNext (.ref z)) Q E s := by
  obtain ⟨hTI, h1, h2, st⟩ := st
  have b1 : i1 < s.heap.objs.size := by obtain ⟨_, e, _⟩ := h1; exact Heap.lt_size e
  have b2 : i2 < s.heap.objs.size := by obtain ⟨_, e, _⟩ := h2; exact Heap.lt_size e
  rcases st with ⟨hz, a, b, hTO⟩ | ⟨T, f, oT, hz, hT, t1, t2, t3, t4⟩
  · have bz : z < s.heap.objs.size := Heap.lt_size hz
    exact wpAny_pyNext_zip_item D hz hTI hTO h1 h2 hl1 hl2 hx hy fun h' hz' hTO' h1' h2' hT hsz hk =>
      hQ h' ⟨hk TI _ D.TIz D.TITO D.TIi1 D.TIi2 hTI, h1', h2', .inr ⟨_, false, _, hz', hT, Nat.ne_of_gt bz, Nat.ne_of_gt b1, Nat.ne_of_gt b2, Nat.ne_of_gt hS⟩⟩ hT hsz hk
  · exact wpAny_pyNext_zip_item_held D hz hT hTI h1 h2 hl1 hl2 hx hy fun h' hz' h1' h2' hp hsz hk =>
      hQ h' ⟨hk TI _ D.TIz D.TIi1 D.TIi2 hTI, h1', h2', .inr ⟨T, true, oT, hz', hk T _ t1 t2 t3 hT, t1, t2, t3, t4⟩⟩ hp hsz fun c o c1 _ c3 c4 e => hk c o c1 c3 c4 e
theorem zl_done {Q : Option Value → Shared → Prop} (hh : A.handled = none) (D : ZipApart z TI TO i1 i2 l1 l2) (st : ZSt s.heap z TI TO i1 i2 l1 l2 S k) (hl1 : s.heap.IsList l1 xs) (hl2 : s.heap.IsList l2 ys) (hx : xs[k]? = none)
    (hQ : ∀ h', (∀ c o, c ≠ z → c ≠ TO → c ≠ i1 → c ≠ i2 → s.heap.get? c = some o → h'.get? c = some o) → Q none { s with heap := h' }) : wpAny (model prog w) A (pyNext (.ref z)) Q E s := by
  obtain ⟨hTI, h1, h2, st⟩ := st
  rcases st with ⟨hz, a, b, hTO⟩ | ⟨T, f, oT, hz, hT, t1, t2, t3, t4⟩
  · exact wpAny_pyNext_zip_end hh D hz hTI hTO h1 h2 hl1 hl2 (.inl hx) hQ
  · exact wpAny_pyNext_zip_end_held hh D hz hT hTI h1 h2 hl1 hl2 (.inl hx) fun h' hk => hQ h' fun c o c1 _ c3 c4 e => hk c o c1 c3 c4 e
theorem ZSt.keep {h h' : Heap} (st : ZSt h z TI TO i1 i2 l1 l2 S k) (hz : z ≠ S) (hTI : TI ≠ S) (hTO : TO ≠ S) (h1 : i1 ≠ S) (h2 : i2 ≠ S) (up : ∀ b o, b ≠ S → h.get? b = some o → h'.get? b = some o) : ZSt h' z TI TO i1 i2 l1 l2 S k := by
  obtain ⟨a1, a2, a3, st⟩ := st
  refine ⟨up _ _ hTI a1, a2.at fun o e => up _ o h1 e, a3.at fun o e => up _ o h2 e, ?_⟩
  rcases st with ⟨z1, a, b, z2⟩ | ⟨T, f, oT, z1, z2, t1, t2, t3, t4⟩
  · exact .inl ⟨up _ _ hz z1, a, b, up _ _ hTO z2⟩
  · exact .inr ⟨T, f, oT, up _ _ hz z1, up _ _ t4 z2, t1, t2, t3, t4⟩
/-- the five addresses of a zip and its two lists, below S -/
structure ZLow (z TI TO i1 i2 l1 l2 S : Addr) : Prop where
  z : z < S
  ti : TI < S
  to : TO < S
  i1 : i1 < S
  i2 : i2 < S
  l1 : l1 < S
  l2 : l2 < S
def zOff (z TO i1 i2 S b : Addr) : Prop := b ≠ S ∧ b ≠ z ∧ b ≠ TO ∧ b ≠ i1 ∧ b ≠ i2
theorem zl_loop {R : Result → Shared → Prop} (hh : A.handled = none) (D : ZipApart z TI TO i1 i2 l1 l2) (W : ZLow z TI TO i1 i2 l1 l2 S) (hs : ys.size = xs.size) (hn : xs.size ≤ sizeLine) (res : Value) {h₁ : Heap}
    (hR : ∀ h' tk acc c as, (∀ b o, zOff z TO i1 i2 S b → h₁.get? b = some o → h'.get? b = some o) → h'.get? S = some { cls := .type "list", dict := none, data := .seq acc c, slots := #[] } → as.length = xs.size → ZG xs ys S h' as →
      acc.toList = as.map Value.ref → R (.ok (.ret res)) { s with heap := h', toks := tk }) :
    ∀ (k i : Nat) (h : Heap) (tk c : Nat) (acc : Array Value) (as : List Addr), xs.size - i = k → i ≤ xs.size → ZSt h z TI TO i1 i2 l1 l2 S i → h.IsList l1 xs → h.IsList l2 ys → (∀ b o, zOff z TO i1 i2 S b → h₁.get? b = some o → h.get? b = some o) →
      h.get? S = some { cls := .type "list", dict := none, data := .seq acc c, slots := #[] } → acc.toList = as.map Value.ref → as.length = i → ZG xs ys S h as →
      codeAny (model prog w) A (.builtin "list.extend.loop" ⟨[.ref S, .ref z, res], []⟩) R { s with heap := h, toks := tk } := by
  intro k
  induction k with
  | zero =>
    intro i h tk c acc as hk hi hst hl1 hl2 hkeep hS hacc hal hG
    have hin : i = xs.size := by omega
    refine codeAny_builtin PySem.F.entry_extend_loop ?_
    rw [Around.under_plainId PySem.F.plain_extend_loop _]
    show wpAny _ A.in1 (pyNext (.ref z) >>= _) _ _ _
    refine wpAny_bind (zl_done (s := { s with heap := h, toks := tk }) (A := A.in1) hh D hst hl1 hl2 (by rw [hin]; simp) fun h' he => ?_)
    refine wpAny_pure (hR h' tk acc c as (fun b o hb e => he b o hb.2.1 hb.2.2.1 hb.2.2.2.1 hb.2.2.2.2 (hkeep b o hb e)) (he S _ (Nat.ne_of_gt W.z) (Nat.ne_of_gt W.to) (Nat.ne_of_gt W.i1) (Nat.ne_of_gt W.i2) hS) (by omega) ⟨hG.rise, hG.above, fun j a hj => ?_⟩ hacc)
    obtain ⟨x, y, e1, e2, e3⟩ := hG.pairs j a hj
    have ab := hG.above a (List.mem_of_getElem? hj)
    exact ⟨x, y, e1, e2, he a _ (Nat.ne_of_gt (Nat.lt_trans W.z ab)) (Nat.ne_of_gt (Nat.lt_trans W.to ab)) (Nat.ne_of_gt (Nat.lt_trans W.i1 ab)) (Nat.ne_of_gt (Nat.lt_trans W.i2 ab)) e3⟩
  | succ k ih =>
    intro i h tk c acc as hk hi hst hl1 hl2 hkeep hS hacc hal hG
    have hlt : i < xs.size := by omega
    have hsz : acc.size = i := by rw [← Array.length_toList, hacc, List.length_map, hal]
    have hSl : S < h.objs.size := Heap.lt_size hS
    obtain ⟨x, hx⟩ : ∃ x, xs[i]? = some x := ⟨_, Array.getElem?_eq_getElem hlt⟩
    obtain ⟨y, hy⟩ : ∃ y, ys[i]? = some y := ⟨_, Array.getElem?_eq_getElem (by omega)⟩
    refine codeAny_builtin PySem.F.entry_extend_loop ?_
    rw [Around.under_plainId PySem.F.plain_extend_loop _]
    show wpAny _ A.in1 (pyNext (.ref z) >>= _) _ _ _
    refine wpAny_bind (zl_item (s := { s with heap := h, toks := tk }) (S := S) D hst hSl hl1 hl2 hx hy fun h' hst' ht hz hkp => ?_)
    dsimp only at ht hz hkp ⊢
    have hS' := hkp S _ (Nat.ne_of_gt W.z) (Nat.ne_of_gt W.to) (Nat.ne_of_gt W.i1) (Nat.ne_of_gt W.i2) hS
    have up : ∀ b o, b ≠ S → h'.get? b = some o → (h'.update S (Obj.mapSeq (·.push (Value.ref h.objs.size)))).get? b = some o := fun b o hb e => (Heap.get?_update_other _ _ (Ne.symm hb)).trans e
    show wpAny _ A.in1 (updateSeq S (·.push (Value.ref h.objs.size)) >>= _) _ _ _
    refine wpAny_bind ?_
    refine wpAny_updateSeq hS' rfl (wpAny_pure ⟨plainId_quiet PySem.F.plain_extend_loop _, ih (i + 1) _ tk _ (acc.push (Value.ref h.objs.size)) (as ++ [h.objs.size]) (by omega) hlt
      (hst'.keep (Nat.ne_of_lt W.z) (Nat.ne_of_lt W.ti) (Nat.ne_of_lt W.to) (Nat.ne_of_lt W.i1) (Nat.ne_of_lt W.i2) up)
      (hl1.at fun o e => up l1 o (Nat.ne_of_lt W.l1) (hkp l1 o D.l1z D.l1TO D.l1i1 D.l1i2 e)) (hl2.at fun o e => up l2 o (Nat.ne_of_lt W.l2) (hkp l2 o D.l2z D.l2TO D.l2i1 D.l2i2 e))
      (fun b o hb e => up b o hb.1 (hkp b o hb.2.1 hb.2.2.1 hb.2.2.2.1 hb.2.2.2.2 (hkeep b o hb e))) (Heap.get?_update_self _ hS' rfl) (by rw [Array.toList_push, hacc, List.map_append]; rfl) (by rw [List.length_append, hal]; rfl) ⟨?_, ?_, ?_⟩⟩) (by rw [hsz]; omega) (by show (acc.push (Value.ref h.objs.size)).size ≤ sizeLine + 1; rw [Array.size_push, hsz]; omega)
    · refine List.pairwise_append.mpr ⟨hG.rise, List.pairwise_singleton _ _, fun a ha b hb => ?_⟩
      rw [List.mem_singleton.mp hb]
      exact hG.there ha
    · intro a ha
      rcases List.mem_append.mp ha with ha | ha
      · exact hG.above a ha
      · rw [List.mem_singleton.mp ha]; exact hSl
    · intro j b hj
      rcases Nat.lt_trichotomy j as.length with h1 | h1 | h1
      · rw [List.getElem?_append_left h1] at hj
        obtain ⟨x', y', e1, e2, e3⟩ := hG.pairs j b hj
        have ab := hG.above b (List.mem_of_getElem? hj)
        exact ⟨x', y', e1, e2, up b _ (Nat.ne_of_gt ab) (hkp b _ (Nat.ne_of_gt (Nat.lt_trans W.z ab)) (Nat.ne_of_gt (Nat.lt_trans W.to ab)) (Nat.ne_of_gt (Nat.lt_trans W.i1 ab)) (Nat.ne_of_gt (Nat.lt_trans W.i2 ab)) e3)⟩
      · subst h1
        have hb : h.objs.size = b := by simpa using hj
        subst hb
        rw [hal]
        exact ⟨x, y, hx, hy, up _ _ (Nat.ne_of_gt hSl) ht⟩
      · have hnone : (as ++ [h.objs.size])[j]? = none := List.getElem?_eq_none (by rw [List.length_append, List.length_singleton]; omega)
        rw [hnone] at hj; cases hj
theorem zl_call {Q : Value → Shared → Prop} {a b : Value} (hh : A.handled = none) (D : ZipApart z TI TO i1 i2 l1 l2) (hz : IsZip s.heap z TI TO .none) (hTI : IsPair s.heap TI (.ref i1) (.ref i2)) (hTO : IsPair s.heap TO a b) (h1 : s.heap.IsListIter i1 l1 0) (h2 : s.heap.IsListIter i2 l2 0)
    (hl1 : s.heap.IsList l1 xs) (hl2 : s.heap.IsList l2 ys) (hs : ys.size = xs.size) (hn : xs.size ≤ sizeLine)
    (hQ : ∀ h' tk acc c as, (∀ b o, b ≠ z → b ≠ TO → b ≠ i1 → b ≠ i2 → s.heap.get? b = some o → h'.get? b = some o) → h'.get? s.heap.objs.size = some { cls := .type "list", dict := none, data := .seq acc c, slots := #[] } → as.length = xs.size → ZG xs ys s.heap.objs.size h' as →
      acc.toList = as.map Value.ref → Q (.ref s.heap.objs.size) { s with heap := h', toks := tk }) :
    wpAny (model prog w) A (call (.type "list") [.ref z]) Q E s := by
  refine callType_codes (Q₁ := fun obj s₁ => obj = .ref s.heap.objs.size ∧ s₁ = { s with heap := s.heap.push { cls := .type "list", data := .seq #[] } }) PySem.F.called_list (PySem.F.typeCall_list_1 _) PySem.F.entry_list_init
    (code_list_new _ ⟨rfl, rfl⟩) fun obj s₁ hob => ?_
  obtain ⟨rfl, rfl⟩ := hob
  have hS : (s.heap.push { cls := .type "list", data := .seq #[] }).get? s.heap.objs.size = some { cls := .type "list", data := .seq #[] } := Heap.get?_push_size _ rfl
  have W : ZLow z TI TO i1 i2 l1 l2 s.heap.objs.size := ⟨Heap.lt_size hz, Heap.lt_size hTI, Heap.lt_size hTO, (by obtain ⟨_, e, _⟩ := h1; exact Heap.lt_size e), (by obtain ⟨_, e, _⟩ := h2; exact Heap.lt_size e), (by obtain ⟨_, e, _⟩ := hl1; exact Heap.lt_size e), (by obtain ⟨_, e, _⟩ := hl2; exact Heap.lt_size e)⟩
  have hSz : s.heap.objs.size ≠ z := Nat.ne_of_gt W.z
  refine ⟨⟨_, hS, rfl⟩, PySem.F.args_list_init_2 _ _, ?_⟩
  show wpAny _ _ (do let old ← Builtin.List.listItems (.ref s.heap.objs.size); Builtin.List.listUpdate (.ref s.heap.objs.size) (fun _ => #[]); letGo old.toList.reverse; Builtin.List.listExtendWith (.ref s.heap.objs.size) (.ref z) .none) _ _ _
  refine wpAny_bind ?_
  unfold Builtin.List.listItems
  refine wpAny_bind (wpAny_seqItems hS rfl (wpAny_pure ?_))
  refine wpAny_bind ?_
  show wpAny _ _ (updateSeq s.heap.objs.size (fun _ => #[])) _ _ _
  refine wpAny_updateSeq hS rfl ?_
  have hS₂ := Heap.get?_update_self (Obj.mapSeq (fun _ => (#[] : Array Value))) hS rfl
  have oth : ∀ b o, b ≠ s.heap.objs.size → s.heap.get? b = some o → ((s.heap.push { cls := .type "list", data := .seq #[] }).update s.heap.objs.size (Obj.mapSeq (fun _ => (#[] : Array Value)))).get? b = some o :=
    fun b o hb e => (Heap.get?_update_other _ _ (Ne.symm hb)).trans (Heap.get?_push_of_some _ e)
  generalize (s.heap.push { cls := .type "list", data := .seq #[] }).update s.heap.objs.size (Obj.mapSeq (fun _ => (#[] : Array Value))) = hp at hS₂ oth
  refine wpAny_bind (wpAny_letGo ?_)
  have key : ∀ (h : Heap) (c₁ tk : Nat), (∀ b o, b ≠ s.heap.objs.size → s.heap.get? b = some o → h.get? b = some o) → h.get? s.heap.objs.size = some { cls := .type "list", data := .seq #[] c₁ } →
      codeAny (model prog w) A.in1 (.builtin "list.extend.loop" ⟨[.ref s.heap.objs.size, .ref z, .none], []⟩) (fun q s' => ∃ h' tk acc c as, q = .ok (.ret .none) ∧ s' = { s with heap := h', toks := tk } ∧ (∀ b o, b ≠ z → b ≠ TO → b ≠ i1 → b ≠ i2 → s.heap.get? b = some o → h'.get? b = some o) ∧
        h'.get? s.heap.objs.size = some { cls := .type "list", dict := none, data := .seq acc c, slots := #[] } ∧ as.length = xs.size ∧ ZG xs ys s.heap.objs.size h' as ∧ acc.toList = as.map Value.ref) { s with heap := h, toks := tk } := fun h c₁ tk hk hS₁ => by
    have lw : ∀ b o, s.heap.get? b = some o → b ≠ s.heap.objs.size := fun b o e => Nat.ne_of_lt (Heap.lt_size e)
    refine zl_loop (A := A.in1) (s := s) (h₁ := s.heap) (xs := xs) (ys := ys) hh D W hs hn .none (fun h' tk' acc c as hk' hS' hl hG hacc => ⟨h', tk', acc, c, as, rfl, rfl, fun b o b1 b2 b3 b4 e => hk' b o ⟨lw b o e, b1, b2, b3, b4⟩ e, hS', hl, hG, hacc⟩)
      xs.size 0 h tk c₁ #[] [] (Nat.sub_zero _) (Nat.zero_le _) ⟨hk _ _ (Nat.ne_of_lt W.ti) hTI, h1.at fun o e => hk _ o (Nat.ne_of_lt W.i1) e, h2.at fun o e => hk _ o (Nat.ne_of_lt W.i2) e, .inl ⟨hk _ _ (Nat.ne_of_lt W.z) hz, a, b, hk _ _ (Nat.ne_of_lt W.to) hTO⟩⟩
      (hl1.at fun o e => hk _ o (Nat.ne_of_lt W.l1) e) (hl2.at fun o e => hk _ o (Nat.ne_of_lt W.l2) e) (fun b o hb e => hk b o hb.1 e) hS₁ rfl rfl
      ⟨List.Pairwise.nil, (fun _ ha => nomatch ha), (fun j a hj => by simp at hj)⟩
  have fin : ∀ {h : Heap} {c₁ tk : Nat}, (∀ b o, b ≠ s.heap.objs.size → s.heap.get? b = some o → h.get? b = some o) → h.get? s.heap.objs.size = some { cls := .type "list", data := .seq #[] c₁ } →
      codeAny (model prog w) A.in1 (.builtin "list.extend.loop" ⟨[.ref s.heap.objs.size, .ref z, .none], []⟩) (wants (fun r s₂ => r = Value.none ∧ Q (.ref s.heap.objs.size) s₂) E) { s with heap := h, toks := tk } := fun hk hS₁ => codeAny_mono (key _ _ _ hk hS₁) fun q s' x => by
    obtain ⟨h', tk', acc, c, as, rfl, rfl, x1, x2, x3, x4, x5⟩ := x
    exact ⟨rfl, hQ h' tk' acc c as x1 x2 x3 x4 x5⟩
  have hT : ∀ (h : Heap), h.get? z = s.heap.get? z → (Shared.mk h s.gens s.drawn s.toks s.os).TypeIs (.ref z) "zip" := fun h e => ⟨_, e.trans hz, rfl⟩
  have hzp := oth z _ (Ne.symm hSz) hz
  unfold Builtin.List.listExtendWith
  refine wpAny_bind (wpAny_typeOf (T := "zip") ⟨_, hzp, rfl⟩ ?_)
  have q1 : Builtin.List.listSameRef (.ref s.heap.objs.size) (.ref z) = false := by simp [Builtin.List.listSameRef, hSz]
  have q2 : (Value.type "zip" == Value.type "list") = false := by decide
  have q3 : (Value.type "zip" == Value.type "tuple") = false := by decide
  simp only [q1, q2, q3, Bool.or_false, Bool.false_eq_true, if_false]
  refine wpAny_bind (wpAny_pyIter_zip hzp ?_)
  refine wpAny_bind (wpAny_holding ?_)
  unfold Builtin.List.listLengthHint
  refine wpAny_bind (wpAny_specialOf (T := "zip") ⟨_, hzp, rfl⟩ zip_no_len ?_)
  refine wpAny_bind (wpAny_specialOf (T := "zip") ⟨_, hzp, rfl⟩ zip_no_hint ?_)
  refine wpAny_pure (wpAny_ite_split (fun _ => ?_) fun q => absurd rfl q)
  refine wpAny_bind (wpAny_rule (wpAny_bind ?_))
  show wpAny _ _ (updateSeq s.heap.objs.size (·.push .none) >>= fun _ => updateSeq s.heap.objs.size (·.pop)) _ _ _
  refine wpAny_bind (wpAny_updateSeq hS₂ rfl ?_)
  have hS₆ := Heap.get?_update_self (Obj.mapSeq (·.push Value.none)) hS₂ rfl
  refine wpAny_updateSeq (hz := by seq_fits) hS₆ rfl ?_
  have hS₇ := Heap.get?_update_self (Obj.mapSeq (·.pop)) hS₆ rfl
  exact wpAny_pure ⟨plainId_quiet PySem.F.plain_extend_loop _, fin (fun b o hb e => (Heap.get?_update_other _ _ (Ne.symm hb)).trans ((Heap.get?_update_other _ _ (Ne.symm hb)).trans (oth b o hb e))) hS₇⟩
end
/-! the tuples tracked at their addresses -/
def putP : Hp → List Addr → List (V × V) → Hp
  | H, a :: as, p :: ps => putP (upd H a (.tup [p.1, p.2])) as ps
  | H, _, _ => H
theorem putP_off {b : Addr} : ∀ (as : List Addr) (ps : List (V × V)) (H : Hp), b ∉ as → putP H as ps b = H b
  | [], _, _, _ => rfl
  | _ :: _, [], _, _ => rfl
  | a :: as, p :: ps, H, h => by
    show putP (upd H a _) as ps b = H b
    rw [putP_off as ps _ fun z => h (List.mem_cons_of_mem _ z), upd_ne fun z => h (by rw [z]; exact List.mem_cons_self)]
theorem putP_at : ∀ (as : List Addr) (ps : List (V × V)) (H : Hp), as.length = ps.length → as.Nodup → ∀ (j : Nat) (a : Addr) (p : V × V), as[j]? = some a → ps[j]? = some p → putP H as ps a = some (.tup [p.1, p.2])
  | [], _, _, _, _, j, a, p, h, _ => by simp at h
  | _ :: _, [], _, h, _, _, _, _, _, _ => by cases h
  | b :: as, q :: ps, H, h, hn, j, a, p, h1, h2 => by
    have hn' := List.nodup_cons.mp hn
    show putP (upd H b _) as ps a = _
    cases j with
    | zero =>
      cases h1
      cases h2
      rw [putP_off as ps _ hn'.1, upd_same]
    | succ j => exact putP_at as ps _ (Nat.succ.inj h) hn'.2 j a p h1 h2
def tLstZip (K : PySem.W.Frag) (ta : TA) : TE := fun σ H Q => ta σ H fun vs H1 => ∃ a b xs ys, vs = [.ref a, .ref b] ∧ SqL K H1 a xs ∧ SqL K H1 b ys ∧ xs.length = ys.length ∧ xs.length ≤ sizeLine ∧
  ∀ (p : Addr) (ts : List Addr), H1 p = none → (∀ t ∈ ts, H1 t = none) → p ∉ ts → ts.Nodup → ts.length = xs.length → Q (.ref p) (upd (putP H1 ts (xs.zip ys)) p (.lst (ts.map V.ref)))
theorem putP_swap {S : Addr} {o : HO} : ∀ (as : List Addr) (ps : List (V × V)) (H : Hp), S ∉ as → putP (upd H S o) as ps = upd (putP H as ps) S o
  | [], _, _, _ => rfl
  | _ :: _, [], _, _ => rfl
  | a :: as, p :: ps, H, h => by
    show putP (upd (upd H S o) a _) as ps = upd (putP (upd H a _) as ps) S o
    have na : a ≠ S := fun z => h (by rw [z]; exact List.mem_cons_self)
    have e : upd (upd H S o) a (.tup [p.1, p.2]) = upd (upd H a (.tup [p.1, p.2])) S o := by
      funext b
      by_cases h1 : b = a
      · subst h1
        rw [upd_same, upd_ne na, upd_same]
      · rw [upd_ne h1]
        by_cases h2 : b = S
        · subst h2
          rw [upd_same, upd_same]
        · rw [upd_ne h2, upd_ne h2, upd_ne h1]
    rw [e]
    exact putP_swap as ps _ fun z => h (List.mem_cons_of_mem _ z)
theorem zip_laid {X : Cx} {pins : List (Addr × Obj)} {σ : L2.St} {H : Hp} {s : Shared} {h' : Heap} {tk c : Nat} {vx vy : List Value} {xs ys : List V} {acc : Array Value} {as : List Addr} (I : Inv X pins σ H s) (rx : Vals xs vx) (ry : Vals ys vy) (hl : xs.length = ys.length) (hz : xs.length ≤ sizeLine)
    (hk : ∀ b o, s.heap.get? b = some o → h'.get? b = some o) (S : Addr) (hS0 : s.heap.objs.size ≤ S) (hS : h'.get? S = some { cls := .type "list", dict := none, data := .seq acc c, slots := #[] }) (ha : as.length = xs.length) (hG : ZG vx.toArray vy.toArray S h' as) (hacc : acc.toList = as.map Value.ref) :
    H S = none ∧ (∀ t ∈ as, H t = none) ∧ S ∉ as ∧ as.Nodup ∧ Inv X pins σ (upd (putP H as (xs.zip ys)) S (.lst (as.map V.ref))) { s with heap := h', toks := tk } := by
  have hSn : S ∉ as := fun z => Nat.lt_irrefl _ (hG.above _ z)
  have nd : as.Nodup := List.Pairwise.imp (fun {a b} (h : a < b) => Nat.ne_of_lt h) hG.rise
  have new : ∀ t ∈ as, H t = none := fun t ht => I.hok.fresh (Nat.le_of_lt (Nat.lt_of_le_of_lt hS0 (hG.above t ht)))
  have newS : H S = none := I.hok.fresh hS0
  have lp : as.length = (xs.zip ys).length := by rw [List.length_zip, ha]; omega
  have off : ∀ b, b ∉ as → b ≠ S → putP (upd H S (.lst (as.map V.ref))) as (xs.zip ys) b = H b := fun b h1 h2 => by rw [putP_off as _ _ h1, upd_ne h2]
  have low : ∀ b o, s.heap.get? b = some o → b ∉ as ∧ b ≠ S := fun b o e => ⟨fun z => absurd (Heap.lt_size e) (Nat.not_lt.mpr (Nat.le_of_lt (Nat.lt_of_le_of_lt hS0 (hG.above b z)))), Nat.ne_of_lt (Nat.lt_of_lt_of_le (Heap.lt_size e) hS0)⟩
  have kp : ∀ b u, H b = some u → (putP (upd H S (.lst (as.map V.ref))) as (xs.zip ys)) b = some u := fun b u e => by
    rw [off b (fun z => by rw [new b z] at e; cases e) (fun z => by rw [z, newS] at e; cases e)]
    exact e
  have eS : putP (upd H S (.lst (as.map V.ref))) as (xs.zip ys) S = some (.lst (as.map V.ref)) := by rw [putP_off as _ _ hSn, upd_same]
  have atP : ∀ (j : Nat) (t : Addr), as[j]? = some t → ∃ x y, xs[j]? = some x ∧ ys[j]? = some y ∧ putP (upd H S (.lst (as.map V.ref))) as (xs.zip ys) t = some (.tup [x, y]) := fun j t hj => by
    have hj2 := (List.getElem?_eq_some_iff.mp hj).1
    obtain ⟨x, hx⟩ : ∃ x, xs[j]? = some x := ⟨_, List.getElem?_eq_getElem (by omega)⟩
    obtain ⟨y, hy⟩ : ∃ y, ys[j]? = some y := ⟨_, List.getElem?_eq_getElem (by omega)⟩
    have hp : (xs.zip ys)[j]? = some (x, y) := List.getElem?_zip_eq_some.mpr ⟨hx, hy⟩
    exact ⟨x, y, hx, hy, putP_at as _ _ lp nd j t _ hj hp⟩
  refine ⟨newS, new, hSn, nd, ?_⟩
  rw [← putP_swap as _ _ hSn]
  refine I.call' (ch := []) rfl ⟨fun b o q _ _ _ => hk b o q, fun b o q _ _ _ => ⟨o.slots, hk b o q⟩, fun b o q n _ => ?_, fun b o q _ => ⟨o, hk b o q⟩, fun b xs q => kp b _ q, fun b o u q => kp b _ q, fun b ps q => ⟨#[], by rw [kp b _ q]; simp⟩⟩ (fun b u q => ?_) I.bare fun b z => by simp at z
  · obtain ⟨z1, z2⟩ := low b o q
    rw [off b z1 z2]
    exact n
  · by_cases hb : b ∈ as
    · obtain ⟨j, hj⟩ := List.mem_iff_getElem?.mp hb
      obtain ⟨x, y, e1, e2, e3⟩ := atP j b hj
      rw [e3] at q
      cases q
      obtain ⟨u, v, f1, f2, f3⟩ := hG.pairs j b hj
      obtain ⟨u', g1, r1⟩ := rx.get e1
      obtain ⟨v', g2, r2⟩ := ry.get e2
      have f1 : vx[j]? = some u := by simpa using f1
      have f2 : vy[j]? = some v := by simpa using f2
      rw [f1] at g1
      rw [f2] at g2
      cases g1
      cases g2
      exact ⟨by show 2 ≤ sizeLine; decide, [u, v], .cons r1 (.cons r2 .nil), ⟨_, f3, rfl, _, rfl⟩⟩
    · by_cases hb2 : b = S
      · rw [hb2] at q ⊢
        rw [eS] at q
        cases q
        refine ⟨by rw [List.length_map]; omega, acc.toList, c, by rw [hacc]; exact LiI.vals_refs as, ?_⟩
        rw [Array.toArray_toList]
        exact hS
      · rw [off b hb hb2] at q
        exact (I.hok b u q).stay (fun d v _ y => hk d v y) (fun d y => kp d _ y) fun d xs y => kp d _ y
theorem pe_lstZip {X : Cx} {e e2 : Expr} {ta : TA} {p p2 pos pos2 : Pos} (hc : X.calm = true) (ha : PA X [e, e2] ta) (hg : Gl X "list") (hm : X.mg "list" = none) (hg2 : Gl X "zip") (hm2 : X.mg "zip" = none)
    (hs : starEach [.Call (.Name "zip" p2) [e, e2] [] pos2] X.env = (false, eval (.Call (.Name "zip" p2) [e, e2] [] pos2) X.env) :: starEach [] X.env := by rfl)
    (hs2 : starEach [e, e2] X.env = (false, eval e X.env) :: starEach [e2] X.env := by rfl) (hpl : (backTo pos2 (starEach [e2] X.env)).any (·.1) = false := by rfl) :
    PE X (.Call (.Name "list" p) [.Call (.Name "zip" p2) [e, e2] [] pos2] [] pos) (tLstZip X.K ta) := by
  refine ⟨fun pins s σ H Q I h => ?_⟩
  refine Call_ (ld_blt I hg hm PyProof.Rows.boot_list (PyProof.Rows.callWith_type1 ?_ hs rfl))
  rw [hs]
  show wpAny _ _ (spliced ((false, eval (.Call (.Name "zip" p2) [e, e2] [] pos2) X.env) :: backTo pos (starEach [] X.env))) _ _ s
  refine Calls.spliced_cons (Call_ (ld_blt I hg2 hm2 PyProof.Rows.boot_zip (PyProof.Rows.callWith_type1 (thn (ha.run pos2 pins s σ H _ I h) fun us s1 ⟨vs, H1, I1, r1, q1⟩ => ?_) hs2 hpl)))
  obtain ⟨a, b, xs, ys, ex, hx, hy, hl, hn, q1⟩ := q1
  subst ex
  obtain ⟨u1, u2, rfl, ra, rb⟩ := vals2 r1
  cases ra
  cases rb
  obtain ⟨its, rv, pa, _⟩ := I1.list hx
  obtain ⟨its2, rv2, pb, _⟩ := I1.list hy
  refine call_zip_2 pa.isList pb.isList fun h' hz hTI hTO h1 h2 hsz hk => Calls.spliced_nil ?_
  have low : ∀ b o, s1.heap.get? b = some o → b < s1.heap.objs.size := fun b o e => Heap.lt_size e
  refine zl_call (s := { s1 with heap := h' }) (xs := its.toArray) (ys := its2.toArray) (I1.ok.hd hc) (PySem.W.ktu_apart s1.heap.objs.size a b pa.lt pb.lt) hz hTI hTO h1 h2 (pa.isList.at fun o e => hk _ o e) (pb.isList.at fun o e => hk _ o e)
    (by simp only [List.size_toArray]; rw [← rv.length, ← rv2.length, hl]) (by simp only [List.size_toArray]; rw [← rv.length]; exact hn) fun h2' tk acc c as hk2 hS hl2 hG hacc => ?_
  have far : ∀ b o, s1.heap.get? b = some o → ∀ k, b ≠ s1.heap.objs.size + k := fun b o e k => Nat.ne_of_lt (Nat.lt_of_lt_of_le (low b o e) (Nat.le_add_right _ _))
  obtain ⟨k3, k4, k5, k6, J⟩ := zip_laid (tk := tk) I1 rv rv2 hl hn (h' := h2') (fun b o e => hk2 b o (far b o e 4) (far b o e 3) (far b o e 0) (far b o e 1) (hk b o e)) h'.objs.size (by rw [hsz]; exact Nat.le_add_right _ _) hS (by rw [hl2, List.size_toArray, ← rv.length]) hG hacc
  exact ⟨.ref _, _, J, rfl, q1 _ as k3 k4 k5 k6 (by rw [hl2, List.size_toArray, ← rv.length])⟩
/-! ### over data -/
def rdLstZip : List PyData → (PyData → Prop) → Prop := fun ds P => match ds with
  | [.list xs, .list ys] => xs.length = ys.length ∧ xs.length ≤ sizeLine ∧ P (.list ((xs.zip ys).map fun p => .tuple [p.1, p.2]))
  | _ => False
theorem rel_zip {K : PySem.W.Frag} {E : En} {env : Ev} {c : Nat} {σ : L2.St} : ∀ (ts : List Addr) (xs ys : List V) (us ws : List PyData) (g : Gh) (H : Hp), Rel K E g env c σ H → DpAll K g.F xs us → DpAll K g.F ys ws → ts.length = xs.length → xs.length = ys.length → (∀ t ∈ ts, H t = none) → ts.Nodup →
    ∃ g', Rel K E g' env c σ (putP H ts (xs.zip ys)) ∧ Mv g H g' (putP H ts (xs.zip ys)) ∧ DpAll K g'.F (ts.map V.ref) ((us.zip ws).map fun p => .tuple [p.1, p.2])
  | [], xs, ys, us, ws, g, H, r, hx, hy, h1, h2, _, _ => by
    cases xs with
    | cons x xs => cases h1
    | nil =>
      cases ys with
      | cons y ys => cases h2
      | nil =>
        cases hx
        cases hy
        exact ⟨g, r, Mv.refl g H, .nil⟩
  | t :: ts, xs, ys, us, ws, g, H, r, hx, hy, h1, h2, hn, hd => by
    cases hx with
    | nil => cases h1
    | @cons x xs u us hx1 hx =>
      cases hy with
      | nil => cases h2
      | @cons y ys w ws hy1 hy =>
        obtain ⟨r2, m2⟩ := r.new (.tup [x, y]) (hn t List.mem_cons_self)
        have hd' := List.nodup_cons.mp hd
        obtain ⟨g', r3, m3, d3⟩ := rel_zip ts xs ys us ws _ _ r2 (dpAll_mono m2.f hx) (dpAll_mono m2.f hy) (Nat.succ.inj h1) (Nat.succ.inj h2) (fun t' h' => by
          have ne : t' ≠ t := fun z => hd'.1 (by rw [← z]; exact h')
          rw [upd_ne ne]
          exact hn t' (List.mem_cons_of_mem _ h')) hd'.2
        exact ⟨g', r3, m2.trans m3, .cons (dp_mono m3.f (.tup (.of upd_same) (.cons (dp_mono m2.f hx1) (.cons (dp_mono m2.f hy1) .nil)))) d3⟩
def dLstZip (dr : DA) : DE := fun env c P => dr env c fun xs c1 => datsK xs fun ds => rdLstZip ds fun z => P (.dat z) c1
theorem de_lstZip {X : Cx} {E : En} {e e2 : Expr} {dr : DA} {p p2 pos pos2 : Pos} (hm : X.mg "list" = none) (hm2 : X.mg "zip" = none) (ha : DPA X E [e, e2] dr) (hc : X.calm = true := by rfl) (hg : Gl X "list" := by rfl) (hg2 : Gl X "zip" := by rfl)
    (hs : starEach [.Call (.Name "zip" p2) [e, e2] [] pos2] X.env = (false, eval (.Call (.Name "zip" p2) [e, e2] [] pos2) X.env) :: starEach [] X.env := by rfl)
    (hs2 : starEach [e, e2] X.env = (false, eval e X.env) :: starEach [e2] X.env := by rfl) (hpl : (backTo pos2 (starEach [e2] X.env)).any (·.1) = false := by rfl) :
    DPE X E (.Call (.Name "list" p) [.Call (.Name "zip" p2) [e, e2] [] pos2] [] pos) (dLstZip dr) := by
  refine pe_imp (pe_lstZip hc ha hg hm hg2 hm2 hs hs2 hpl) fun σ H Q h => ?_
  obtain ⟨g, env, c, P, rel, q, k⟩ := h
  refine ⟨g, env, c, _, rel, q, fun xs c1 g1 H1 vs p1 m1 r1 o1 f1 => ?_⟩
  obtain ⟨ds, h1, h2⟩ := datsK_all o1 p1
  unfold rdLstZip at h1
  split at h1
  · rename_i us ws
    obtain ⟨e1, e2, e3⟩ := h1
    cases h2 with
    | cons d1 h2 =>
      cases h2 with
      | cons d2 h2 =>
        cases h2
        cases d1 with
        | lst s1 a1 =>
          cases d2 with
          | lst s2 a2 =>
            refine ⟨_, _, _, _, rfl, r1.ex.seq s1, r1.ex.seq s2, by rw [DpAll.len a1, DpAll.len a2]; exact e1, by rw [DpAll.len a1]; exact e2, fun p ts hp ht hpt hnd hl => ?_⟩
            obtain ⟨g2, r2, m2, d2⟩ := rel_zip ts _ _ us ws g1 H1 r1 a1 a2 hl (by rw [DpAll.len a1, DpAll.len a2]; exact e1) ht hnd
            obtain ⟨r3, m3⟩ := r2.new (.lst (ts.map V.ref)) (show putP H1 ts _ p = none from by rw [putP_off ts _ _ hpt]; exact hp)
            exact k _ c1 _ _ _ e3 ((m1.trans m2).trans m3) r3 (.lst (.of upd_same) (dpAll_mono m3.f d2)) trivial
  · exact h1.elim
end DL
set_option maxHeartbeats 2000000
/-! max and min of a tuple of ints -/
namespace DL
open PySem PySem.Spec PyProof.Rows L2
theorem maxT_ints {prog : Program} {w : World} {A : Around} {E : Value → Shared → Prop} {s : Shared} {l : Addr} {xs : Array (Int × Tok)} {Q : Value → Shared → Prop} (hh : A.handled = none) (hl : s.heap.IsTuple l (intItems xs)) (hne : 0 < xs.size)
    (h : ∀ v h' tk, (intItems xs)[argBest (fun i j => decide (numAt xs i > numAt xs j)) (xs.size - 1)]? = some v → (∀ b o, s.heap.get? b = some o → h'.get? b = some o) → Q v { s with heap := h', toks := tk }) :
    wpAny (model prog w) A (call (.builtin "max") [.ref l]) Q E s := by
  have hlt : l < s.heap.objs.size := by obtain ⟨_, e, _⟩ := hl; exact Heap.lt_size e
  refine call_max_walk (wpAny_pyIter_tuple hl ?_)
  refine ⟨_, [_, l], [_], _, _, _, _, rfl, Walks.tuple (A := A.in1) hh _ l (Nat.ne_of_lt hlt) (intItems xs), ⟨⟨_, Heap.get?_push_size _ rfl, rfl, rfl⟩, hl.push _⟩, fun d hd => ?_, by simpa [intItems] using hne, CmpOf.ints_gt (numAt xs) (fun _ _ => intItems_at), fun v h' tk hP hk => ?_⟩
  · show d < (s.heap.push _).objs.size
    rw [Heap.size_push]
    rcases List.mem_cons.mp hd with rfl | hd
    · exact Nat.lt_succ_self _
    · rcases List.mem_cons.mp hd with rfl | hd
      · exact Nat.lt_succ_of_lt hlt
      · cases hd
  · refine h v h' tk (by simpa [intItems] using hP) fun d o e => ?_
    refine hk d o (fun hm => ?_) (Heap.get?_push_of_some _ e)
    rw [List.mem_singleton.mp hm] at e
    exact absurd (Heap.lt_size e) (Nat.lt_irrefl _)
def rMaxT (K : PySem.W.Frag) : List V → Hp → VK → Prop := fun vs H Q => ∃ (a : Addr) (ns : List Int), vs = [V.ref a] ∧ SqT K H a (ns.map V.int) ∧ 0 < ns.length ∧ ∀ m, m ∈ ns → (∀ y, y ∈ ns → y ≤ m) → Q (.int m) H
theorem cr_maxT {X : Cx} (hc : X.calm = true) : CallR X (.builtin "max") (rMaxT X.K) := by
  intro pins s σ H vs us Q I r h
  obtain ⟨a, ns, rfl, hs, hne, q⟩ := h
  obtain ⟨its, rv, hl, _⟩ := I.tuple hs
  rw [Vals.ref1 r]
  obtain ⟨xs, e⟩ := rv.ints.allInts.items
  have hn : numsOf (intItems xs).toList = ns := by rw [← e]; exact rv.ints.numsOf
  rw [nums_intItems] at hn
  have hl2 : s.heap.IsTuple a (intItems xs) := by rw [← e]; exact hl
  subst hn
  have hsz : 0 < xs.size := by simpa using hne
  refine maxT_ints (I.ok.hd hc) hl2 hsz fun v h' tk hv hk => ?_
  obtain ⟨t, rfl⟩ := intItems_at hv
  obtain ⟨h1, h2⟩ := argBest_gt (numAt xs) (xs.size - 1)
  refine ⟨.int _, H, I.kept hk, ⟨_, rfl⟩, q _ ?_ fun y hy => ?_⟩
  · rw [numAt_eq]; exact PySem.getD_mem (by rw [List.length_map, Array.length_toList]; omega)
  · obtain ⟨j, hj, rfl⟩ := mem_getD hy
    rw [List.length_map, Array.length_toList] at hj
    rw [← numAt_eq]; exact h2 j (by omega)
def rdMaxT : List PyData → (PyData → Prop) → Prop := fun ds P => match ds with
  | [.tuple xs] => ∃ ns, intsOf xs = some ns ∧ 0 < ns.length ∧ ∀ m, m ∈ ns → (∀ y, y ∈ ns → y ≤ m) → P (.int m)
  | _ => False
theorem cd_maxT {K : PySem.W.Frag} : CallD K (rMaxT K) rdMaxT := by
  intro E g env c σ H xs ds P Q r h q k
  unfold rdMaxT at q
  split at q
  · cases h with
    | cons h1 t =>
      cases t
      cases h1 with
      | tup hs ha =>
        obtain ⟨ns, e, hl, q⟩ := q
        have ex := intsOf_dp e ha
        subst ex
        exact ⟨_, ns, rfl, seqT r.ex hs, hl, fun m h1 h2 => k _ g H _ (q m h1 h2) (Mv.refl g H) r (.int _)⟩
  · exact q.elim
theorem minT_ints {prog : Program} {w : World} {A : Around} {E : Value → Shared → Prop} {s : Shared} {l : Addr} {xs : Array (Int × Tok)} {Q : Value → Shared → Prop} (hh : A.handled = none) (hl : s.heap.IsTuple l (intItems xs)) (hne : 0 < xs.size)
    (h : ∀ v h' tk, (intItems xs)[argBest (fun i j => decide (numAt xs i < numAt xs j)) (xs.size - 1)]? = some v → (∀ b o, s.heap.get? b = some o → h'.get? b = some o) → Q v { s with heap := h', toks := tk }) :
    wpAny (model prog w) A (call (.builtin "min") [.ref l]) Q E s := by
  have hlt : l < s.heap.objs.size := by obtain ⟨_, e, _⟩ := hl; exact Heap.lt_size e
  refine call_min_walk (wpAny_pyIter_tuple hl ?_)
  refine ⟨_, [_, l], [_], _, _, _, _, rfl, Walks.tuple (A := A.in1) hh _ l (Nat.ne_of_lt hlt) (intItems xs), ⟨⟨_, Heap.get?_push_size _ rfl, rfl, rfl⟩, hl.push _⟩, fun d hd => ?_, by simpa [intItems] using hne, CmpOf.ints_lt (numAt xs) (fun _ _ => intItems_at), fun v h' tk hP hk => ?_⟩
  · show d < (s.heap.push _).objs.size
    rw [Heap.size_push]
    rcases List.mem_cons.mp hd with rfl | hd
    · exact Nat.lt_succ_self _
    · rcases List.mem_cons.mp hd with rfl | hd
      · exact Nat.lt_succ_of_lt hlt
      · cases hd
  · refine h v h' tk (by simpa [intItems] using hP) fun d o e => ?_
    refine hk d o (fun hm => ?_) (Heap.get?_push_of_some _ e)
    rw [List.mem_singleton.mp hm] at e
    exact absurd (Heap.lt_size e) (Nat.lt_irrefl _)
def rMinT (K : PySem.W.Frag) : List V → Hp → VK → Prop := fun vs H Q => ∃ (a : Addr) (ns : List Int), vs = [V.ref a] ∧ SqT K H a (ns.map V.int) ∧ 0 < ns.length ∧ ∀ m, m ∈ ns → (∀ y, y ∈ ns → m ≤ y) → Q (.int m) H
theorem cr_minT {X : Cx} (hc : X.calm = true) : CallR X (.builtin "min") (rMinT X.K) := by
  intro pins s σ H vs us Q I r h
  obtain ⟨a, ns, rfl, hs, hne, q⟩ := h
  obtain ⟨its, rv, hl, _⟩ := I.tuple hs
  rw [Vals.ref1 r]
  obtain ⟨xs, e⟩ := rv.ints.allInts.items
  have hn : numsOf (intItems xs).toList = ns := by rw [← e]; exact rv.ints.numsOf
  rw [nums_intItems] at hn
  have hl2 : s.heap.IsTuple a (intItems xs) := by rw [← e]; exact hl
  subst hn
  have hsz : 0 < xs.size := by simpa using hne
  refine minT_ints (I.ok.hd hc) hl2 hsz fun v h' tk hv hk => ?_
  obtain ⟨t, rfl⟩ := intItems_at hv
  obtain ⟨h1, h2⟩ := argBest_lt (numAt xs) (xs.size - 1)
  refine ⟨.int _, H, I.kept hk, ⟨_, rfl⟩, q _ ?_ fun y hy => ?_⟩
  · rw [numAt_eq]; exact PySem.getD_mem (by rw [List.length_map, Array.length_toList]; omega)
  · obtain ⟨j, hj, rfl⟩ := mem_getD hy
    rw [List.length_map, Array.length_toList] at hj
    rw [← numAt_eq]; exact h2 j (by omega)
def rdMinT : List PyData → (PyData → Prop) → Prop := fun ds P => match ds with
  | [.tuple xs] => ∃ ns, intsOf xs = some ns ∧ 0 < ns.length ∧ ∀ m, m ∈ ns → (∀ y, y ∈ ns → m ≤ y) → P (.int m)
  | _ => False
theorem cd_minT {K : PySem.W.Frag} : CallD K (rMinT K) rdMinT := by
  intro E g env c σ H xs ds P Q r h q k
  unfold rdMinT at q
  split at q
  · cases h with
    | cons h1 t =>
      cases t
      cases h1 with
      | tup hs ha =>
        obtain ⟨ns, e, hl, q⟩ := q
        have ex := intsOf_dp e ha
        subst ex
        exact ⟨_, ns, rfl, seqT r.ex hs, hl, fun m h1 h2 => k _ g H _ (q m h1 h2) (Mv.refl g H) r (.int _)⟩
  · exact q.elim

theorem t_maxT {ns : List Int} {P : PyData → Prop} (hl : 0 < ns.length) (h : ∀ m, m ∈ ns → (∀ y, y ∈ ns → y ≤ m) → P (.int m)) : rdMaxT [.tuple (dInts ns)] P := ⟨ns, intsOf_map ns, hl, h⟩
theorem t_minT {ns : List Int} {P : PyData → Prop} (hl : 0 < ns.length) (h : ∀ m, m ∈ ns → (∀ y, y ∈ ns → m ≤ y) → P (.int m)) : rdMinT [.tuple (dInts ns)] P := ⟨ns, intsOf_map ns, hl, h⟩
section
variable {dr : DA} {env : Ev} {c : Nat} {P : Vl → Nat → Prop} {PD : PyData → Prop}
theorem x_lstZip : dLstZip dr env c P = dr env c fun xs c1 => datsK xs fun ds => rdLstZip ds fun z => P (.dat z) c1 := rfl
theorem x_lstZipL {xs ys : List PyData} : rdLstZip [.list xs, .list ys] PD = Sq (xs.length = ys.length) (Sq (xs.length ≤ sizeLine) (PD (.list ((xs.zip ys).map fun p => .tuple [p.1, p.2]))) {}) {} := rfl
end
end DL
namespace RW
open PySem PySem.Spec PyProof.Rows L2 DL
/-! ### the text -/
def topS (i : Nat) : Stmt := PySem.Challenge.pw_ringwindows_k27_whole_running_sums.main.body.getD i (.Pass ⟨0, 0, 0, 0⟩)
abbrev s_links_of : Stmt := topS 1
abbrev s_counts_of : Stmt := topS 2
abbrev s_heights_of : Stmt := topS 3
abbrev s_climbs_of : Stmt := topS 5
abbrev s_settled : Stmt := topS 6
abbrev s_heights_from : Stmt := topS 7
abbrev s_window_range : Stmt := topS 8
abbrev s_smallest_filling : Stmt := topS 9
abbrev s_greatest_filling : Stmt := topS 10
abbrev s_last_to_rise : Stmt := topS 11
abbrev s_next_filling : Stmt := topS 12
abbrev s_is_number : Stmt := topS 14
abbrev s_is_filling : Stmt := topS 15
abbrev s_covers : Stmt := topS 16
abbrev s_window_places : Stmt := topS 17
abbrev s_window_sum : Stmt := topS 18
abbrev s_broken_rules : Stmt := topS 19
abbrev s_fits : Stmt := topS 20
abbrev s__law_draws : Stmt := topS 22
abbrev s__law_next : Stmt := topS 23
abbrev s__law_one : Stmt := topS 24
abbrev s__law_part : Stmt := topS 25
abbrev s__law_rule : Stmt := topS 26
abbrev s__law_ring : Stmt := topS 27
abbrev s__law_sums : Stmt := topS 28
abbrev s__law_filling : Stmt := topS 29
abbrev s__law_mixed_right : Stmt := topS 30
abbrev s_law : Stmt := topS 31
abbrev N_links_of : List Str := ["n", "rules", "links", "index", "first", "size", "least", "most", "end", "turns", "place"]
theorem sc_links_of : FnScope N_links_of ["n", "rules"] (defScope s_links_of) := ⟨rfl, rfl, rfl, by decide +kernel, rfl, by decide +kernel, by decide +kernel⟩
abbrev N_counts_of : List Str := ["heights", "total", "ends", "start", "end"]
theorem sc_counts_of : FnScope N_counts_of ["heights", "total"] (defScope s_counts_of) := ⟨rfl, rfl, rfl, by decide +kernel, rfl, by decide +kernel, by decide +kernel⟩
abbrev N_heights_of : List Str := ["filling", "place"]
theorem sc_heights_of : FnScope N_heights_of ["filling"] (defScope s_heights_of) := ⟨rfl, rfl, rfl, by decide +kernel, rfl, by decide +kernel, by decide +kernel⟩
abbrev N_climbs_of : List Str := ["n", "rules", "total", "start", "end", "gain", "turns", "label"]
theorem sc_climbs_of : FnScope N_climbs_of ["n", "rules", "total"] (defScope s_climbs_of) := ⟨rfl, rfl, rfl, by decide +kernel, rfl, by decide +kernel, by decide +kernel⟩
abbrev N_settled : List Str := ["climbs", "heights", "turn", "higher", "start", "end", "climb", "height"]
theorem sc_settled : FnScope N_settled ["climbs", "heights"] (defScope s_settled) := ⟨rfl, rfl, rfl, by decide +kernel, rfl, by decide +kernel, by decide +kernel⟩
abbrev N_heights_from : List Str := ["n", "climbs", "total", "start", "place"]
theorem sc_heights_from : FnScope N_heights_from ["n", "climbs", "total", "start"] (defScope s_heights_from) := ⟨rfl, rfl, rfl, by decide +kernel, rfl, by decide +kernel, by decide +kernel⟩
abbrev N_window_range : List Str := ["n", "rules", "total", "first", "size", "climbs", "end", "passed", "onward", "back"]
theorem sc_window_range : FnScope N_window_range ["n", "rules", "total", "first", "size"] (defScope s_window_range) := ⟨rfl, rfl, rfl, by decide +kernel, rfl, by decide +kernel, by decide +kernel⟩
abbrev N_smallest_filling : List Str := ["n", "rules", "total", "heights"]
theorem sc_smallest_filling : FnScope N_smallest_filling ["n", "rules", "total"] (defScope s_smallest_filling) := ⟨rfl, rfl, rfl, by decide +kernel, rfl, by decide +kernel, by decide +kernel⟩
abbrev N_greatest_filling : List Str := ["n", "rules", "total", "descents", "depths", "start", "end", "climb", "depth"]
theorem sc_greatest_filling : FnScope N_greatest_filling ["n", "rules", "total"] (defScope s_greatest_filling) := ⟨rfl, rfl, rfl, by decide +kernel, rfl, by decide +kernel, by decide +kernel⟩
abbrev N_last_to_rise : List Str := ["n", "climbs", "heights", "taut", "firsts", "before", "start", "end", "climb", "place"]
theorem sc_last_to_rise : FnScope N_last_to_rise ["n", "climbs", "heights"] (defScope s_last_to_rise) := ⟨rfl, rfl, rfl, by decide +kernel, rfl, by decide +kernel, by decide +kernel⟩
abbrev N_next_filling : List Str := ["n", "rules", "filling", "total", "climbs", "heights", "place"]
theorem sc_next_filling : FnScope N_next_filling ["n", "rules", "filling"] (defScope s_next_filling) := ⟨rfl, rfl, rfl, by decide +kernel, rfl, by decide +kernel, by decide +kernel⟩
abbrev N_is_number : List Str := ["value"]
theorem sc_is_number : FnScope N_is_number ["value"] (defScope s_is_number) := ⟨rfl, rfl, rfl, by decide +kernel, rfl, by decide +kernel, by decide +kernel⟩
abbrev N_is_filling : List Str := ["n", "value", "count"]
theorem sc_is_filling : FnScope N_is_filling ["n", "value"] (defScope s_is_filling) := ⟨rfl, rfl, rfl, by decide +kernel, rfl, by decide +kernel, by decide +kernel⟩
abbrev N_covers : List Str := ["n", "first", "size", "place"]
theorem sc_covers : FnScope N_covers ["n", "first", "size", "place"] (defScope s_covers) := ⟨rfl, rfl, rfl, by decide +kernel, rfl, by decide +kernel, by decide +kernel⟩
abbrev N_window_places : List Str := ["n", "first", "size", "place"]
theorem sc_window_places : FnScope N_window_places ["n", "first", "size"] (defScope s_window_places) := ⟨rfl, rfl, rfl, by decide +kernel, rfl, by decide +kernel, by decide +kernel⟩
abbrev N_window_sum : List Str := ["filling", "first", "size", "place"]
theorem sc_window_sum : FnScope N_window_sum ["filling", "first", "size"] (defScope s_window_sum) := ⟨rfl, rfl, rfl, by decide +kernel, rfl, by decide +kernel, by decide +kernel⟩
abbrev N_broken_rules : List Str := ["n", "rules", "filling", "broken", "index", "first", "size", "least", "most", "units"]
theorem sc_broken_rules : FnScope N_broken_rules ["n", "rules", "filling"] (defScope s_broken_rules) := ⟨rfl, rfl, rfl, by decide +kernel, rfl, by decide +kernel, by decide +kernel⟩
abbrev N_fits : List Str := ["n", "rules", "value"]
theorem sc_fits : FnScope N_fits ["n", "rules", "value"] (defScope s_fits) := ⟨rfl, rfl, rfl, by decide +kernel, rfl, by decide +kernel, by decide +kernel⟩
abbrev N__law_one : List Str := ["_law_drawn", "_law_items"]
theorem sc__law_one : FnScope N__law_one ["_law_drawn", "_law_items"] (defScope s__law_one) := ⟨rfl, rfl, rfl, by decide +kernel, rfl, by decide +kernel, by decide +kernel⟩
abbrev N__law_part : List Str := ["_law_filling_here", "_law_first", "_law_size", "_law_n", "_law_k"]
theorem sc__law_part : FnScope N__law_part ["_law_filling_here", "_law_first", "_law_size"] (defScope s__law_part) := ⟨rfl, rfl, rfl, by decide +kernel, rfl, by decide +kernel, by decide +kernel⟩
abbrev N__law_rule : List Str := ["_law_drawn", "_law_filling_here", "_law_n", "_law_first", "_law_size", "_law_found", "_law_least", "_law_most"]
theorem sc__law_rule : FnScope N__law_rule ["_law_drawn", "_law_filling_here"] (defScope s__law_rule) := ⟨rfl, rfl, rfl, by decide +kernel, rfl, by decide +kernel, by decide +kernel⟩
abbrev N__law_ring : List Str := ["_law_drawn", "_law_most", "_law_great", "_law_many", "_law_n", "_law_filling_here", "_law_rules", "_law_place", "_law_k"]
theorem sc__law_ring : FnScope N__law_ring ["_law_drawn", "_law_most", "_law_great", "_law_many"] (defScope s__law_ring) := ⟨rfl, rfl, rfl, by decide +kernel, rfl, by decide +kernel, by decide +kernel⟩
abbrev N__law_sums : List Str := ["_law_filling_here", "_law_shift", "_law_k"]
theorem sc__law_sums : FnScope N__law_sums ["_law_filling_here", "_law_shift"] (defScope s__law_sums) := ⟨rfl, rfl, rfl, by decide +kernel, rfl, by decide +kernel, by decide +kernel⟩
abbrev N__law_filling : List Str := ["_law_sums_here", "_law_before", "_law_after"]
theorem sc__law_filling : FnScope N__law_filling ["_law_sums_here"] (defScope s__law_filling) := ⟨rfl, rfl, rfl, by decide +kernel, rfl, by decide +kernel, by decide +kernel⟩
abbrev N__law_mixed_right : List Str := ["_law_n", "_law_rules", "_law_one_here", "_law_other", "_law_shift", "_law_pairs", "_law_rows", "_law_sums_here", "_law_row", "_law_pair"]
theorem sc__law_mixed_right : FnScope N__law_mixed_right ["_law_n", "_law_rules", "_law_one_here", "_law_other", "_law_shift"] (defScope s__law_mixed_right) := ⟨rfl, rfl, rfl, by decide +kernel, rfl, by decide +kernel, by decide +kernel⟩
abbrev N_law : List Str := ["_law_script", "_law_drawn", "_law_turn", "_law_n", "_law_rules", "_law_filling_here", "_law_total", "_law_rows", "_law_after", "_law_first", "_law_size", "_law_value", "_law_one_here", "_law_other", "_law_spread", "_law_shift", "_law_row"]
theorem sc_law : FnScope N_law ["_law_script"] (defScope s_law) := ⟨rfl, rfl, rfl, by decide +kernel, rfl, by decide +kernel, by decide +kernel⟩
/-! ### what each def is over data -/
abbrev sp__law_next : DL.Spec := drawSpec
def dt_links_of : DS := (sSeq (sOwn 2 (fLc (wR1 (aCons (dVar 0) aNil)) (gNm 10) tOn (dTup (aCons (dVar 10) (aCons (dOp rdMod (dOp rdAdd (dVar 10) (dC (.int 1))) (dVar 0)) (aCons (dC (.int 0)) (aCons (dOp rdDiv (dOp rdAdd (dVar 10) (dC (.int 1))) (dVar 0)) (aCons (dC .none) aNil)))))) (List.map (·.2) ([("place", 10)] : List (Str × Nat))))) (sSeq (sFor (wEnumerateT (aCons (dVar 1) aNil)) (gTu 2 (gsCons (gNm 3) (gsCons (gTu 4 (gsCons (gNm 4) (gsCons (gNm 5) (gsCons (gNm 6) (gsCons (gNm 7) gsNil))))) gsNil))) (sSeq (sAsg (dOp rdMod (dOp rdAdd (dVar 4) (dVar 5)) (dVar 0)) (gNm 8)) (sSeq (sAsg (dOp rdDiv (dOp rdAdd (dVar 4) (dVar 5)) (dVar 0)) (gNm 9)) (sSeq (sApp 2 (dTup (aCons (dVar 4) (aCons (dVar 8) (aCons (dVar 6) (aCons (dVar 9) (aCons (dTup (aCons (dVar 3) (aCons (dC (.str "least")) aNil))) aNil))))))) (sIf (tVal (dUn rdNotN (dVar 7))) (sApp 2 (dTup (aCons (dVar 8) (aCons (dVar 4) (aCons (dUn rdNeg (dVar 7)) (aCons (dUn rdNeg (dVar 9)) (aCons (dTup (aCons (dVar 3) (aCons (dC (.str "most")) aNil))) aNil))))))) sNx))))) (sFrz 2 (sRet (dVar 2)))))
def sp_links_of : DL.Spec := bodySpec 11 dt_links_of
def dt_counts_of : DS := (sSeq (sAsg (dOp rdAddX (dF (fSl (dVar 0) (oSome (dC (.int 1))) oNo)) (dLst (aCons (dOp rdAdd (dOp rdIx (dVar 0) (dC (.int 0))) (dVar 1)) aNil))) (gNm 2)) (sRet (dCB rdTuple (aCons (dLc (wZipL (aCons (dVar 0) (aCons (dVar 2) aNil))) (gTu 2 (gsCons (gNm 3) (gsCons (gNm 4) gsNil))) tOn (dOp rdSub (dVar 4) (dVar 3)) (List.map (·.2) ([("start", 3), ("end", 4)] : List (Str × Nat)))) aNil))))
def sp_counts_of : DL.Spec := bodySpec 5 dt_counts_of
def dt_heights_of : DS := (sRet (dLc (wR1 (aCons (dCB rdLen (aCons (dVar 0) aNil)) aNil)) (gNm 1) tOn (dCB rdSumA (aCons (dSlT (dVar 0) oNo (oSome (dVar 1))) aNil)) (List.map (·.2) ([("place", 1)] : List (Str × Nat)))))
def sp_heights_of : DL.Spec := bodySpec 2 dt_heights_of
def dt_climbs_of : DS := (sRet (dLc (wL (dCall (fun xs c P => xs.length = 2 ∧ sp_links_of xs c P) (aCons (dVar 0) (aCons (dVar 1) aNil)))) (gTu 5 (gsCons (gNm 3) (gsCons (gNm 4) (gsCons (gNm 5) (gsCons (gNm 6) (gsCons (gNm 7) gsNil)))))) tOn (dTup (aCons (dVar 3) (aCons (dVar 4) (aCons (dOp rdSub (dVar 5) (dOp rdMul (dVar 6) (dVar 2))) aNil)))) (List.map (·.2) ([("start", 3), ("end", 4), ("gain", 5), ("turns", 6), ("label", 7)] : List (Str × Nat)))))
def sp_climbs_of : DL.Spec := bodySpec 8 dt_climbs_of
def dt_settled : DS := (sSeq (sFor (wR1 (aCons (dCB rdLen (aCons (dVar 1) aNil)) aNil)) (gNm 2) (sSeq (sOwn 3 (fList (dVar 1))) (sSeq (sFor (wL (dVar 0)) (gTu 3 (gsCons (gNm 4) (gsCons (gNm 5) (gsCons (gNm 6) gsNil)))) (sSeq (sAsg (dOp rdAdd (dOwnIx 3 (dVar 4)) (dVar 6)) (gNm 7)) (sIf (tVal (dOp rdGt (dVar 7) (dOwnIx 3 (dVar 5)))) (sOwnSet 3 (dVar 7) (dVar 5)) sNx))) (sFrz 3 (sSeq (sIf (tVal (dOp rdEq (dVar 3) (dVar 1))) (sRet (dVar 1)) sNx) (sAsg (dVar 3) (gNm 1))))))) (sRet (dC .none)))
def sp_settled : DL.Spec := bodySpec 8 dt_settled
def dt_heights_from : DS := (sRet (dCall (fun xs c P => xs.length = 2 ∧ sp_settled xs c P) (aCons (dVar 1) (aCons (dLc (wR1 (aCons (dVar 0) aNil)) (gNm 4) tOn (dIfE (tVal (dOp rdLt (dVar 4) (dVar 3))) (dUn rdNeg (dVar 2)) (dC (.int 0))) (List.map (·.2) ([("place", 4)] : List (Str × Nat)))) aNil))))
def sp_heights_from : DL.Spec := bodySpec 5 dt_heights_from
def dt_window_range : DS := (sSeq (sAsg (dCall (fun xs c P => xs.length = 3 ∧ sp_climbs_of xs c P) (aCons (dVar 0) (aCons (dVar 1) (aCons (dVar 2) aNil)))) (gNm 5)) (sSeq (sAsg (dOp rdMod (dOp rdAdd (dVar 3) (dVar 4)) (dVar 0)) (gNm 6)) (sSeq (sAsg (dOp rdMul (dOp rdDiv (dOp rdAdd (dVar 3) (dVar 4)) (dVar 0)) (dVar 2)) (gNm 7)) (sSeq (sAsg (dCall (fun xs c P => xs.length = 4 ∧ sp_heights_from xs c P) (aCons (dVar 0) (aCons (dVar 5) (aCons (dVar 2) (aCons (dVar 3) aNil))))) (gNm 8)) (sSeq (sIf (tVal (dUn rdIsN (dVar 8))) (sRet (dC .none)) sNx) (sSeq (sAsg (dCall (fun xs c P => xs.length = 4 ∧ sp_heights_from xs c P) (aCons (dVar 0) (aCons (dVar 5) (aCons (dVar 2) (aCons (dVar 6) aNil))))) (gNm 9)) (sRet (dTup (aCons (dOp rdAdd (dVar 7) (dOp rdIx (dVar 8) (dVar 6))) (aCons (dOp rdSub (dVar 7) (dOp rdIx (dVar 9) (dVar 3))) aNil))))))))))
def sp_window_range : DL.Spec := bodySpec 10 dt_window_range
def dt_smallest_filling : DS := (sSeq (sAsg (dCall (fun xs c P => xs.length = 4 ∧ sp_heights_from xs c P) (aCons (dVar 0) (aCons (dCall (fun xs c P => xs.length = 3 ∧ sp_climbs_of xs c P) (aCons (dVar 0) (aCons (dVar 1) (aCons (dVar 2) aNil)))) (aCons (dVar 2) (aCons (dC (.int 0)) aNil))))) (gNm 3)) (sSeq (sIf (tVal (dUn rdIsN (dVar 3))) (sRet (dC .none)) sNx) (sRet (dCall (fun xs c P => xs.length = 2 ∧ sp_counts_of xs c P) (aCons (dVar 3) (aCons (dVar 2) aNil))))))
def sp_smallest_filling : DL.Spec := bodySpec 4 dt_smallest_filling
def dt_greatest_filling : DS := (sSeq (sAsg (dLc (wL (dCall (fun xs c P => xs.length = 3 ∧ sp_climbs_of xs c P) (aCons (dVar 0) (aCons (dVar 1) (aCons (dVar 2) aNil))))) (gTu 3 (gsCons (gNm 5) (gsCons (gNm 6) (gsCons (gNm 7) gsNil)))) tOn (dTup (aCons (dVar 6) (aCons (dVar 5) (aCons (dVar 7) aNil)))) (List.map (·.2) ([("start", 5), ("end", 6), ("climb", 7)] : List (Str × Nat)))) (gNm 3)) (sSeq (sAsg (dCall (fun xs c P => xs.length = 2 ∧ sp_settled xs c P) (aCons (dVar 3) (aCons (dOp rdAddX (dLst (aCons (dC (.int 0)) aNil)) (dF (fRep (fLst (aCons (dUn rdNeg (dVar 2)) aNil)) (dOp rdSub (dVar 0) (dC (.int 1)))))) aNil))) (gNm 4)) (sSeq (sIf (tVal (dUn rdIsN (dVar 4))) (sRet (dC .none)) sNx) (sRet (dCall (fun xs c P => xs.length = 2 ∧ sp_counts_of xs c P) (aCons (dLc (wL (dVar 4)) (gNm 8) tOn (dUn rdNeg (dVar 8)) (List.map (·.2) ([("depth", 8)] : List (Str × Nat)))) (aCons (dVar 2) aNil)))))))
def sp_greatest_filling : DL.Spec := bodySpec 9 dt_greatest_filling
def dt_last_to_rise : DS := (sSeq (sAsg (dLc (wL (dVar 1)) (gTu 3 (gsCons (gNm 6) (gsCons (gNm 7) (gsCons (gNm 8) gsNil)))) (tVal (dOp rdEq (dOp rdAdd (dOp rdIx (dVar 2) (dVar 6)) (dVar 8)) (dOp rdIx (dVar 2) (dVar 7)))) (dTup (aCons (dVar 6) (aCons (dVar 7) aNil))) (List.map (·.2) ([("start", 6), ("end", 7), ("climb", 8)] : List (Str × Nat)))) (gNm 3)) (sSeq (sOwn 4 (fRg (dVar 0))) (sSeq (sAsg (dLst aNil) (gNm 5)) (sSeq (sWhile (tVal (dOwnNe 4 (dVar 5))) (sSeq (sAsg (dOwnLst 4) (gNm 5)) (sFor (wL (dVar 3)) (gTu 2 (gsCons (gNm 6) (gsCons (gNm 7) gsNil))) (sIf (tVal (dOp rdLt (dOwnIx 4 (dVar 7)) (dOwnIx 4 (dVar 6)))) (sOwnSet 4 (dOwnIx 4 (dVar 7)) (dVar 6)) sNx)))) (sFrz 4 (sRet (dCB rdMaxA (aCons (dLc (wR1 (aCons (dVar 0) aNil)) (gNm 9) (tVal (dOp rdEq (dOp rdIx (dVar 4) (dVar 9)) (dVar 9))) (dVar 9) (List.map (·.2) ([("place", 9)] : List (Str × Nat)))) aNil))))))))
def sp_last_to_rise : DL.Spec := bodySpec 10 dt_last_to_rise
def dt_next_filling : DS := (sSeq (sAsg (dCB rdSumA (aCons (dVar 2) aNil)) (gNm 3)) (sSeq (sAsg (dCall (fun xs c P => xs.length = 3 ∧ sp_climbs_of xs c P) (aCons (dVar 0) (aCons (dVar 1) (aCons (dVar 3) aNil)))) (gNm 4)) (sSeq (sAsg (dCall (fun xs c P => xs.length = 1 ∧ sp_heights_of xs c P) (aCons (dVar 2) aNil)) (gNm 5)) (sSeq (sAsg (dCall (fun xs c P => xs.length = 3 ∧ sp_last_to_rise xs c P) (aCons (dVar 0) (aCons (dVar 4) (aCons (dVar 5) aNil)))) (gNm 6)) (sSeq (sIf (tVal (dOp rdEq (dVar 6) (dC (.int 0)))) (sRet (dC .none)) sNx) (sRet (dCall (fun xs c P => xs.length = 2 ∧ sp_counts_of xs c P) (aCons (dCall (fun xs c P => xs.length = 2 ∧ sp_settled xs c P) (aCons (dVar 4) (aCons (dOp rdAddX (dF (fSl (dVar 5) oNo (oSome (dVar 6)))) (dF (fRep (fLst (aCons (dOp rdAdd (dOp rdIx (dVar 5) (dVar 6)) (dC (.int 1))) aNil)) (dOp rdSub (dVar 0) (dVar 6))))) aNil))) (aCons (dVar 3) aNil)))))))))
def sp_next_filling : DL.Spec := bodySpec 7 dt_next_filling
def dt_is_number : DS := (sRet (dAn (dUn (rdTy isInt) (dVar 0)) (dNt (dUn (rdTy isBool) (dVar 0)))))
def sp_is_number : DL.Spec := bodySpec 1 dt_is_number
def dt_is_filling : DS := (sSeq (sIf (tOo (tNt (tVal (dUn (rdTy isTup) (dVar 1)))) (tVal (dOp rdNe (dCB rdLen (aCons (dVar 1) aNil)) (dVar 0)))) (sRet (dC (.bool false))) sNx) (sRet (dCB rdAll (aCons (dLc (wT (dVar 1)) (gNm 2) tOn (dAn (dCall (fun xs c P => xs.length = 1 ∧ sp_is_number xs c P) (aCons (dVar 2) aNil)) (dOp rdGe (dVar 2) (dC (.int 0)))) (List.map (·.2) ([("count", 2)] : List (Str × Nat)))) aNil))))
def sp_is_filling : DL.Spec := bodySpec 3 dt_is_filling
def dt_covers : DS := (sRet (dOp rdLt (dOp rdMod (dOp rdSub (dVar 3) (dVar 1)) (dVar 0)) (dVar 2)))
def sp_covers : DL.Spec := bodySpec 4 dt_covers
def dt_window_places : DS := (sRet (dCB rdTuple (aCons (dLc (wR1 (aCons (dVar 0) aNil)) (gNm 3) (tVal (dCall (fun xs c P => xs.length = 4 ∧ sp_covers xs c P) (aCons (dVar 0) (aCons (dVar 1) (aCons (dVar 2) (aCons (dVar 3) aNil)))))) (dVar 3) (List.map (·.2) ([("place", 3)] : List (Str × Nat)))) aNil)))
def sp_window_places : DL.Spec := bodySpec 4 dt_window_places
def dt_window_sum : DS := (sRet (dCB rdSumA (aCons (dLc (wT (dCall (fun xs c P => xs.length = 3 ∧ sp_window_places xs c P) (aCons (dCB rdLen (aCons (dVar 0) aNil)) (aCons (dVar 1) (aCons (dVar 2) aNil))))) (gNm 3) tOn (dOp rdIx (dVar 0) (dVar 3)) (List.map (·.2) ([("place", 3)] : List (Str × Nat)))) aNil)))
def sp_window_sum : DL.Spec := bodySpec 4 dt_window_sum
def dt_broken_rules : DS := (sSeq (sNew 3) (sSeq (sFor (wEnumerateT (aCons (dVar 1) aNil)) (gTu 2 (gsCons (gNm 4) (gsCons (gTu 4 (gsCons (gNm 5) (gsCons (gNm 6) (gsCons (gNm 7) (gsCons (gNm 8) gsNil))))) gsNil))) (sSeq (sAsg (dCall (fun xs c P => xs.length = 3 ∧ sp_window_sum xs c P) (aCons (dVar 2) (aCons (dVar 5) (aCons (dVar 6) aNil)))) (gNm 9)) (sSeq (sIf (tVal (dOp rdLt (dVar 9) (dVar 7))) (sApp 3 (dTup (aCons (dVar 4) (aCons (dC (.str "least")) aNil)))) sNx) (sIf (tAn (tVal (dUn rdNotN (dVar 8))) (tVal (dOp rdGt (dVar 9) (dVar 8)))) (sApp 3 (dTup (aCons (dVar 4) (aCons (dC (.str "most")) aNil)))) sNx)))) (sFrz 3 (sRet (dCB rdTuple (aCons (dVar 3) aNil))))))
def sp_broken_rules : DL.Spec := bodySpec 10 dt_broken_rules
def dt_fits : DS := (sRet (dAn (dCall (fun xs c P => xs.length = 2 ∧ sp_is_filling xs c P) (aCons (dVar 0) (aCons (dVar 2) aNil))) (dOp rdEq (dCall (fun xs c P => xs.length = 3 ∧ sp_broken_rules xs c P) (aCons (dVar 0) (aCons (dVar 1) (aCons (dVar 2) aNil)))) (dTup aNil))))
def sp_fits : DL.Spec := bodySpec 3 dt_fits
def dt__law_one : DS := (sRet (dOp rdIx (dVar 1) (dCall (fun xs c P => xs.length = 2 ∧ sp__law_next xs c P) (aCons (dVar 0) (aCons (dCB rdLen (aCons (dVar 1) aNil)) aNil)))))
def sp__law_one : DL.Spec := bodySpec 2 dt__law_one
def dt__law_part : DS := (sSeq (sAsg (dCB rdLen (aCons (dVar 0) aNil)) (gNm 3)) (sRet (dCB rdSumA (aCons (dLc (wR1 (aCons (dVar 2) aNil)) (gNm 4) tOn (dOp rdIx (dVar 0) (dOp rdMod (dOp rdAdd (dVar 1) (dVar 4)) (dVar 3))) (List.map (·.2) ([("_law_k", 4)] : List (Str × Nat)))) aNil))))
def sp__law_part : DL.Spec := bodySpec 5 dt__law_part
def dt__law_rule : DS := (sSeq (sAsg (dCB rdLen (aCons (dVar 1) aNil)) (gNm 2)) (sSeq (sPar 3 4 (aCons (dCall (fun xs c P => xs.length = 2 ∧ sp__law_next xs c P) (aCons (dVar 0) (aCons (dVar 2) aNil))) (aCons (dOp rdAdd (dC (.int 1)) (dCall (fun xs c P => xs.length = 2 ∧ sp__law_next xs c P) (aCons (dVar 0) (aCons (dVar 2) aNil)))) aNil))) (sSeq (sAsg (dCall (fun xs c P => xs.length = 3 ∧ sp__law_part xs c P) (aCons (dVar 1) (aCons (dVar 3) (aCons (dVar 4) aNil)))) (gNm 5)) (sSeq (sAsg (dCB rdMaxA (aCons (dC (.int 0)) (aCons (dOp rdSub (dVar 5) (dOp rdIx (dLst (aCons (dC (.int 0)) (aCons (dC (.int 1)) (aCons (dVar 5) (aCons (dCall (fun xs c P => xs.length = 2 ∧ sp__law_next xs c P) (aCons (dVar 0) (aCons (dOp rdAdd (dVar 5) (dC (.int 1))) aNil))) aNil))))) (dCall (fun xs c P => xs.length = 2 ∧ sp__law_next xs c P) (aCons (dVar 0) (aCons (dC (.int 4)) aNil))))) aNil))) (gNm 6)) (sSeq (sAsg (dOp rdIx (dLst (aCons (dVar 5) (aCons (dOp rdAdd (dVar 5) (dC (.int 1))) (aCons (dOp rdAdd (dVar 5) (dCall (fun xs c P => xs.length = 2 ∧ sp__law_next xs c P) (aCons (dVar 0) (aCons (dOp rdAdd (dVar 5) (dC (.int 2))) aNil)))) (aCons (dC .none) aNil))))) (dCall (fun xs c P => xs.length = 2 ∧ sp__law_next xs c P) (aCons (dVar 0) (aCons (dC (.int 4)) aNil)))) (gNm 7)) (sRet (dTup (aCons (dVar 3) (aCons (dVar 4) (aCons (dVar 6) (aCons (dVar 7) aNil)))))))))))
def sp__law_rule : DL.Spec := bodySpec 8 dt__law_rule
def dt__law_ring : DS := (sSeq (sAsg (dOp rdIx (dLst (aCons (dOp rdAdd (dC (.int 1)) (dCall (fun xs c P => xs.length = 2 ∧ sp__law_next xs c P) (aCons (dVar 0) (aCons (dVar 1) aNil)))) (aCons (dVar 1) aNil))) (dCB rdInt1 (aCons (dOp rdEq (dCall (fun xs c P => xs.length = 2 ∧ sp__law_next xs c P) (aCons (dVar 0) (aCons (dC (.int 4)) aNil))) (dC (.int 0))) aNil))) (gNm 4)) (sSeq (sAsg (dCB rdTuple (aCons (dLc (wR1 (aCons (dVar 4) aNil)) (gNm 7) tOn (dCall (fun xs c P => xs.length = 2 ∧ sp__law_next xs c P) (aCons (dVar 0) (aCons (dOp rdAdd (dVar 2) (dC (.int 1))) aNil))) (List.map (·.2) ([("_law_place", 7)] : List (Str × Nat)))) aNil)) (gNm 5)) (sSeq (sAsg (dCB rdTuple (aCons (dLc (wR1 (aCons (dCall (fun xs c P => xs.length = 2 ∧ sp__law_next xs c P) (aCons (dVar 0) (aCons (dOp rdAdd (dVar 3) (dC (.int 1))) aNil))) aNil)) (gNm 8) tOn (dCall (fun xs c P => xs.length = 2 ∧ sp__law_rule xs c P) (aCons (dVar 0) (aCons (dVar 5) aNil))) (List.map (·.2) ([("_law_k", 8)] : List (Str × Nat)))) aNil)) (gNm 6)) (sRet (dTup (aCons (dVar 4) (aCons (dVar 6) (aCons (dVar 5) aNil))))))))
def sp__law_ring : DL.Spec := bodySpec 9 dt__law_ring
def dt__law_sums : DS := (sRet (dLc (wR1 (aCons (dOp rdAdd (dCB rdLen (aCons (dVar 0) aNil)) (dC (.int 1))) aNil)) (gNm 2) tOn (dOp rdAdd (dVar 1) (dCB rdSumA (aCons (dSlT (dVar 0) oNo (oSome (dVar 2))) aNil))) (List.map (·.2) ([("_law_k", 2)] : List (Str × Nat)))))
def sp__law_sums : DL.Spec := bodySpec 3 dt__law_sums
def dt__law_filling : DS := (sRet (dCB rdTuple (aCons (dLc (wZipL (aCons (dVar 0) (aCons (dF (fSl (dVar 0) (oSome (dC (.int 1))) oNo)) aNil))) (gTu 2 (gsCons (gNm 1) (gsCons (gNm 2) gsNil))) tOn (dOp rdSub (dVar 2) (dVar 1)) (List.map (·.2) ([("_law_before", 1), ("_law_after", 2)] : List (Str × Nat)))) aNil)))
def sp__law_filling : DL.Spec := bodySpec 3 dt__law_filling
def dt__law_mixed_right : DS := (sSeq (sAsg (dLstZip (aCons (dCall (fun xs c P => xs.length = 2 ∧ sp__law_sums xs c P) (aCons (dVar 2) (aCons (dC (.int 0)) aNil))) (aCons (dCall (fun xs c P => xs.length = 2 ∧ sp__law_sums xs c P) (aCons (dVar 3) (aCons (dVar 4) aNil))) aNil))) (gNm 5)) (sSeq (sAsg (dLst (aCons (dLc (wL (dVar 5)) (gNm 9) tOn (dCB rdMinT (aCons (dVar 9) aNil)) (List.map (·.2) ([("_law_pair", 9)] : List (Str × Nat)))) (aCons (dLc (wL (dVar 5)) (gNm 9) tOn (dCB rdMaxT (aCons (dVar 9) aNil)) (List.map (·.2) ([("_law_pair", 9)] : List (Str × Nat)))) aNil))) (gNm 6)) (sSeq (sAsg (dOp rdAddX (dVar 6) (dLst (aCons (dLc (wL (dVar 5)) (gNm 9) tOn (dOp rdDiv (dCB rdSumA (aCons (dVar 9) aNil)) (dC (.int 2))) (List.map (·.2) ([("_law_pair", 9)] : List (Str × Nat)))) (aCons (dLc (wL (dVar 5)) (gNm 9) tOn (dOp rdDiv (dOp rdAdd (dCB rdSumA (aCons (dVar 9) aNil)) (dC (.int 1))) (dC (.int 2))) (List.map (·.2) ([("_law_pair", 9)] : List (Str × Nat)))) aNil)))) (gNm 6)) (sSeq (sFor (wL (dVar 6)) (gNm 7) (sSeq (sAsg (dCall (fun xs c P => xs.length = 1 ∧ sp__law_filling xs c P) (aCons (dVar 7) aNil)) (gNm 8)) (sIf (tOo (tVal (dOp rdNotB (dCall (fun xs c P => xs.length = 3 ∧ sp_fits xs c P) (aCons (dVar 0) (aCons (dVar 1) (aCons (dVar 8) aNil)))) (dC (.bool true)))) (tVal (dOp rdNe (dCB rdSumA (aCons (dVar 8) aNil)) (dCB rdSumA (aCons (dVar 2) aNil))))) (sRet (dC (.bool false))) sNx))) (sRet (dC (.bool true)))))))
def sp__law_mixed_right : DL.Spec := bodySpec 10 dt__law_mixed_right
def dt_law : DS := (sSeq (sDeck 1 0) (sSeq (sFor (wR1 (aCons (dC (.int 4)) aNil)) (gNm 2) (sSeq (sAsg (dCall (fun xs c P => xs.length = 4 ∧ sp__law_ring xs c P) (aCons (dVar 1) (aCons (dC (.int 12)) (aCons (dOp rdIx (dLst (aCons (dC (.int 9)) (aCons (dOp rdPow (dC (.int 10)) (dC (.int 7))) aNil))) (dOp rdMod (dVar 2) (dC (.int 2)))) (aCons (dC (.int 15)) aNil))))) (gTu 3 (gsCons (gNm 3) (gsCons (gNm 4) (gsCons (gNm 5) gsNil))))) (sSeq (sParEF 6 7 (dCB rdSumA (aCons (dVar 5) aNil)) (fLst (aCons (dVar 5) aNil))) (sFrz 7 (sSeq (sOwn 7 (fCat (dVar 7) (dLst (aCons (dCall (fun xs c P => xs.length = 3 ∧ sp_smallest_filling xs c P) (aCons (dVar 3) (aCons (dVar 4) (aCons (dVar 6) aNil)))) (aCons (dCall (fun xs c P => xs.length = 3 ∧ sp_greatest_filling xs c P) (aCons (dVar 3) (aCons (dVar 4) (aCons (dVar 6) aNil)))) aNil))))) (sSeq (sAsg (dLst (aCons (dCall (fun xs c P => xs.length = 3 ∧ sp_next_filling xs c P) (aCons (dVar 3) (aCons (dVar 4) (aCons (dOwnIx 7 (dC (.int 0))) aNil)))) (aCons (dCall (fun xs c P => xs.length = 3 ∧ sp_next_filling xs c P) (aCons (dVar 3) (aCons (dVar 4) (aCons (dOwnIx 7 (dC (.int 1))) aNil)))) aNil))) (gNm 8)) (sFrz 7 (sSeq (sOwn 7 (fCat (dVar 7) (dLc (wL (dVar 8)) (gNm 16) (tVal (dUn rdNotN (dVar 16))) (dVar 16) (List.map (·.2) ([("_law_row", 16)] : List (Str × Nat)))))) (sSeq (sPar 9 10 (aCons (dCall (fun xs c P => xs.length = 2 ∧ sp__law_next xs c P) (aCons (dVar 1) (aCons (dVar 3) aNil))) (aCons (dOp rdAdd (dC (.int 1)) (dCall (fun xs c P => xs.length = 2 ∧ sp__law_next xs c P) (aCons (dVar 1) (aCons (dVar 3) aNil)))) aNil))) (sSeq (sFor (wT (dCall (fun xs c P => xs.length = 5 ∧ sp_window_range xs c P) (aCons (dVar 3) (aCons (dVar 4) (aCons (dVar 6) (aCons (dVar 9) (aCons (dVar 10) aNil))))))) (gNm 11) (sApp 7 (dCall (fun xs c P => xs.length = 3 ∧ sp_smallest_filling xs c P) (aCons (dVar 3) (aCons (dOp rdAddU (dVar 4) (dTup (aCons (dTup (aCons (dVar 9) (aCons (dVar 10) (aCons (dVar 11) (aCons (dVar 11) aNil))))) aNil))) (aCons (dVar 6) aNil)))))) (sFrz 7 (sFor (wL (dVar 7)) (gNm 12) (sSeq (sAsg (dCall (fun xs c P => xs.length = 2 ∧ sp__law_one xs c P) (aCons (dVar 1) (aCons (dVar 7) aNil))) (gNm 13)) (sSeq (sAsg (dOp rdAdd (dOp rdAdd (dC (.int 1)) (dCB rdMaxT (aCons (dVar 12) aNil))) (dCB rdMaxT (aCons (dVar 13) aNil))) (gNm 14)) (sSeq (sAsg (dCall (fun xs c P => xs.length = 2 ∧ sp__law_next xs c P) (aCons (dVar 1) (aCons (dVar 14) aNil))) (gNm 15)) (sSeq (sAsg (dOp rdIx (dLst (aCons (dC (.int 0)) (aCons (dC (.int 1)) (aCons (dUn rdNeg (dC (.int 1))) (aCons (dVar 15) (aCons (dOp rdSub (dC (.int 0)) (dVar 15)) aNil)))))) (dCall (fun xs c P => xs.length = 2 ∧ sp__law_next xs c P) (aCons (dVar 1) (aCons (dC (.int 5)) aNil)))) (gNm 15)) (sIf (tNt (tVal (dCall (fun xs c P => xs.length = 5 ∧ sp__law_mixed_right xs c P) (aCons (dVar 3) (aCons (dVar 4) (aCons (dVar 12) (aCons (dVar 13) (aCons (dVar 15) aNil)))))))) (sRet (dC (.bool false))) sNx))))))))))))))))) (sRet (dC (.bool true)))))
def sp_law : DL.Spec := bodySpec 17 dt_law
/-! ### each def keeps that -/
section
variable {P : Program} {w : World} {K : PySem.W.Frag} {mg : Str → Option Value} {base : Heap}
theorem ok_links_of {f : Addr} {fd : FuncData} (F : Fun K "links_of" "links_of" s_links_of f fd) (hm : mg "links_of" = some (.ref f)) (hb : Binds K fd ["n", "rules"] []) (m_enumerate : mg "enumerate" = none) (m_range : mg "range" = none) : Def P w K mg base 1 "links_of" 2 sp_links_of := by
  have nd := sc_links_of.nd
  refine def_of (N := N_links_of) (dt := dt_links_of) F sc_links_of hm hb rfl (fun cdv A outer s H E hr hgd => ?_)
  exact (ds_cons (ds_ownLc 2 [("place", 10)] nd (dw_r1 (da_cons (de_var 0) da_nil) m_range) (blkOk_by (N := N_links_of) (sc := defScope s_links_of) (by decide +kernel)) (fun _ _ _ _ _ => (dg_name 10 nd)) (fun _ _ _ _ _ => dts_nil) (fun _ _ _ _ _ => (de_tup (da_cons (de_var 10) (da_cons (de_mod (de_add (de_var 10) de_int) (de_var 0)) (da_cons de_int (da_cons (de_div (de_add (de_var 10) de_int) (de_var 0)) (da_cons de_non da_nil))))))) (sw_true rfl rfl rfl (by decide +kernel))) (ds_cons (ds_for (dw_enumerateT (da_cons (de_var 1) da_nil) m_enumerate) (dg_tup (dgs_cons (dg_name 3 nd) (dgs_cons (dg_tup (dgs_cons (dg_name 4 nd) (dgs_cons (dg_name 5 nd) (dgs_cons (dg_name 6 nd) (dgs_cons (dg_name 7 nd) dgs_nil))))) dgs_nil))) (ds_cons (ds_set 8 nd (de_mod (de_add (de_var 4) (de_var 5)) (de_var 0))) (ds_cons (ds_set 9 nd (de_div (de_add (de_var 4) (de_var 5)) (de_var 0))) (ds_cons (ds_app 2 (de_tup (da_cons (de_var 4) (da_cons (de_var 8) (da_cons (de_var 6) (da_cons (de_var 9) (da_cons (de_tup (da_cons (de_var 3) (da_cons de_str da_nil))) da_nil))))))) (ds_one (ds_if (dt_notN (de_var 7)) (ds_one (ds_app 2 (de_tup (da_cons (de_var 8) (da_cons (de_var 4) (da_cons (de_neg (de_var 7)) (da_cons (de_neg (de_var 9)) (da_cons (de_tup (da_cons (de_var 3) (da_cons de_str da_nil))) da_nil)))))))) ds_nil)))))) (ds_frz 2 (ds_one (ds_ret (de_var 2))))))
theorem ok_counts_of {f : Addr} {fd : FuncData} (F : Fun K "counts_of" "counts_of" s_counts_of f fd) (hm : mg "counts_of" = some (.ref f)) (hb : Binds K fd ["heights", "total"] []) (m_tuple : mg "tuple" = none) (m_zip : mg "zip" = none) : Def P w K mg base 1 "counts_of" 2 sp_counts_of := by
  have nd := sc_counts_of.nd
  refine def_of (N := N_counts_of) (dt := dt_counts_of) F sc_counts_of hm hb rfl (fun cdv A outer s H E hr hgd => ?_)
  exact (ds_cons (ds_set 2 nd (de_addX (de_f (df_sl (de_var 0) (do_some de_int) do_none)) (de_lst (da_cons (de_add (de_item (de_var 0) de_int) (de_var 1)) da_nil)))) (ds_one (ds_ret (de_callT call_tuple_of cd_tuple m_tuple (by decide +kernel) (da_cons (de_lc [("start", 3), ("end", 4)] nd (dw_zipL (da_cons (de_var 0) (da_cons (de_var 2) da_nil)) m_zip) (blkOk_by (N := N_counts_of) (sc := defScope s_counts_of) (by decide +kernel)) (fun _ _ _ _ _ => (dg_tup (dgs_cons (dg_name 3 nd) (dgs_cons (dg_name 4 nd) dgs_nil)))) (fun _ _ _ _ _ => dts_nil) (fun _ _ _ _ _ => (de_sub (de_var 4) (de_var 3)))) da_nil)))))
theorem ok_heights_of {f : Addr} {fd : FuncData} (F : Fun K "heights_of" "heights_of" s_heights_of f fd) (hm : mg "heights_of" = some (.ref f)) (hb : Binds K fd ["filling"] []) (m_len : mg "len" = none) (m_range : mg "range" = none) (m_sum : mg "sum" = none) : Def P w K mg base 1 "heights_of" 1 sp_heights_of := by
  have nd := sc_heights_of.nd
  refine def_of (N := N_heights_of) (dt := dt_heights_of) F sc_heights_of hm hb rfl (fun cdv A outer s H E hr hgd => ?_)
  exact (ds_one (ds_ret (de_lc [("place", 1)] nd (dw_r1 (da_cons (de_callB call_len_seq cd_len m_len (by decide +kernel) (da_cons (de_var 0) da_nil)) da_nil) m_range) (blkOk_by (N := N_heights_of) (sc := defScope s_heights_of) (by decide +kernel)) (fun _ _ _ _ _ => (dg_name 1 nd)) (fun _ _ _ _ _ => dts_nil) (fun _ _ _ _ _ => (de_callB (cr_or (cr_sum rfl) (cr_sumT rfl)) cd_sumA m_sum (by decide +kernel) (da_cons (de_slT (de_var 0) do_none (do_some (de_var 1))) da_nil))))))
theorem ok_climbs_of {f : Addr} {fd : FuncData} (F : Fun K "climbs_of" "climbs_of" s_climbs_of f fd) (hm : mg "climbs_of" = some (.ref f)) (hb : Binds K fd ["n", "rules", "total"] []) (d_links_of : Def P w K mg base 1 "links_of" 2 sp_links_of) : Def P w K mg base 2 "climbs_of" 3 sp_climbs_of := by
  have nd := sc_climbs_of.nd
  refine def_of (N := N_climbs_of) (dt := dt_climbs_of) F sc_climbs_of hm hb rfl (fun cdv A outer s H E hr hgd => ?_)
  exact (ds_one (ds_ret (de_lc [("start", 3), ("end", 4), ("gain", 5), ("turns", 6), ("label", 7)] nd (dw_list (de_call d_links_of (hr.mono (by decide)) hgd (da_cons (de_var 0) (da_cons (de_var 1) da_nil)))) (blkOk_by (N := N_climbs_of) (sc := defScope s_climbs_of) (by decide +kernel)) (fun _ _ _ _ _ => (dg_tup (dgs_cons (dg_name 3 nd) (dgs_cons (dg_name 4 nd) (dgs_cons (dg_name 5 nd) (dgs_cons (dg_name 6 nd) (dgs_cons (dg_name 7 nd) dgs_nil))))))) (fun _ _ _ _ _ => dts_nil) (fun _ _ _ _ _ => (de_tup (da_cons (de_var 3) (da_cons (de_var 4) (da_cons (de_sub (de_var 5) (de_mul (de_var 6) (de_var 2))) da_nil))))))))
theorem ok_settled {f : Addr} {fd : FuncData} (F : Fun K "settled" "settled" s_settled f fd) (hm : mg "settled" = some (.ref f)) (hb : Binds K fd ["climbs", "heights"] []) (m_len : mg "len" = none) (m_list : mg "list" = none) (m_range : mg "range" = none) : Def P w K mg base 1 "settled" 2 sp_settled := by
  have nd := sc_settled.nd
  refine def_of (N := N_settled) (dt := dt_settled) F sc_settled hm hb rfl (fun cdv A outer s H E hr hgd => ?_)
  exact (ds_cons (ds_for (dw_r1 (da_cons (de_callB call_len_seq cd_len m_len (by decide +kernel) (da_cons (de_var 1) da_nil)) da_nil) m_range) (dg_name 2 nd) (ds_cons (ds_own 3 nd (df_list (de_var 1) m_list)) (ds_cons (ds_for (dw_list (de_var 0)) (dg_tup (dgs_cons (dg_name 4 nd) (dgs_cons (dg_name 5 nd) (dgs_cons (dg_name 6 nd) dgs_nil)))) (ds_cons (ds_set 7 nd (de_add (de_ownIx 3 (de_var 4)) (de_var 6))) (ds_one (ds_if (dt_gt (de_var 7) (de_ownIx 3 (de_var 5))) (ds_one (ds_ownSetB 3 (de_var 7) (de_var 5))) ds_nil)))) (ds_frz 3 (ds_cons (ds_if (dt_eq hr (de_var 3) (de_var 1)) (ds_one (ds_ret (de_var 1))) ds_nil) (ds_one (ds_set 1 nd (de_var 3)))))))) (ds_one (ds_ret de_non)))
theorem ok_heights_from {f : Addr} {fd : FuncData} (F : Fun K "heights_from" "heights_from" s_heights_from f fd) (hm : mg "heights_from" = some (.ref f)) (hb : Binds K fd ["n", "climbs", "total", "start"] []) (m_range : mg "range" = none) (d_settled : Def P w K mg base 1 "settled" 2 sp_settled) : Def P w K mg base 2 "heights_from" 4 sp_heights_from := by
  have nd := sc_heights_from.nd
  refine def_of (N := N_heights_from) (dt := dt_heights_from) F sc_heights_from hm hb rfl (fun cdv A outer s H E hr hgd => ?_)
  exact (ds_one (ds_ret (de_call d_settled (hr.mono (by decide)) hgd (da_cons (de_var 1) (da_cons (de_lc [("place", 4)] nd (dw_r1 (da_cons (de_var 0) da_nil) m_range) (blkOk_by (N := N_heights_from) (sc := defScope s_heights_from) (by decide +kernel)) (fun _ _ _ _ _ => (dg_name 4 nd)) (fun _ _ _ _ _ => dts_nil) (fun _ _ _ _ _ => (de_ifE (dt_lt (de_var 4) (de_var 3)) (de_neg (de_var 2)) de_int))) da_nil)))))
theorem ok_window_range {f : Addr} {fd : FuncData} (F : Fun K "window_range" "window_range" s_window_range f fd) (hm : mg "window_range" = some (.ref f)) (hb : Binds K fd ["n", "rules", "total", "first", "size"] []) (d_climbs_of : Def P w K mg base 2 "climbs_of" 3 sp_climbs_of) (d_heights_from : Def P w K mg base 2 "heights_from" 4 sp_heights_from) : Def P w K mg base 3 "window_range" 5 sp_window_range := by
  have nd := sc_window_range.nd
  refine def_of (N := N_window_range) (dt := dt_window_range) F sc_window_range hm hb rfl (fun cdv A outer s H E hr hgd => ?_)
  exact (ds_cons (ds_set 5 nd (de_call d_climbs_of (hr.mono (by decide)) hgd (da_cons (de_var 0) (da_cons (de_var 1) (da_cons (de_var 2) da_nil))))) (ds_cons (ds_set 6 nd (de_mod (de_add (de_var 3) (de_var 4)) (de_var 0))) (ds_cons (ds_set 7 nd (de_mul (de_div (de_add (de_var 3) (de_var 4)) (de_var 0)) (de_var 2))) (ds_cons (ds_set 8 nd (de_call d_heights_from (hr.mono (by decide)) hgd (da_cons (de_var 0) (da_cons (de_var 5) (da_cons (de_var 2) (da_cons (de_var 3) da_nil)))))) (ds_cons (ds_if (dt_isN (de_var 8)) (ds_one (ds_ret de_non)) ds_nil) (ds_cons (ds_set 9 nd (de_call d_heights_from (hr.mono (by decide)) hgd (da_cons (de_var 0) (da_cons (de_var 5) (da_cons (de_var 2) (da_cons (de_var 6) da_nil)))))) (ds_one (ds_ret (de_tup (da_cons (de_add (de_var 7) (de_item (de_var 8) (de_var 6))) (da_cons (de_sub (de_var 7) (de_item (de_var 9) (de_var 3))) da_nil)))))))))))
theorem ok_smallest_filling {f : Addr} {fd : FuncData} (F : Fun K "smallest_filling" "smallest_filling" s_smallest_filling f fd) (hm : mg "smallest_filling" = some (.ref f)) (hb : Binds K fd ["n", "rules", "total"] []) (d_climbs_of : Def P w K mg base 2 "climbs_of" 3 sp_climbs_of) (d_counts_of : Def P w K mg base 1 "counts_of" 2 sp_counts_of) (d_heights_from : Def P w K mg base 2 "heights_from" 4 sp_heights_from) : Def P w K mg base 3 "smallest_filling" 3 sp_smallest_filling := by
  have nd := sc_smallest_filling.nd
  refine def_of (N := N_smallest_filling) (dt := dt_smallest_filling) F sc_smallest_filling hm hb rfl (fun cdv A outer s H E hr hgd => ?_)
  exact (ds_cons (ds_set 3 nd (de_call d_heights_from (hr.mono (by decide)) hgd (da_cons (de_var 0) (da_cons (de_call d_climbs_of (hr.mono (by decide)) hgd (da_cons (de_var 0) (da_cons (de_var 1) (da_cons (de_var 2) da_nil)))) (da_cons (de_var 2) (da_cons de_int da_nil)))))) (ds_cons (ds_if (dt_isN (de_var 3)) (ds_one (ds_ret de_non)) ds_nil) (ds_one (ds_ret (de_call d_counts_of (hr.mono (by decide)) hgd (da_cons (de_var 3) (da_cons (de_var 2) da_nil)))))))
theorem ok_greatest_filling {f : Addr} {fd : FuncData} (F : Fun K "greatest_filling" "greatest_filling" s_greatest_filling f fd) (hm : mg "greatest_filling" = some (.ref f)) (hb : Binds K fd ["n", "rules", "total"] []) (d_climbs_of : Def P w K mg base 2 "climbs_of" 3 sp_climbs_of) (d_counts_of : Def P w K mg base 1 "counts_of" 2 sp_counts_of) (d_settled : Def P w K mg base 1 "settled" 2 sp_settled) : Def P w K mg base 3 "greatest_filling" 3 sp_greatest_filling := by
  have nd := sc_greatest_filling.nd
  refine def_of (N := N_greatest_filling) (dt := dt_greatest_filling) F sc_greatest_filling hm hb rfl (fun cdv A outer s H E hr hgd => ?_)
  exact (ds_cons (ds_setLc 3 [("start", 5), ("end", 6), ("climb", 7)] nd (dw_list (de_call d_climbs_of (hr.mono (by decide)) hgd (da_cons (de_var 0) (da_cons (de_var 1) (da_cons (de_var 2) da_nil))))) (blkOk_by (N := N_greatest_filling) (sc := defScope s_greatest_filling) (by decide +kernel)) (fun _ _ _ _ _ => (dg_tup (dgs_cons (dg_name 5 nd) (dgs_cons (dg_name 6 nd) (dgs_cons (dg_name 7 nd) dgs_nil))))) (fun _ _ _ _ _ => dts_nil) (fun _ _ _ _ _ => (de_tup (da_cons (de_var 6) (da_cons (de_var 5) (da_cons (de_var 7) da_nil))))) (sw_true rfl rfl rfl (by decide +kernel))) (ds_cons (ds_set 4 nd (de_call d_settled (hr.mono (by decide)) hgd (da_cons (de_var 3) (da_cons (de_addX (de_lst (da_cons de_int da_nil)) (de_f (df_rep (df_lst (da_cons (de_neg (de_var 2)) da_nil)) (de_sub (de_var 0) de_int)))) da_nil)))) (ds_cons (ds_if (dt_isN (de_var 4)) (ds_one (ds_ret de_non)) ds_nil) (ds_one (ds_ret (de_call d_counts_of (hr.mono (by decide)) hgd (da_cons (de_lc [("depth", 8)] nd (dw_list (de_var 4)) (blkOk_by (N := N_greatest_filling) (sc := defScope s_greatest_filling) (by decide +kernel)) (fun _ _ _ _ _ => (dg_name 8 nd)) (fun _ _ _ _ _ => dts_nil) (fun _ _ _ _ _ => (de_neg (de_var 8)))) (da_cons (de_var 2) da_nil))))))))
theorem ok_last_to_rise {f : Addr} {fd : FuncData} (F : Fun K "last_to_rise" "last_to_rise" s_last_to_rise f fd) (hm : mg "last_to_rise" = some (.ref f)) (hb : Binds K fd ["n", "climbs", "heights"] []) (m_list : mg "list" = none) (m_max : mg "max" = none) (m_range : mg "range" = none) : Def P w K mg base 1 "last_to_rise" 3 sp_last_to_rise := by
  have nd := sc_last_to_rise.nd
  refine def_of (N := N_last_to_rise) (dt := dt_last_to_rise) F sc_last_to_rise hm hb rfl (fun cdv A outer s H E hr hgd => ?_)
  exact (ds_cons (ds_setLc 3 [("start", 6), ("end", 7), ("climb", 8)] nd (dw_list (de_var 1)) (blkOk_by (N := N_last_to_rise) (sc := defScope s_last_to_rise) (by decide +kernel)) (fun _ _ _ _ _ => (dg_tup (dgs_cons (dg_name 6 nd) (dgs_cons (dg_name 7 nd) (dgs_cons (dg_name 8 nd) dgs_nil))))) (fun _ _ _ _ _ => (dts_one (dt_eq hr (de_add (de_item (de_var 2) (de_var 6)) (de_var 8)) (de_item (de_var 2) (de_var 7))))) (fun _ _ _ _ _ => (de_tup (da_cons (de_var 6) (da_cons (de_var 7) da_nil)))) (sw_true rfl rfl rfl (by decide +kernel))) (ds_cons (ds_own 4 nd (df_lstRg m_range m_list (de_var 0))) (ds_cons (ds_set 5 nd (de_lst da_nil)) (ds_cons (ds_while (dt_ownNe 4 hr (de_var 5)) (ds_cons (ds_set 5 nd (de_ownLst 4 m_list)) (ds_one (ds_for (dw_list (de_var 3)) (dg_tup (dgs_cons (dg_name 6 nd) (dgs_cons (dg_name 7 nd) dgs_nil))) (ds_one (ds_if (dt_lt (de_ownIx 4 (de_var 7)) (de_ownIx 4 (de_var 6))) (ds_one (ds_ownSetB 4 (de_ownIx 4 (de_var 7)) (de_var 6))) ds_nil)))))) (ds_frz 4 (ds_one (ds_ret (de_callB (cr_or (call_max2 rfl) (cr_max rfl)) cd_maxA m_max (by decide +kernel) (da_cons (de_lc [("place", 9)] nd (dw_r1 (da_cons (de_var 0) da_nil) m_range) (blkOk_by (N := N_last_to_rise) (sc := defScope s_last_to_rise) (by decide +kernel)) (fun _ _ _ _ _ => (dg_name 9 nd)) (fun _ _ _ _ _ => (dts_one (dt_eq hr (de_item (de_var 4) (de_var 9)) (de_var 9)))) (fun _ _ _ _ _ => (de_var 9))) da_nil)))))))))
theorem ok_next_filling {f : Addr} {fd : FuncData} (F : Fun K "next_filling" "next_filling" s_next_filling f fd) (hm : mg "next_filling" = some (.ref f)) (hb : Binds K fd ["n", "rules", "filling"] []) (m_sum : mg "sum" = none) (d_climbs_of : Def P w K mg base 2 "climbs_of" 3 sp_climbs_of) (d_counts_of : Def P w K mg base 1 "counts_of" 2 sp_counts_of) (d_heights_of : Def P w K mg base 1 "heights_of" 1 sp_heights_of) (d_last_to_rise : Def P w K mg base 1 "last_to_rise" 3 sp_last_to_rise) (d_settled : Def P w K mg base 1 "settled" 2 sp_settled) : Def P w K mg base 3 "next_filling" 3 sp_next_filling := by
  have nd := sc_next_filling.nd
  refine def_of (N := N_next_filling) (dt := dt_next_filling) F sc_next_filling hm hb rfl (fun cdv A outer s H E hr hgd => ?_)
  exact (ds_cons (ds_set 3 nd (de_callB (cr_or (cr_sum rfl) (cr_sumT rfl)) cd_sumA m_sum (by decide +kernel) (da_cons (de_var 2) da_nil))) (ds_cons (ds_set 4 nd (de_call d_climbs_of (hr.mono (by decide)) hgd (da_cons (de_var 0) (da_cons (de_var 1) (da_cons (de_var 3) da_nil))))) (ds_cons (ds_set 5 nd (de_call d_heights_of (hr.mono (by decide)) hgd (da_cons (de_var 2) da_nil))) (ds_cons (ds_set 6 nd (de_call d_last_to_rise (hr.mono (by decide)) hgd (da_cons (de_var 0) (da_cons (de_var 4) (da_cons (de_var 5) da_nil))))) (ds_cons (ds_if (dt_eq hr (de_var 6) de_int) (ds_one (ds_ret de_non)) ds_nil) (ds_one (ds_ret (de_call d_counts_of (hr.mono (by decide)) hgd (da_cons (de_call d_settled (hr.mono (by decide)) hgd (da_cons (de_var 4) (da_cons (de_addX (de_f (df_sl (de_var 5) do_none (do_some (de_var 6)))) (de_f (df_rep (df_lst (da_cons (de_add (de_item (de_var 5) (de_var 6)) de_int) da_nil)) (de_sub (de_var 0) (de_var 6))))) da_nil))) (da_cons (de_var 3) da_nil))))))))))
theorem ok_is_number {f : Addr} {fd : FuncData} (F : Fun K "is_number" "is_number" s_is_number f fd) (hm : mg "is_number" = some (.ref f)) (hb : Binds K fd ["value"] []) (m_bool : mg "bool" = none) (m_int : mg "int" = none) (m_isinstance : mg "isinstance" = none) : Def P w K mg base 1 "is_number" 1 sp_is_number := by
  have nd := sc_is_number.nd
  refine def_of (N := N_is_number) (dt := dt_is_number) F sc_is_number hm hb rfl (fun cdv A outer s H E hr hgd => ?_)
  exact (ds_one (ds_ret (de_and (de_isi kit_int m_isinstance m_int (by decide +kernel) (de_var 0)) (de_one (de_not (de_isi kit_bool m_isinstance m_bool (by decide +kernel) (de_var 0)))))))
theorem ok_is_filling {f : Addr} {fd : FuncData} (F : Fun K "is_filling" "is_filling" s_is_filling f fd) (hm : mg "is_filling" = some (.ref f)) (hb : Binds K fd ["n", "value"] []) (m_all : mg "all" = none) (m_isinstance : mg "isinstance" = none) (m_len : mg "len" = none) (m_tuple : mg "tuple" = none) (d_is_number : Def P w K mg base 1 "is_number" 1 sp_is_number) : Def P w K mg base 2 "is_filling" 2 sp_is_filling := by
  have nd := sc_is_filling.nd
  refine def_of (N := N_is_filling) (dt := dt_is_filling) F sc_is_filling hm hb rfl (fun cdv A outer s H E hr hgd => ?_)
  exact (ds_cons (ds_if (dt_w (dw_or (dt_not (dt_val (de_isi kit_tup m_isinstance m_tuple (by decide +kernel) (de_var 1)))) (dw_or1 (dt_ne hr (de_callB call_len_seq cd_len m_len (by decide +kernel) (da_cons (de_var 1) da_nil)) (de_var 0))))) (ds_one (ds_ret de_bl)) ds_nil) (ds_one (ds_ret (de_callB (cr_all rfl) cd_all m_all (by decide +kernel) (da_cons (de_lc [("count", 2)] nd (dw_tup (de_var 1)) (blkOk_by (N := N_is_filling) (sc := defScope s_is_filling) (by decide +kernel)) (fun _ _ _ _ _ => (dg_name 2 nd)) (fun _ _ _ _ _ => dts_nil) (fun _ _ _ _ _ => (de_and (de_call d_is_number (hr.mono (by decide)) hgd (da_cons (de_var 2) da_nil)) (de_one (de_ge (de_var 2) de_int))))) da_nil)))))
theorem ok_covers {f : Addr} {fd : FuncData} (F : Fun K "covers" "covers" s_covers f fd) (hm : mg "covers" = some (.ref f)) (hb : Binds K fd ["n", "first", "size", "place"] []) : Def P w K mg base 1 "covers" 4 sp_covers := by
  have nd := sc_covers.nd
  refine def_of (N := N_covers) (dt := dt_covers) F sc_covers hm hb rfl (fun cdv A outer s H E hr hgd => ?_)
  exact (ds_one (ds_ret (de_lt (de_mod (de_sub (de_var 3) (de_var 1)) (de_var 0)) (de_var 2))))
theorem ok_window_places {f : Addr} {fd : FuncData} (F : Fun K "window_places" "window_places" s_window_places f fd) (hm : mg "window_places" = some (.ref f)) (hb : Binds K fd ["n", "first", "size"] []) (m_range : mg "range" = none) (m_tuple : mg "tuple" = none) (d_covers : Def P w K mg base 1 "covers" 4 sp_covers) : Def P w K mg base 2 "window_places" 3 sp_window_places := by
  have nd := sc_window_places.nd
  refine def_of (N := N_window_places) (dt := dt_window_places) F sc_window_places hm hb rfl (fun cdv A outer s H E hr hgd => ?_)
  exact (ds_one (ds_ret (de_callT call_tuple_of cd_tuple m_tuple (by decide +kernel) (da_cons (de_lc [("place", 3)] nd (dw_r1 (da_cons (de_var 0) da_nil) m_range) (blkOk_by (N := N_window_places) (sc := defScope s_window_places) (by decide +kernel)) (fun _ _ _ _ _ => (dg_name 3 nd)) (fun _ _ _ _ _ => (dts_one (dt_val (de_call d_covers (hr.mono (by decide)) hgd (da_cons (de_var 0) (da_cons (de_var 1) (da_cons (de_var 2) (da_cons (de_var 3) da_nil)))))))) (fun _ _ _ _ _ => (de_var 3))) da_nil))))
theorem ok_window_sum {f : Addr} {fd : FuncData} (F : Fun K "window_sum" "window_sum" s_window_sum f fd) (hm : mg "window_sum" = some (.ref f)) (hb : Binds K fd ["filling", "first", "size"] []) (m_len : mg "len" = none) (m_sum : mg "sum" = none) (d_window_places : Def P w K mg base 2 "window_places" 3 sp_window_places) : Def P w K mg base 3 "window_sum" 3 sp_window_sum := by
  have nd := sc_window_sum.nd
  refine def_of (N := N_window_sum) (dt := dt_window_sum) F sc_window_sum hm hb rfl (fun cdv A outer s H E hr hgd => ?_)
  exact (ds_one (ds_ret (de_callB (cr_or (cr_sum rfl) (cr_sumT rfl)) cd_sumA m_sum (by decide +kernel) (da_cons (de_lc [("place", 3)] nd (dw_tup (de_call d_window_places (hr.mono (by decide)) hgd (da_cons (de_callB call_len_seq cd_len m_len (by decide +kernel) (da_cons (de_var 0) da_nil)) (da_cons (de_var 1) (da_cons (de_var 2) da_nil))))) (blkOk_by (N := N_window_sum) (sc := defScope s_window_sum) (by decide +kernel)) (fun _ _ _ _ _ => (dg_name 3 nd)) (fun _ _ _ _ _ => dts_nil) (fun _ _ _ _ _ => (de_item (de_var 0) (de_var 3)))) da_nil))))
theorem ok_broken_rules {f : Addr} {fd : FuncData} (F : Fun K "broken_rules" "broken_rules" s_broken_rules f fd) (hm : mg "broken_rules" = some (.ref f)) (hb : Binds K fd ["n", "rules", "filling"] []) (m_enumerate : mg "enumerate" = none) (m_tuple : mg "tuple" = none) (d_window_sum : Def P w K mg base 3 "window_sum" 3 sp_window_sum) : Def P w K mg base 4 "broken_rules" 3 sp_broken_rules := by
  have nd := sc_broken_rules.nd
  refine def_of (N := N_broken_rules) (dt := dt_broken_rules) F sc_broken_rules hm hb rfl (fun cdv A outer s H E hr hgd => ?_)
  exact (ds_cons (ds_new 3 nd) (ds_cons (ds_for (dw_enumerateT (da_cons (de_var 1) da_nil) m_enumerate) (dg_tup (dgs_cons (dg_name 4 nd) (dgs_cons (dg_tup (dgs_cons (dg_name 5 nd) (dgs_cons (dg_name 6 nd) (dgs_cons (dg_name 7 nd) (dgs_cons (dg_name 8 nd) dgs_nil))))) dgs_nil))) (ds_cons (ds_set 9 nd (de_call d_window_sum (hr.mono (by decide)) hgd (da_cons (de_var 2) (da_cons (de_var 5) (da_cons (de_var 6) da_nil))))) (ds_cons (ds_if (dt_lt (de_var 9) (de_var 7)) (ds_one (ds_app 3 (de_tup (da_cons (de_var 4) (da_cons de_str da_nil))))) ds_nil) (ds_one (ds_if (dt_w (dw_and (dt_notN (de_var 8)) (dw_and1 (dt_gt (de_var 9) (de_var 8))))) (ds_one (ds_app 3 (de_tup (da_cons (de_var 4) (da_cons de_str da_nil))))) ds_nil))))) (ds_frz 3 (ds_one (ds_ret (de_callT call_tuple_of cd_tuple m_tuple (by decide +kernel) (da_cons (de_var 3) da_nil)))))))
theorem ok_fits {f : Addr} {fd : FuncData} (F : Fun K "fits" "fits" s_fits f fd) (hm : mg "fits" = some (.ref f)) (hb : Binds K fd ["n", "rules", "value"] []) (d_broken_rules : Def P w K mg base 4 "broken_rules" 3 sp_broken_rules) (d_is_filling : Def P w K mg base 2 "is_filling" 2 sp_is_filling) : Def P w K mg base 5 "fits" 3 sp_fits := by
  have nd := sc_fits.nd
  refine def_of (N := N_fits) (dt := dt_fits) F sc_fits hm hb rfl (fun cdv A outer s H E hr hgd => ?_)
  exact (ds_one (ds_ret (de_and (de_call d_is_filling (hr.mono (by decide)) hgd (da_cons (de_var 0) (da_cons (de_var 2) da_nil))) (de_one (de_eq hr (de_call d_broken_rules (hr.mono (by decide)) hgd (da_cons (de_var 0) (da_cons (de_var 1) (da_cons (de_var 2) da_nil)))) (de_tup da_nil))))))
theorem ok__law_one {f : Addr} {fd : FuncData} (F : Fun K "_law_one" "_law_one" s__law_one f fd) (hm : mg "_law_one" = some (.ref f)) (hb : Binds K fd ["_law_drawn", "_law_items"] []) (m_len : mg "len" = none) (d__law_next : Def P w K mg base 1 "_law_next" 2 sp__law_next) : Def P w K mg base 2 "_law_one" 2 sp__law_one := by
  have nd := sc__law_one.nd
  refine def_of (N := N__law_one) (dt := dt__law_one) F sc__law_one hm hb rfl (fun cdv A outer s H E hr hgd => ?_)
  exact (ds_one (ds_ret (de_item (de_var 1) (de_call d__law_next (hr.mono (by decide)) hgd (da_cons (de_var 0) (da_cons (de_callB call_len_seq cd_len m_len (by decide +kernel) (da_cons (de_var 1) da_nil)) da_nil))))))
theorem ok__law_part {f : Addr} {fd : FuncData} (F : Fun K "_law_part" "_law_part" s__law_part f fd) (hm : mg "_law_part" = some (.ref f)) (hb : Binds K fd ["_law_filling_here", "_law_first", "_law_size"] []) (m_len : mg "len" = none) (m_range : mg "range" = none) (m_sum : mg "sum" = none) : Def P w K mg base 1 "_law_part" 3 sp__law_part := by
  have nd := sc__law_part.nd
  refine def_of (N := N__law_part) (dt := dt__law_part) F sc__law_part hm hb rfl (fun cdv A outer s H E hr hgd => ?_)
  exact (ds_cons (ds_set 3 nd (de_callB call_len_seq cd_len m_len (by decide +kernel) (da_cons (de_var 0) da_nil))) (ds_one (ds_ret (de_callB (cr_or (cr_sum rfl) (cr_sumT rfl)) cd_sumA m_sum (by decide +kernel) (da_cons (de_lc [("_law_k", 4)] nd (dw_r1 (da_cons (de_var 2) da_nil) m_range) (blkOk_by (N := N__law_part) (sc := defScope s__law_part) (by decide +kernel)) (fun _ _ _ _ _ => (dg_name 4 nd)) (fun _ _ _ _ _ => dts_nil) (fun _ _ _ _ _ => (de_item (de_var 0) (de_mod (de_add (de_var 1) (de_var 4)) (de_var 3))))) da_nil)))))
theorem ok__law_rule {f : Addr} {fd : FuncData} (F : Fun K "_law_rule" "_law_rule" s__law_rule f fd) (hm : mg "_law_rule" = some (.ref f)) (hb : Binds K fd ["_law_drawn", "_law_filling_here"] []) (m_len : mg "len" = none) (m_max : mg "max" = none) (d__law_next : Def P w K mg base 1 "_law_next" 2 sp__law_next) (d__law_part : Def P w K mg base 1 "_law_part" 3 sp__law_part) : Def P w K mg base 2 "_law_rule" 2 sp__law_rule := by
  have nd := sc__law_rule.nd
  refine def_of (N := N__law_rule) (dt := dt__law_rule) F sc__law_rule hm hb rfl (fun cdv A outer s H E hr hgd => ?_)
  exact (ds_cons (ds_set 2 nd (de_callB call_len_seq cd_len m_len (by decide +kernel) (da_cons (de_var 1) da_nil))) (ds_cons (ds_par 3 4 nd (da_cons (de_call d__law_next (hr.mono (by decide)) hgd (da_cons (de_var 0) (da_cons (de_var 2) da_nil))) (da_cons (de_add de_int (de_call d__law_next (hr.mono (by decide)) hgd (da_cons (de_var 0) (da_cons (de_var 2) da_nil)))) da_nil))) (ds_cons (ds_set 5 nd (de_call d__law_part (hr.mono (by decide)) hgd (da_cons (de_var 1) (da_cons (de_var 3) (da_cons (de_var 4) da_nil))))) (ds_cons (ds_set 6 nd (de_callB (cr_or (call_max2 rfl) (cr_max rfl)) cd_maxA m_max (by decide +kernel) (da_cons de_int (da_cons (de_sub (de_var 5) (de_item (de_lst (da_cons de_int (da_cons de_int (da_cons (de_var 5) (da_cons (de_call d__law_next (hr.mono (by decide)) hgd (da_cons (de_var 0) (da_cons (de_add (de_var 5) de_int) da_nil))) da_nil))))) (de_call d__law_next (hr.mono (by decide)) hgd (da_cons (de_var 0) (da_cons de_int da_nil))))) da_nil)))) (ds_cons (ds_set 7 nd (de_item (de_lst (da_cons (de_var 5) (da_cons (de_add (de_var 5) de_int) (da_cons (de_add (de_var 5) (de_call d__law_next (hr.mono (by decide)) hgd (da_cons (de_var 0) (da_cons (de_add (de_var 5) de_int) da_nil)))) (da_cons de_non da_nil))))) (de_call d__law_next (hr.mono (by decide)) hgd (da_cons (de_var 0) (da_cons de_int da_nil))))) (ds_one (ds_ret (de_tup (da_cons (de_var 3) (da_cons (de_var 4) (da_cons (de_var 6) (da_cons (de_var 7) da_nil))))))))))))
theorem ok__law_ring {f : Addr} {fd : FuncData} (F : Fun K "_law_ring" "_law_ring" s__law_ring f fd) (hm : mg "_law_ring" = some (.ref f)) (hb : Binds K fd ["_law_drawn", "_law_most", "_law_great", "_law_many"] []) (m_int : mg "int" = none) (m_range : mg "range" = none) (m_tuple : mg "tuple" = none) (d__law_next : Def P w K mg base 1 "_law_next" 2 sp__law_next) (d__law_rule : Def P w K mg base 2 "_law_rule" 2 sp__law_rule) : Def P w K mg base 3 "_law_ring" 4 sp__law_ring := by
  have nd := sc__law_ring.nd
  refine def_of (N := N__law_ring) (dt := dt__law_ring) F sc__law_ring hm hb rfl (fun cdv A outer s H E hr hgd => ?_)
  exact (ds_cons (ds_set 4 nd (de_item (de_lst (da_cons (de_add de_int (de_call d__law_next (hr.mono (by decide)) hgd (da_cons (de_var 0) (da_cons (de_var 1) da_nil)))) (da_cons (de_var 1) da_nil))) (de_callT call_int1 cd_int1 m_int (by decide +kernel) (da_cons (de_eq hr (de_call d__law_next (hr.mono (by decide)) hgd (da_cons (de_var 0) (da_cons de_int da_nil))) de_int) da_nil)))) (ds_cons (ds_set 5 nd (de_callT call_tuple_of cd_tuple m_tuple (by decide +kernel) (da_cons (de_lc [("_law_place", 7)] nd (dw_r1 (da_cons (de_var 4) da_nil) m_range) (blkOk_by (N := N__law_ring) (sc := defScope s__law_ring) (by decide +kernel)) (fun _ _ _ _ _ => (dg_name 7 nd)) (fun _ _ _ _ _ => dts_nil) (fun _ _ _ _ _ => (de_call d__law_next (hr.mono (by decide)) hgd (da_cons (de_var 0) (da_cons (de_add (de_var 2) de_int) da_nil))))) da_nil))) (ds_cons (ds_set 6 nd (de_callT call_tuple_of cd_tuple m_tuple (by decide +kernel) (da_cons (de_lc [("_law_k", 8)] nd (dw_r1 (da_cons (de_call d__law_next (hr.mono (by decide)) hgd (da_cons (de_var 0) (da_cons (de_add (de_var 3) de_int) da_nil))) da_nil) m_range) (blkOk_by (N := N__law_ring) (sc := defScope s__law_ring) (by decide +kernel)) (fun _ _ _ _ _ => (dg_name 8 nd)) (fun _ _ _ _ _ => dts_nil) (fun _ _ _ _ _ => (de_call d__law_rule (hr.mono (by decide)) hgd (da_cons (de_var 0) (da_cons (de_var 5) da_nil))))) da_nil))) (ds_one (ds_ret (de_tup (da_cons (de_var 4) (da_cons (de_var 6) (da_cons (de_var 5) da_nil)))))))))
theorem ok__law_sums {f : Addr} {fd : FuncData} (F : Fun K "_law_sums" "_law_sums" s__law_sums f fd) (hm : mg "_law_sums" = some (.ref f)) (hb : Binds K fd ["_law_filling_here", "_law_shift"] []) (m_len : mg "len" = none) (m_range : mg "range" = none) (m_sum : mg "sum" = none) : Def P w K mg base 1 "_law_sums" 2 sp__law_sums := by
  have nd := sc__law_sums.nd
  refine def_of (N := N__law_sums) (dt := dt__law_sums) F sc__law_sums hm hb rfl (fun cdv A outer s H E hr hgd => ?_)
  exact (ds_one (ds_ret (de_lc [("_law_k", 2)] nd (dw_r1 (da_cons (de_add (de_callB call_len_seq cd_len m_len (by decide +kernel) (da_cons (de_var 0) da_nil)) de_int) da_nil) m_range) (blkOk_by (N := N__law_sums) (sc := defScope s__law_sums) (by decide +kernel)) (fun _ _ _ _ _ => (dg_name 2 nd)) (fun _ _ _ _ _ => dts_nil) (fun _ _ _ _ _ => (de_add (de_var 1) (de_callB (cr_or (cr_sum rfl) (cr_sumT rfl)) cd_sumA m_sum (by decide +kernel) (da_cons (de_slT (de_var 0) do_none (do_some (de_var 2))) da_nil)))))))
theorem ok__law_filling {f : Addr} {fd : FuncData} (F : Fun K "_law_filling" "_law_filling" s__law_filling f fd) (hm : mg "_law_filling" = some (.ref f)) (hb : Binds K fd ["_law_sums_here"] []) (m_tuple : mg "tuple" = none) (m_zip : mg "zip" = none) : Def P w K mg base 1 "_law_filling" 1 sp__law_filling := by
  have nd := sc__law_filling.nd
  refine def_of (N := N__law_filling) (dt := dt__law_filling) F sc__law_filling hm hb rfl (fun cdv A outer s H E hr hgd => ?_)
  exact (ds_one (ds_ret (de_callT call_tuple_of cd_tuple m_tuple (by decide +kernel) (da_cons (de_lc [("_law_before", 1), ("_law_after", 2)] nd (dw_zipL (da_cons (de_var 0) (da_cons (de_f (df_sl (de_var 0) (do_some de_int) do_none)) da_nil)) m_zip) (blkOk_by (N := N__law_filling) (sc := defScope s__law_filling) (by decide +kernel)) (fun _ _ _ _ _ => (dg_tup (dgs_cons (dg_name 1 nd) (dgs_cons (dg_name 2 nd) dgs_nil)))) (fun _ _ _ _ _ => dts_nil) (fun _ _ _ _ _ => (de_sub (de_var 2) (de_var 1)))) da_nil))))
theorem ok__law_mixed_right {f : Addr} {fd : FuncData} (F : Fun K "_law_mixed_right" "_law_mixed_right" s__law_mixed_right f fd) (hm : mg "_law_mixed_right" = some (.ref f)) (hb : Binds K fd ["_law_n", "_law_rules", "_law_one_here", "_law_other", "_law_shift"] []) (m_list : mg "list" = none) (m_max : mg "max" = none) (m_min : mg "min" = none) (m_sum : mg "sum" = none) (m_zip : mg "zip" = none) (d__law_filling : Def P w K mg base 1 "_law_filling" 1 sp__law_filling) (d__law_sums : Def P w K mg base 1 "_law_sums" 2 sp__law_sums) (d_fits : Def P w K mg base 5 "fits" 3 sp_fits) : Def P w K mg base 6 "_law_mixed_right" 5 sp__law_mixed_right := by
  have nd := sc__law_mixed_right.nd
  refine def_of (N := N__law_mixed_right) (dt := dt__law_mixed_right) F sc__law_mixed_right hm hb rfl (fun cdv A outer s H E hr hgd => ?_)
  exact (ds_cons (ds_set 5 nd (de_lstZip m_list m_zip (da_cons (de_call d__law_sums (hr.mono (by decide)) hgd (da_cons (de_var 2) (da_cons de_int da_nil))) (da_cons (de_call d__law_sums (hr.mono (by decide)) hgd (da_cons (de_var 3) (da_cons (de_var 4) da_nil))) da_nil)))) (ds_cons (ds_set 6 nd (de_lst (da_cons (de_lc [("_law_pair", 9)] nd (dw_list (de_var 5)) (blkOk_by (N := N__law_mixed_right) (sc := defScope s__law_mixed_right) (by decide +kernel)) (fun _ _ _ _ _ => (dg_name 9 nd)) (fun _ _ _ _ _ => dts_nil) (fun _ _ _ _ _ => (de_callB (cr_minT rfl) cd_minT m_min (by decide +kernel) (da_cons (de_var 9) da_nil)))) (da_cons (de_lc [("_law_pair", 9)] nd (dw_list (de_var 5)) (blkOk_by (N := N__law_mixed_right) (sc := defScope s__law_mixed_right) (by decide +kernel)) (fun _ _ _ _ _ => (dg_name 9 nd)) (fun _ _ _ _ _ => dts_nil) (fun _ _ _ _ _ => (de_callB (cr_maxT rfl) cd_maxT m_max (by decide +kernel) (da_cons (de_var 9) da_nil)))) da_nil)))) (ds_cons (ds_set 6 nd (de_addX (de_var 6) (de_lst (da_cons (de_lc [("_law_pair", 9)] nd (dw_list (de_var 5)) (blkOk_by (N := N__law_mixed_right) (sc := defScope s__law_mixed_right) (by decide +kernel)) (fun _ _ _ _ _ => (dg_name 9 nd)) (fun _ _ _ _ _ => dts_nil) (fun _ _ _ _ _ => (de_div (de_callB (cr_or (cr_sum rfl) (cr_sumT rfl)) cd_sumA m_sum (by decide +kernel) (da_cons (de_var 9) da_nil)) de_int))) (da_cons (de_lc [("_law_pair", 9)] nd (dw_list (de_var 5)) (blkOk_by (N := N__law_mixed_right) (sc := defScope s__law_mixed_right) (by decide +kernel)) (fun _ _ _ _ _ => (dg_name 9 nd)) (fun _ _ _ _ _ => dts_nil) (fun _ _ _ _ _ => (de_div (de_add (de_callB (cr_or (cr_sum rfl) (cr_sumT rfl)) cd_sumA m_sum (by decide +kernel) (da_cons (de_var 9) da_nil)) de_int) de_int))) da_nil))))) (ds_cons (ds_for (dw_list (de_var 6)) (dg_name 7 nd) (ds_cons (ds_set 8 nd (de_call d__law_filling (hr.mono (by decide)) hgd (da_cons (de_var 7) da_nil))) (ds_one (ds_if (dt_w (dw_or (dt_notB (de_call d_fits (hr.mono (by decide)) hgd (da_cons (de_var 0) (da_cons (de_var 1) (da_cons (de_var 8) da_nil)))) de_bl) (dw_or1 (dt_ne hr (de_callB (cr_or (cr_sum rfl) (cr_sumT rfl)) cd_sumA m_sum (by decide +kernel) (da_cons (de_var 8) da_nil)) (de_callB (cr_or (cr_sum rfl) (cr_sumT rfl)) cd_sumA m_sum (by decide +kernel) (da_cons (de_var 2) da_nil)))))) (ds_one (ds_ret de_bl)) ds_nil)))) (ds_one (ds_ret de_bl))))))
theorem ok_law {f fK : Addr} {fd fdK : FuncData} (F : Fun K "law" "law" s_law f fd) (fnDeck : FnG P w K mg base 1 fK fdK ["_law_script"] (spDeck K)) (mDeck : mg "_law_draws" = some (.ref fK)) (kDeck : PySem.W.keepIn K (.ref fK) = true) (bDeck : Binds K fdK ["_law_script"] []) (m_max : mg "max" = none) (m_range : mg "range" = none) (m_sum : mg "sum" = none) (d__law_mixed_right : Def P w K mg base 6 "_law_mixed_right" 5 sp__law_mixed_right) (d__law_next : Def P w K mg base 1 "_law_next" 2 sp__law_next) (d__law_one : Def P w K mg base 2 "_law_one" 2 sp__law_one) (d__law_ring : Def P w K mg base 3 "_law_ring" 4 sp__law_ring) (d_greatest_filling : Def P w K mg base 3 "greatest_filling" 3 sp_greatest_filling) (d_next_filling : Def P w K mg base 3 "next_filling" 3 sp_next_filling) (d_smallest_filling : Def P w K mg base 3 "smallest_filling" 3 sp_smallest_filling) (d_window_range : Def P w K mg base 3 "window_range" 5 sp_window_range) : FnG P w K mg base 7 f fd ["_law_script"] (spTop K sp_law) := by
  have nd := sc_law.nd
  refine top_of (N := N_law) (dt := dt_law) F sc_law rfl (fun cdv A outer s H E ht hr hgd => ?_)
  exact (ds_cons (ds_deck 1 0 fnDeck (hr.mono (by decide)) hgd mDeck kDeck bDeck nd ht (pv 0)) (ds_cons (ds_for (dw_r1 (da_cons de_int da_nil) m_range) (dg_name 2 nd) (ds_cons (ds_asg (de_call d__law_ring (hr.mono (by decide)) hgd (da_cons (de_var 1) (da_cons de_int (da_cons (de_item (de_lst (da_cons de_int (da_cons (de_pow de_int de_int) da_nil))) (de_mod (de_var 2) de_int)) (da_cons de_int da_nil))))) (dg_tup (dgs_cons (dg_name 3 nd) (dgs_cons (dg_name 4 nd) (dgs_cons (dg_name 5 nd) dgs_nil))))) (ds_cons (ds_parEF 6 7 nd (de_callB (cr_or (cr_sum rfl) (cr_sumT rfl)) cd_sumA m_sum (by decide +kernel) (da_cons (de_var 5) da_nil)) (df_lst (da_cons (de_var 5) da_nil))) (ds_frz 7 (ds_cons (ds_own 7 nd (df_cat (de_var 7) (de_lst (da_cons (de_call d_smallest_filling (hr.mono (by decide)) hgd (da_cons (de_var 3) (da_cons (de_var 4) (da_cons (de_var 6) da_nil)))) (da_cons (de_call d_greatest_filling (hr.mono (by decide)) hgd (da_cons (de_var 3) (da_cons (de_var 4) (da_cons (de_var 6) da_nil)))) da_nil))))) (ds_cons (ds_set 8 nd (de_lst (da_cons (de_call d_next_filling (hr.mono (by decide)) hgd (da_cons (de_var 3) (da_cons (de_var 4) (da_cons (de_ownIx 7 de_int) da_nil)))) (da_cons (de_call d_next_filling (hr.mono (by decide)) hgd (da_cons (de_var 3) (da_cons (de_var 4) (da_cons (de_ownIx 7 de_int) da_nil)))) da_nil)))) (ds_frz 7 (ds_cons (ds_own 7 nd (df_cat (de_var 7) (de_lc [("_law_row", 16)] nd (dw_list (de_var 8)) (blkOk_by (N := N_law) (sc := defScope s_law) (by decide +kernel)) (fun _ _ _ _ _ => (dg_name 16 nd)) (fun _ _ _ _ _ => (dts_one (dt_notN (de_var 16)))) (fun _ _ _ _ _ => (de_var 16))))) (ds_cons (ds_par 9 10 nd (da_cons (de_call d__law_next (hr.mono (by decide)) hgd (da_cons (de_var 1) (da_cons (de_var 3) da_nil))) (da_cons (de_add de_int (de_call d__law_next (hr.mono (by decide)) hgd (da_cons (de_var 1) (da_cons (de_var 3) da_nil)))) da_nil))) (ds_cons (ds_for (dw_tup (de_call d_window_range (hr.mono (by decide)) hgd (da_cons (de_var 3) (da_cons (de_var 4) (da_cons (de_var 6) (da_cons (de_var 9) (da_cons (de_var 10) da_nil))))))) (dg_name 11 nd) (ds_one (ds_app 7 (de_call d_smallest_filling (hr.mono (by decide)) hgd (da_cons (de_var 3) (da_cons (de_addU (de_var 4) (de_tup (da_cons (de_tup (da_cons (de_var 9) (da_cons (de_var 10) (da_cons (de_var 11) (da_cons (de_var 11) da_nil))))) da_nil))) (da_cons (de_var 6) da_nil))))))) (ds_frz 7 (ds_one (ds_for (dw_list (de_var 7)) (dg_name 12 nd) (ds_cons (ds_set 13 nd (de_call d__law_one (hr.mono (by decide)) hgd (da_cons (de_var 1) (da_cons (de_var 7) da_nil)))) (ds_cons (ds_set 14 nd (de_add (de_add de_int (de_callB (cr_maxT rfl) cd_maxT m_max (by decide +kernel) (da_cons (de_var 12) da_nil))) (de_callB (cr_maxT rfl) cd_maxT m_max (by decide +kernel) (da_cons (de_var 13) da_nil)))) (ds_cons (ds_set 15 nd (de_call d__law_next (hr.mono (by decide)) hgd (da_cons (de_var 1) (da_cons (de_var 14) da_nil)))) (ds_cons (ds_set 15 nd (de_item (de_lst (da_cons de_int (da_cons de_int (da_cons (de_neg de_int) (da_cons (de_var 15) (da_cons (de_sub de_int (de_var 15)) da_nil)))))) (de_call d__law_next (hr.mono (by decide)) hgd (da_cons (de_var 1) (da_cons de_int da_nil))))) (ds_one (ds_if (dt_not (dt_val (de_call d__law_mixed_right (hr.mono (by decide)) hgd (da_cons (de_var 3) (da_cons (de_var 4) (da_cons (de_var 12) (da_cons (de_var 13) (da_cons (de_var 15) da_nil)))))))) (ds_one (ds_ret de_bl)) ds_nil))))))))))))))))))) (ds_one (ds_ret de_bl))))
end
/-! ### the state of the draws: cells, count, rests -/
theorem sc__law_next : FnScope ["_law_drawn", "_law_many", "_law_cells", "_law_nth", "_law_rests", "_law_spot", "_law_digit", "_law_mixed", "_law_more"] ["_law_drawn", "_law_many"] (defScope s__law_next) := ⟨rfl, rfl, rfl, by decide +kernel, rfl, by decide +kernel, by decide +kernel⟩
theorem sc__law_draws : FnScope ["_law_script", "_law_cells", "_law_cell"] ["_law_script"] (defScope s__law_draws) := ⟨rfl, rfl, rfl, by decide +kernel, rfl, by decide +kernel, by decide +kernel⟩
theorem nn_set {ns : List Int} {j : Nat} {z : Int} (h : ∀ n ∈ ns, 0 ≤ n) (hz : 0 ≤ z) : ∀ n ∈ ns.set j z, 0 ≤ n := fun n hn => by
  rcases List.mem_or_eq_of_mem_set hn with e | e
  · exact h n e
  · rw [e]
    exact hz
theorem log_small {m : Int} (h0 : 0 < m) (h : m < 2 ^ 200) : m.natAbs.log2 < 9000 := by
  have h1 : m.natAbs < 2 ^ 200 := by omega
  have h2 : m.natAbs.log2 < 200 := (Nat.log2_lt (by omega)).mpr h1
  omega
section
variable {P : Program} {w : World} {K : PySem.W.Frag} {mg : Str → Option Value} {base : Heap}
theorem ok__law_next {f : Addr} {fd : FuncData} (F : Fun K "_law_next" "_law_next" s__law_next f fd) (hm : mg "_law_next" = some (.ref f)) (hb : Binds K fd ["_law_drawn", "_law_many"] []) (m_len : mg "len" = none) : Def P w K mg base 1 "_law_next" 2 drawSpec := by
  have nd := sc__law_next.nd
  refine ⟨f, fd, _, fnG_of F sc__law_next (fun vs H Q E q => ?_) (fun cdv A outer s H vs Q hr hgd q => ?_), hm, F.kp, hb⟩
  · obtain ⟨g, c, args, P, _, _, ok, _, hl, _⟩ := q
    rw [VOks.len ok, hl]
    rfl
  · obtain ⟨g, c, args, P', ex, dk, ok, fr, hl, hs, kk⟩ := q
    unfold drawSpec at hs
    split at hs
    case h_2 => exact hs.elim
    rename_i m
    obtain ⟨hm0, hm1, hc, hP⟩ := hs
    match vs, ok with
    | [v, u], ok =>
    obtain ⟨⟨p, q, hdk, rfl⟩, hu, _⟩ := ok
    have hu := dp_int hu
    subst hu
    obtain ⟨hpq, fp, fq, ns, h0, h63, hq, ys, hp, hy⟩ := dk p q hdk
    obtain ⟨r, cs, rfl, hF, hcs, hcn⟩ := hy
    have hr0 : H r = some (.lst (cs.map V.int)) := ex r _ hF
    have hrp : r ≠ p := fun z => by rw [z, fp] at hF; cases hF
    have hrq : r ≠ q := fun z => by rw [z, fq] at hF; cases hF
    refine ⟨_, pss_cons (ps_asg (pv 0) (pg_unl rfl (pgs_cons (pg_name (i := 2) nd rfl (.inl rfl)) (pgs_cons (pg_name (i := 3) nd rfl (.inl rfl)) (pgs_cons (pg_name (i := 4) nd rfl (.inl rfl)) pgs_nil)))))
      (pss_cons (ps_set (i := 5) nd rfl (.inl rfl) (pe_op op_mod (pv 3) (pe_callB call_len_seq rfl m_len PySem.boot_len (pa_cons (pv 2) pa_nil))))
      (pss_cons (ps_asg (pe_op op_add (pv 3) pe_int) (pg_sub (pv 0) pe_int set_list))
      (pss_cons (ps_if (pt_cmpR op_gt (pe_ix ix_list (pv 4) (pv 5) (fun _ _ => rfl)) pe_int (nomark _))
          (pss_cons (ps_set (i := 6) nd rfl (.inl rfl) (pe_op op_mod (pe_ix ix_list (pv 4) (pv 5) (fun _ _ => rfl)) (pv 1)))
            (pss_cons (ps_asg (pe_op op_fdivW (pe_ix ix_list (pv 4) (pv 5) (fun _ _ => rfl)) (pv 1)) (pg_sub (pv 4) (pv 5) set_list))
              (pss_one (ps_ret (pv 6)))))
          pss_nil)
      (pss_cons (ps_set (i := 7) nd rfl (.inl rfl) (pe_op op_mod (pe_op op_pow (pe_op op_add (pe_op op_add (pe_op op_mod (pe_ix ix_list (pv 2) (pv 5) (fun _ _ => rfl)) pe_int) (pe_op op_mul pe_int (pv 3))) pe_int) pe_int) pe_int))
      (pss_cons (ps_set (i := 8) nd rfl (.inl rfl) (pe_op op_mod (pe_op op_pow (pe_op op_add (pe_op op_add (pv 7) (pe_op op_mul (pe_op op_mul pe_int (pv 3)) (pv 3))) pe_int) pe_int) pe_int))
      (pss_one (ps_ret (pe_op op_mod (pe_op op_mod (pe_op op_add (pe_op op_mul (pv 8) pe_int) (pv 7)) pe_int) (pv 1))))))))), ?_⟩
    have hpos : 0 < ns.length := by omega
    obtain ⟨j, hj, hlt⟩ : ∃ j : Nat, (c : Int) % ((cs.map V.int).length : Int) = (j : Int) ∧ j < ns.length := ⟨c % cs.length, by rw [List.length_map]; simp, by rw [← hcn]; exact Nat.mod_lt _ hcs⟩
    have hltc : j < cs.length := by omega
    obtain ⟨rest, hget, hrest⟩ : ∃ cell : Int, (ns.map V.int)[j]? = some (.int cell) ∧ 0 ≤ cell := ⟨ns[j], by rw [List.getElem?_map, List.getElem?_eq_getElem hlt]; rfl, h0 _ (List.getElem_mem hlt)⟩
    obtain ⟨cell, hgetc⟩ : ∃ cell : Int, (cs.map V.int)[j]? = some (.int cell) := ⟨cs[j], by rw [List.getElem?_map, List.getElem?_eq_getElem hltc]; rfl⟩
    refine ⟨.ref p, rfl, p, _, rfl, .of hp, rfl, ?_⟩
    refine ⟨_, _, rfl, _, _, rfl, _, _, rfl, rfl, ?_⟩
    refine ⟨_, rfl, _, rfl, r, _, rfl, .inl (.of hr0), _, _, rfl, rfl, (by rw [List.length_map]; omega), ?_⟩
    refine ⟨_, rfl, (c : Int), 1, rfl, rfl, .ref p, rfl, p, _, 1, 1, rfl, rfl, hp, rfl, ?_⟩
    have hp1 : upd H p (.lst ([V.ref r, .int (c : Int), .ref q].set 1 (.int ((c : Int) + 1)))) p = some (.lst [.ref r, .int ((c : Int) + 1), .ref q]) := upd_same
    have hq1 : upd H p (.lst ([V.ref r, .int (c : Int), .ref q].set 1 (.int ((c : Int) + 1)))) q = some (.lst (ns.map V.int)) := by
      rw [upd_ne hpq.symm]
      exact hq
    have hr1 : upd H p (.lst ([V.ref r, .int (c : Int), .ref q].set 1 (.int ((c : Int) + 1)))) r = some (.lst (cs.map V.int)) := by
      rw [upd_ne hrp]
      exact hr0
    have hs1 : ∀ b o, b ≠ p → b ≠ q → H b = some o → upd H p (.lst ([V.ref r, .int (c : Int), .ref q].set 1 (.int ((c : Int) + 1)))) b = some o := fun b o h _ e => by
      rw [upd_ne h]
      exact e
    generalize upd H p (.lst ([V.ref r, .int (c : Int), .ref q].set 1 (.int ((c : Int) + 1)))) = H1 at hp1 hq1 hr1 hs1 ⊢
    have md : ∀ z : Int, 0 ≤ z % m ∧ z % m < m := fun z => ⟨Int.emod_nonneg _ (by omega), Int.emod_lt_of_pos _ hm0⟩
    have out : ∀ (z : Int) (ms : List Int) (H3 : Hp), (∀ n ∈ ms, 0 ≤ n) → ms.length = ns.length → H3 q = some (.lst (ms.map V.int)) → H3 p = some (.lst [.ref r, .int ((c : Int) + 1), .ref q]) → (∀ b o, b ≠ p → b ≠ q → H b = some o → H3 b = some o) → Q (.int (z % m)) H3 := fun z ms H3 a0 a63 aq ap as => by
      obtain ⟨k1, k2, k3⟩ := deck_after (c := c + 1) ex hdk hpq fp fq as a0 (by omega) aq ap ⟨r, cs, by simp, hF, hcs, by omega⟩
      exact kk _ (c + 1) g H3 _ (hP _ (md z).1 (md z).2) k1 k2 k3 (.int _) trivial
    -- rests[index] > 0
    refine ⟨.ref q, rfl, _, rfl, q, _, _, .int rest, rfl, rfl, .of hq1, at_of hj hget, _, 0, rfl, rfl, _, rfl, ite2 (fun e => ?_) (fun e => ?_)⟩
    · have hdiv : 0 ≤ rest / m := Int.ediv_nonneg hrest (by omega)
      refine ⟨.ref q, rfl, _, rfl, q, _, _, .int rest, rfl, rfl, .of hq1, at_of hj hget, _, rfl, rest, m, rfl, rfl, hm0, ?_⟩
      refine ⟨.ref q, rfl, _, rfl, q, _, _, .int rest, rfl, rfl, .of hq1, at_of hj hget, _, rfl, rest, m, rfl, rfl, ⟨hm0, log_small hm0 hm1⟩, .ref q, rfl, _, rfl, q, _, _, j, rfl, rfl, hq1, ?_, ?_⟩
      · rw [hj]
        unfold ixN
        rw [List.length_map, if_pos (by omega), if_pos (by omega)]
        rfl
      · refine ⟨_, rfl, ?_⟩
        refine out rest (ns.set j (rest / m)) _ (nn_set h0 hdiv) (by rw [List.length_set]) ?_ ?_ ?_
        · rw [upd_same, List.map_set]
        · rw [upd_ne hpq]
          exact hp1
        · intro b o n1 n2 e3
          rw [upd_ne n2]
          exact hs1 b o n1 n2 e3
    · refine ⟨.ref r, rfl, _, rfl, r, _, _, .int cell, rfl, rfl, .of hr1, at_of hj hgetc, _, 2147483647, rfl, rfl, by show (0 : Int) < 2147483647; decide, _, rfl, 69621, _, rfl, rfl, .inl ⟨by decide, by decide⟩, _, _, rfl, rfl, _, 30269, rfl, rfl, _, 3, rfl, rfl, ⟨by decide, by decide, by omega⟩, _, 2147483629, rfl, rfl, by show (0 : Int) < 2147483629; decide, ?_⟩
      generalize hx : (cell % 2147483647 + 69621 * (c : Int) + 30269) ^ (3 : Int).toNat % 2147483629 = x
      have x0 : 0 ≤ x := by rw [← hx]; exact Int.emod_nonneg _ (by decide)
      have x1 : x < 2147483629 := by rw [← hx]; exact Int.emod_lt_of_pos _ (by decide)
      have cc : (c : Int) * (c : Int) ≤ 10000000 * 10000000 := Int.mul_le_mul (by omega) (by omega) (by omega) (by decide)
      have cc0 : 0 ≤ (c : Int) * (c : Int) := Int.mul_nonneg (by omega) (by omega)
      have ce : 6007 * (c : Int) * (c : Int) = 6007 * ((c : Int) * (c : Int)) := Int.mul_assoc _ _ _
      refine ⟨_, rfl, _, rfl, 6007, _, rfl, rfl, .inl ⟨by decide, by decide⟩, _, rfl, _, _, rfl, rfl, .inr ⟨by omega, by omega⟩, _, _, rfl, rfl, _, 17, rfl, rfl, _, 3, rfl, rfl, ⟨by decide, by decide, ?_⟩, _, 2147483587, rfl, rfl, by show (0 : Int) < 2147483587; decide, ?_⟩
      · rw [ce]
        omega
      refine ⟨_, rfl, _, 2147483423, rfl, rfl, .inr ⟨by decide, by decide⟩, _, rfl, _, _, rfl, rfl, _, 4611686018427387847, rfl, rfl, by show (0 : Int) < 4611686018427387847; decide, _, rfl, _, m, rfl, rfl, hm0, ?_⟩
      exact out _ ns H1 h0 rfl hq1 hp1 hs1
end
section
variable {P : Program} {w : World} {K : PySem.W.Frag} {mg : Str → Option Value} {base : Heap}
theorem ok__law_draws {f : Addr} {fd : FuncData} (F : Fun K "_law_draws" "_law_draws" s__law_draws f fd) (_m_abs : mg "abs" = none) (m_int : mg "int" = none) (m_len : mg "len" = none) (m_list : mg "list" = none) : FnG P w K mg base 1 f fd ["_law_script"] (spDeck K) := by
  have nd := sc__law_draws.nd
  refine fnG_of F sc__law_draws (fun vs H Q E q => ?_) (fun cdv A outer s H vs Q hr hgd q => ?_)
  · obtain ⟨a, ns, rfl, _⟩ := q
    rfl
  · obtain ⟨a, ns, rfl, hS, hlen, kk⟩ := q
    refine ⟨_, pss_cons (ps_set (i := 1) nd rfl (.inl rfl) (pe_op op_cat (pe_callTy call_list_of rfl m_list (by decide +kernel) (pa_cons (pe_slice sl_list (pv 0) po_none (po_some pe_int)) pa_nil))
        (pe_op op_rep (pe_lst (pa_cons pe_int pa_nil)) (pe_callTy call_int1 rfl m_int (by decide +kernel) (pa_cons (pe_cmpR op_eq (pe_callB call_len_seq rfl m_len PySem.boot_len (pa_cons (pv 0) pa_nil)) pe_int (nomark _)) pa_nil)))))
      (pss_one (ps_ret (pe_lst (pa_cons (pv 1) (pa_cons pe_int (pa_cons (pe_lc (own := [("_law_cell", 2)]) (g := gName 2) (tt := tYes) rfl nd (pi_list (pv 1)) (blkOk_by (N := ["_law_script", "_law_cells", "_law_cell"]) (sc := defScope s__law_draws) (by decide +kernel))
        (fun _ _ _ _ _ => pg_name (i := 2) nd rfl (Or.inl rfl)) (fun _ _ _ _ _ => pts_nil) (fun _ _ _ _ _ => pe_op op_mul (pv 2) (pe_callTy call_int1 rfl m_int (by decide +kernel) (pa_cons (pe_cmpR op_ge (pv 2) (pe_op op_pow pe_int pe_int) (nomark _)) pa_nil)))) pa_nil)))))), ?_⟩
    refine ⟨.ref a, rfl, 63, rfl, a, _, rfl, hS, fun S hSn => ?_⟩
    have sm0 : Same H (upd H S (.lst (cutV (ns.map V.int) none (some 63)))) := fun b o e => by
      rw [upd_ne (ne_of_none e hSn)]
      exact e
    have hS1 : upd H S (.lst (cutV (ns.map V.int) none (some 63))) S = some (.lst (cutV (ns.map V.int) none (some 63))) := upd_same
    have hcut : cutV (ns.map V.int) none (some 63) = ns.map V.int := by
      unfold cutV
      rw [HT.sIx_none, show HT.sIx (ns.map V.int).length (ns.map V.int).length (some 63) = min 63 (ns.map V.int).length from HT.sIx_nat _ _ 63]
      rw [List.length_map, Nat.min_eq_right hlen]
      show List.take ns.length (List.map V.int ns) = List.map V.int ns
      exact List.take_of_length_le (by rw [List.length_map]; exact Nat.le_refl _)
    rw [hcut] at hS1 sm0 ⊢
    generalize upd H S (.lst (ns.map V.int)) = H1 at hS1 sm0 ⊢
    refine ⟨S, _, rfl, .inl (.of hS1), fun Dl hD => ?_⟩
    · have hkeep : ∀ b o, H1 b = some o → upd H1 Dl (.lst (ns.map V.int)) b = some o := fun b o e => by
        rw [upd_ne (ne_of_none e hD)]
        exact e
      have hDl : upd H1 Dl (.lst (ns.map V.int)) Dl = some (.lst (ns.map V.int)) := upd_same
      generalize upd H1 Dl (.lst (ns.map V.int)) = H2 at hkeep hDl ⊢
      have up2 : ∀ b o, H b = some o → H2 b = some o := fun b o e => hkeep b o (sm0 b o e)
      have hDH : H Dl = none := Same.free sm0 hD
      refine ⟨by show 1 ≤ sizeLine; decide, fun L0 hL0 => ?_⟩
      have k0 : ∀ b o, H2 b = some o → upd H2 L0 (.lst [.int 0]) b = some o := fun b o e => by
        rw [upd_ne (ne_of_none e hL0)]
        exact e
      have s0 : upd H2 L0 (.lst [.int 0]) L0 = some (.lst [.int 0]) := upd_same
      generalize upd H2 L0 (.lst [.int 0]) = H3 at k0 s0 ⊢
      have hS3 : SqL K H3 a (ns.map V.int) := (show Same H H3 from fun b o e => k0 b o (up2 b o e)).seq hS
      refine ⟨.ref a, rfl, a, _, rfl, .inl hS3, rfl, .inr ⟨_, rfl, ?_⟩⟩
      obtain ⟨zs, hzs, hz1, hz2, hz3⟩ : ∃ zs : List Int, (List.replicate (if decide (V.int ((ns.map V.int).length : Int) = V.int 0) = true then (1 : Int) else 0).toNat [V.int 0]).flatten = zs.map V.int ∧ 0 < ns.length + zs.length ∧ ns.length + zs.length ≤ 63 ∧ ∀ n ∈ zs, 0 ≤ n := by
        by_cases hn : ns.length = 0
        · refine ⟨[0], ?_, by simp, by simp; omega, fun n h => by rw [List.mem_singleton.mp h]; exact Int.le_refl _⟩
          rw [if_pos (by rw [List.length_map, hn]; rfl)]
          rfl
        · refine ⟨[], ?_, by simp; omega, by simp; omega, fun n h => by simp at h⟩
          rw [if_neg (by rw [List.length_map]; intro z; have z2 := of_decide_eq_true z; have z3 : (ns.length : Int) = 0 := V.int.inj z2; omega)]
          rfl
      refine ⟨L0, _, _, rfl, rfl, s0, ?_, ?_, ?_, fun L1 hL1 => ?_⟩
      · split <;> decide
      · split <;> decide
      · show 1 * (if decide (V.int ((ns.map V.int).length : Int) = V.int 0) = true then (1 : Int) else 0).toNat ≤ sizeLine
        split <;> decide
      rw [hzs]
      have k1 : ∀ b o, H3 b = some o → upd H3 L1 (.lst (zs.map V.int)) b = some o := fun b o e => by
        rw [upd_ne (ne_of_none e hL1)]
        exact e
      have s1 : upd H3 L1 (.lst (zs.map V.int)) L1 = some (.lst (zs.map V.int)) := upd_same
      generalize upd H3 L1 (.lst (zs.map V.int)) = H4 at k1 s1 ⊢
      refine ⟨Dl, L1, _, _, rfl, rfl, k1 _ _ (k0 _ _ hDl), s1, ?_, fun C hC => ?_⟩
      · rw [List.length_map, List.length_map]
        exact small1000 (by omega) |> Nat.le_of_lt
      rw [← List.map_append]
      generalize hcs : ns ++ zs = cs
      have cl : cs.length = ns.length + zs.length := by rw [← hcs]; simp
      have up4 : ∀ b o, H b = some o → H4 b = some o := fun b o e => k1 b o (k0 b o (up2 b o e))
      have hCH : H C = none := by
        cases w : H C with
        | none => rfl
        | some o =>
          rw [up4 C o w] at hC
          cases hC
      have k2 : ∀ b o, H4 b = some o → upd H4 C (.lst (cs.map V.int)) b = some o := fun b o e => by
        rw [upd_ne (ne_of_none e hC)]
        exact e
      have s2 : upd H4 C (.lst (cs.map V.int)) C = some (.lst (cs.map V.int)) := upd_same
      generalize upd H4 C (.lst (cs.map V.int)) = H5 at k2 s2 ⊢
      have up5 : ∀ b o, H b = some o → H5 b = some o := fun b o e => k2 b o (up4 b o e)
      refine ⟨.ref C, rfl, .ref C, rfl, C, rfl, ⟨_, .of s2⟩, fun R hR => ?_⟩
      have RC : R ≠ C := fun z => by rw [z, s2] at hR; cases hR
      let g1 : Int → Int := fun n => n * (if decide ((10 : Int) ^ (18 : Int).toNat ≤ n) = true then 1 else 0)
      refine lc_list (xs := cs.map V.int) (fun i H6 => H6 R = some (.lst ((cs.take i).map fun n => V.int (g1 n))) ∧ ∀ b o, H5 b = some o → H6 b = some o) ⟨upd_same, fun b o e => by rw [upd_ne (ne_of_none e hR)]; exact e⟩ (fun i H6 _ h => .of (h.2 C _ s2)) (fun i x H6 hx h => ?_) (fun H6 h => ?_)
      · have hi : i < cs.length := by
          have := (List.getElem?_eq_some_iff.mp hx).1
          rw [List.length_map] at this
          exact this
        have ex : x = .int cs[i] := by
          rw [List.getElem?_map, List.getElem?_eq_getElem hi] at hx
          exact (Option.some.inj hx).symm
        subst ex
        refine ⟨rfl, _, rfl, _, rfl, 10, 18, rfl, rfl, ⟨by decide, by decide, by decide⟩, _, _, rfl, rfl, .inr ⟨_, rfl, _, _, rfl, rfl, ?_, _, h.1, ?_, ?_, fun b o e => ?_⟩⟩
        · refine .inr ?_
          split <;> exact ⟨by decide, by decide⟩
        · rw [List.length_map, List.length_take]
          exact small1000 (by omega)
        · rw [upd_same, List.take_add_one, List.getElem?_eq_getElem hi, List.map_append]
          rfl
        · rw [upd_ne (ne_of_none e hR)]
          exact h.2 b o e
      · obtain ⟨hR6, k6⟩ := h
        have hR6 : H6 R = some (.lst ((cs.map g1).map V.int)) := by
          rw [hR6, List.length_map, List.take_length, List.map_map]
          rfl
        refine ⟨by show 3 ≤ sizeLine; decide, fun p hp => ?_⟩
        have pR : p ≠ R := fun z => by rw [z, hR6] at hp; cases hp
        have up6 : ∀ b o, H b = some o → H6 b = some o := fun b o e => k6 b o (up5 b o e)
        have fresh : ∀ b, H6 b = none → H b = none := fun b e => by
          cases w : H b with
          | none => rfl
          | some o =>
            rw [up6 b o w] at e
            cases e
        have hRH : H R = none := by
          cases w : H R with
          | none => rfl
          | some o =>
            rw [up5 R o w] at hR
            cases hR
        have pC : p ≠ C := fun z => by
          rw [z, k6 C _ s2] at hp
          cases hp
        refine kk _ p R (cs.map g1) _ (fun b => if b = C then some (.lst (cs.map V.int)) else none) (fun b o e => ?_) (fresh p hp) hRH pR (fun n hn => ?_) (by rw [List.length_map]; omega) ?_ upd_same (fun b o e => ?_) (fun b o e => ?_) (if_neg pC) (if_neg RC) ⟨C, cs, rfl, if_pos rfl, by omega, by rw [List.length_map]⟩
        · rw [upd_ne (ne_of_none (up6 b o e) hp)]
          exact up6 b o e
        · obtain ⟨z, hz, rfl⟩ := List.mem_map.mp hn
          show 0 ≤ z * (if decide ((10 : Int) ^ (18 : Int).toNat ≤ z) = true then 1 else 0)
          split
          · rename_i hz9
            have hz9 := of_decide_eq_true hz9
            have h10 : (10 : Int) ^ (18 : Int).toNat = 1000000000000000000 := by decide
            omega
          · omega
        · rw [upd_ne pR.symm]
          exact hR6
        · have e : (if b = C then some (HO.lst (cs.map V.int)) else none) = some o := e
          split at e
          · rename_i hb
            rw [← e, hb, upd_ne pC.symm]
            exact k6 C _ s2
          · cases e
        · have e : (if b = C then some (HO.lst (cs.map V.int)) else none) = some o := e
          split at e
          · rename_i hb
            rw [hb]
            exact hCH
          · cases e
end
end RW
namespace RW
open PySem PySem.Spec PyProof.Rows L2 DL
def isNum : PyData → Bool
  | .int _ => true
  | _ => false
def isN (d : PyData) (lo hi : Int) : Bool := match d with
  | .int i => decide (lo ≤ i) && decide (i ≤ hi)
  | _ => false
def isNn : PyData → Bool
  | .none => true
  | _ => false
theorem number_ok {d : PyData} {c : Nat} {P : Vl → Nat → Prop} (hP : P (.dat (.bool (isNum d))) c) : sp_is_number [.dat d] c P := by
  cases d <;> exact hP

/-! ### the program's defs, over data -/
def covF (n f s : Int) : PyData → Bool
  | .int p => decide ((p - f) % n < s)
  | _ => false
def wpl (n f s : Int) : List PyData := (rangeD 0 n.toNat).filter (covF n f s)
theorem covers_ok {n f s p : Int} {c : Nat} {P : Vl → Nat → Prop} (h : 0 < n) (hP : P (.dat (.bool (decide ((p - f) % n < s)))) c) : sp_covers [.dat (.int n), .dat (.int f), .dat (.int s), .dat (.int p)] c P := ⟨h, hP⟩
theorem places_ok {n f s : Int} (h0 : 0 < n) (h1 : n ≤ 1000) {c : Nat} {P : Vl → Nat → Prop} (hP : P (.dat (.tuple (wpl n f s))) c) : sp_window_places [.dat (.int n), .dat (.int f), .dat (.int s)] c P := by
  refine ⟨by omega, by omega, by rw [rangeD_len]; exact small_len (by omega), lcL_pure (covF n f s) id _ _ _ _ (fun d hd P hP => ?_) (fun d hd hf P hP => ?_) ?_⟩
  · obtain ⟨k, hk, rfl⟩ := rangeD_mem hd
    exact ⟨rfl, covers_ok h0 hP⟩
  · exact hP
  · rw [List.map_id]
    exact hP
def gd (fs : List Int) : PyData → Int
  | .int p => fs.getD p.toNat 0
  | _ => 0
def wsum (fs : List Int) (f s : Int) : Int := ((wpl fs.length f s).map (gd fs)).sum
theorem gd_at {fs : List Int} {k : Nat} (h : k < fs.length) : atI (dInts fs) (0 + (k : Int)) = some (.int (gd fs (.int (0 + (k : Int))))) := by
  rw [Int.zero_add]
  refine atI_nat ?_
  have e : gd fs (.int (k : Int)) = fs[k] := by
    show fs.getD (k : Int).toNat 0 = fs[k]
    rw [Int.toNat_natCast, List.getD_eq_getElem?_getD, List.getElem?_eq_getElem h]
    rfl
  rw [e]
  unfold dInts
  rw [List.getElem?_map, List.getElem?_eq_getElem h]
  rfl
theorem wpl_len (n f s : Int) : (wpl n f s).length ≤ n.toNat := by
  unfold wpl
  have := List.length_filter_le (covF n f s) (rangeD 0 n.toNat)
  rw [rangeD_len] at this
  exact this
theorem wpl_mem {n f s : Int} {d : PyData} (h : d ∈ wpl n f s) : ∃ k : Nat, k < n.toNat ∧ d = .int (0 + k) := rangeD_mem (List.mem_filter.mp h).1
theorem wsum_ok {fs : List Int} {f s : Int} (h0 : 0 < fs.length) (h1 : fs.length ≤ 1000) {c : Nat} {P : Vl → Nat → Prop} (hP : P (.dat (.int (wsum fs f s))) c) : sp_window_sum [.dat (.tuple (dInts fs)), .dat (.int f), .dat (.int s)] c P := by
  refine ⟨rfl, places_ok (by rw [dInts_len]; omega) (by rw [dInts_len]; omega) ⟨?_, lcL_pure (fun _ => true) (fun d => .int (gd fs d)) _ _ _ _ (fun d hd P hP => hP) (fun d hd hf P hP => ?_) ?_⟩⟩
  · have := wpl_len ((dInts fs).length : Int) f s
    rw [dInts_len] at this ⊢
    exact small_len (by omega)
  · obtain ⟨k, hk, rfl⟩ := wpl_mem hd
    rw [dInts_len] at hk
    exact ix_ok (gd_at (by omega)) hP
  · refine ⟨(wpl fs.length f s).map (gd fs), ?_, hP⟩
    rw [dInts_len, List.filter_eq_self.mpr (fun _ _ => rfl), List.nil_append, show List.map (fun d => PyData.int (gd fs d)) (wpl fs.length f s) = ((wpl fs.length f s).map (gd fs)).map PyData.int by rw [List.map_map]; rfl]
    exact intsOf_map _
/-! ### the law's own defs -/
def psum (fs : List Int) (f : Int) : Nat → Int
  | 0 => 0
  | j + 1 => psum fs f j + fs.getD ((f + j) % fs.length).toNat 0
/-! ### the sum of a window, both ways -/
def covN (L : Nat) (f : Int) (s : Int) (p : Nat) : Bool := decide (((p : Int) - f) % L < s)
theorem sum_filter (F : PyData → Bool) (G : PyData → Int) : ∀ l : List Nat, (((l.map fun (k : Nat) => PyData.int (0 + (k : Int))).filter F).map G).sum = (l.map fun (k : Nat) => if F (.int (0 + (k : Int))) = true then G (.int (0 + (k : Int))) else 0).sum
  | [] => rfl
  | k :: l => by
    have ih := sum_filter F G l
    simp only [List.map_cons, List.sum_cons]
    by_cases h : F (.int (0 + (k : Int))) = true
    · rw [List.filter_cons_of_pos h, if_pos h, List.map_cons, List.sum_cons, ih]
    · rw [List.filter_cons_of_neg h, if_neg h, ih]
      omega
theorem sum_add (u v : Nat → Int) : ∀ l : List Nat, (l.map fun k => u k + v k).sum = (l.map u).sum + (l.map v).sum
  | [] => rfl
  | k :: l => by
    have ih := sum_add u v l
    simp only [List.map_cons, List.sum_cons]
    omega
theorem sum_one (g : Nat → Int) (p0 : Nat) : ∀ n : Nat, ((List.range n).map fun p => if p = p0 then g p else 0).sum = if p0 < n then g p0 else 0
  | 0 => by simp
  | n + 1 => by
    rw [List.range_succ, List.map_append, List.sum_append, sum_one g p0 n]
    simp only [List.map_cons, List.map_nil, List.sum_cons, List.sum_nil]
    by_cases h : n = p0
    · subst h
      simp
    · rw [if_neg h]
      by_cases h2 : p0 < n
      · rw [if_pos h2, if_pos (by omega)]
        omega
      · rw [if_neg h2, if_neg (by omega)]
        omega
theorem sum_congr {u v : Nat → Int} : ∀ {l : List Nat}, (∀ k ∈ l, u k = v k) → (l.map u).sum = (l.map v).sum := fun {l} h => by
  rw [List.map_congr_left h]
theorem wsum_eq (fs : List Int) (f s : Int) : wsum fs f s = ((List.range fs.length).map fun p => if covN fs.length f s p = true then fs.getD p 0 else 0).sum := by
  unfold wsum wpl rangeD
  rw [Int.toNat_natCast, sum_filter]
  refine sum_congr fun k _ => ?_
  show (if decide ((0 + (k : Int) - f) % (fs.length : Int) < s) = true then fs.getD (0 + (k : Int)).toNat 0 else 0) = _
  rw [Int.zero_add, Int.toNat_natCast]
  rfl
theorem psum_eq {fs : List Int} {f : Int} (h0 : 0 ≤ f) (hf : f < fs.length) : ∀ s : Nat, s ≤ fs.length → psum fs f s = ((List.range fs.length).map fun p => if covN fs.length f s p = true then fs.getD p 0 else 0).sum
  | 0, _ => by
    have : ∀ k ∈ List.range fs.length, (if covN fs.length f ((0 : Nat) : Int) k = true then fs.getD k 0 else 0) = (fun _ => (0 : Int)) k := fun k _ => by
      refine if_neg ?_
      unfold covN
      have := Int.emod_nonneg ((k : Int) - f) (by omega : (fs.length : Int) ≠ 0)
      simp
      omega
    rw [sum_congr this]
    show (0 : Int) = _
    generalize fs.length = m
    induction m with
    | zero => rfl
    | succ m ih =>
      rw [List.range_succ, List.map_append, List.sum_append, ← ih]
      rfl
  | s + 1, hs => by
    have ih := psum_eq h0 hf s (by omega)
    have hm0 := Int.emod_nonneg (f + (s : Int)) (by omega : (fs.length : Int) ≠ 0)
    have hm1 := Int.emod_lt_of_pos (f + (s : Int)) (by omega : (0 : Int) < fs.length)
    have hone := sum_one (fun p => fs.getD p 0) ((f + (s : Int)) % fs.length).toNat fs.length
    rw [if_pos (by omega)] at hone
    show psum fs f s + fs.getD ((f + (s : Int)) % fs.length).toNat 0 = _
    rw [ih, ← hone, ← sum_add]
    refine sum_congr fun k hk => ?_
    have hk := List.mem_range.mp hk
    -- k - f is s round the ring exactly at the one place
    have key : ((k : Int) - f) % (fs.length : Int) = s ↔ k = ((f + (s : Int)) % fs.length).toNat := by
      have d1 := Int.emod_add_mul_ediv ((k : Int) - f) fs.length
      have d2 := Int.emod_add_mul_ediv (f + (s : Int)) fs.length
      have e1 := Int.emod_nonneg ((k : Int) - f) (by omega : (fs.length : Int) ≠ 0)
      have e2 := Int.emod_lt_of_pos ((k : Int) - f) (by omega : (0 : Int) < fs.length)
      have q1 : -1 ≤ ((k : Int) - f) / (fs.length : Int) ∧ ((k : Int) - f) / (fs.length : Int) ≤ 0 := by
        refine ⟨?_, ?_⟩
        · exact (Int.le_ediv_iff_mul_le (by omega)).mpr (by omega)
        · have := (Int.ediv_lt_iff_lt_mul (a := (k : Int) - f) (b := 1) (by omega : (0 : Int) < fs.length)).mpr (by omega)
          omega
      have q2 : 0 ≤ (f + (s : Int)) / (fs.length : Int) ∧ (f + (s : Int)) / (fs.length : Int) ≤ 1 := by
        refine ⟨Int.ediv_nonneg (by omega) (by omega), ?_⟩
        have := (Int.ediv_lt_iff_lt_mul (a := f + (s : Int)) (b := 2) (by omega : (0 : Int) < fs.length)).mpr (by omega)
        omega
      generalize ((k : Int) - f) / (fs.length : Int) = x at d1 q1
      generalize (f + (s : Int)) / (fs.length : Int) = y at d2 q2
      have hx : x = -1 ∨ x = 0 := by omega
      have hy : y = 0 ∨ y = 1 := by omega
      rcases hx with rfl | rfl <;> rcases hy with rfl | rfl <;> simp only [Int.mul_neg, Int.mul_one, Int.mul_zero] at d1 d2 <;> omega
    unfold covN
    by_cases h1 : ((k : Int) - f) % (fs.length : Int) < (s : Int)
    · rw [if_pos (decide_eq_true h1), if_neg (fun z => by have := key.mpr z; omega), if_pos (decide_eq_true (by omega))]
      omega
    · rw [if_neg (fun z => h1 (of_decide_eq_true z))]
      by_cases h2 : ((k : Int) - f) % (fs.length : Int) = s
      · rw [if_pos (key.mp h2), if_pos (decide_eq_true (by omega))]
        omega
      · rw [if_neg (fun z => h2 (key.mpr z)), if_neg (fun z => by have := of_decide_eq_true z; omega)]
        rfl
theorem sums_same {fs : List Int} {f s : Int} (h0 : 0 ≤ f) (hf : f < fs.length) (h1 : 0 ≤ s) (h2 : s ≤ fs.length) : psum fs f s.toNat = wsum fs f s := by
  rw [psum_eq h0 hf s.toNat (by omega), wsum_eq, Int.toNat_of_nonneg h1]


theorem psum_range (fs : List Int) (f : Int) : ∀ s : Nat, psum fs f s = ((List.range s).map fun (k : Nat) => fs.getD ((f + (k : Int)) % fs.length).toNat 0).sum
  | 0 => rfl
  | s + 1 => by
    rw [List.range_succ, List.map_append, List.sum_append, ← psum_range fs f s]
    simp [psum]
/-! ### what is broken -/
def tL (i : Nat) : PyData := .tuple [.int (i : Nat), .str "least"]
def tM (i : Nat) : PyData := .tuple [.int (i : Nat), .str "most"]
def isBig (m : Option Int) (w : Int) : Bool := match m with
  | none => false
  | some m => decide (m < w)
def brk (w : Int) (i : Nat) (r : R4) : List PyData := (if w < r.l then [tL i] else []) ++ (if isBig r.m w = true then [tM i] else [])
def BR (fs : List Int) (rs : List R4) : Nat → List PyData
  | 0 => []
  | j + 1 => BR fs rs j ++ (match rs[j]? with
    | some r => brk (wsum fs r.f r.s) j r
    | none => [])
theorem BR_succ {fs : List Int} {rs : List R4} {j : Nat} {r : R4} (h : rs[j]? = some r) : BR fs rs (j + 1) = BR fs rs j ++ brk (wsum fs r.f r.s) j r := by
  show BR fs rs j ++ _ = _
  rw [h]
theorem brk_len (w : Int) (i : Nat) (r : R4) : (brk w i r).length ≤ 2 := by
  unfold brk
  split <;> split <;> simp
theorem BR_len (fs : List Int) (rs : List R4) : ∀ j, (BR fs rs j).length ≤ 2 * j
  | 0 => Nat.le_refl _
  | j + 1 => by
    have ih := BR_len fs rs j
    show (BR fs rs j ++ _).length ≤ _
    rw [List.length_append]
    split
    · have := brk_len (wsum fs (rs[j]?.getD ⟨0, 0, 0, none⟩).f (rs[j]?.getD ⟨0, 0, 0, none⟩).s) j (rs[j]?.getD ⟨0, 0, 0, none⟩)
      rename_i r hr
      have := brk_len (wsum fs r.f r.s) j r
      omega
    · simp
      omega
theorem enum_get {ds : List PyData} {j : Nat} {d : PyData} (h : (enumD ds)[j]? = some d) : ∃ z, ds[j]? = some z ∧ d = .tuple [.int (j : Nat), z] := by
  unfold enumD at h
  rw [List.getElem?_map] at h
  by_cases hj : j < ds.length
  · rw [List.getElem?_range hj, Option.map_some, List.getD_eq_getElem?_getD, List.getElem?_eq_getElem hj] at h
    exact ⟨ds[j], List.getElem?_eq_getElem hj, (Option.some.inj h).symm⟩
  · rw [List.getElem?_eq_none (by simpa using hj)] at h
    cases h
theorem enum_len (ds : List PyData) : (enumD ds).length = ds.length := by simp [enumD]
theorem broken_ok {n : Int} {fs : List Int} {rs : List R4} (h0 : 0 < fs.length) (h1 : fs.length ≤ 1000) (hl : rs.length ≤ 1000) {c : Nat} {P : Vl → Nat → Prop} (hP : P (.dat (.tuple (BR fs rs rs.length))) c) : sp_broken_rules [.dat (.int n), .dat (rDs rs), .dat (.tuple (dInts fs))] c P := by
  refine forL_inv (fun j env c' => c = c' ∧ ∃ x4 x5 x6 x7 x8 x9, env = [some (.dat (.int n)), some (.dat (rDs rs)), some (.dat (.tuple (dInts fs))), some (.own (BR fs rs j)), x4, x5, x6, x7, x8, x9]) (fun j d env c' k hd hI hk => ?_) ⟨rfl, none, none, none, none, none, none, rfl⟩ (fun env c' hI => ?_)
  · obtain ⟨rfl, x4, x5, x6, x7, x8, x9, rfl⟩ := hI
    obtain ⟨z, hz, rfl⟩ := enum_get hd
    rw [List.getElem?_map] at hz
    obtain ⟨r, hr, rfl⟩ := Option.map_eq_some_iff.mp hz
    have hj : j < rs.length := (List.getElem?_eq_some_iff.mp hr).1
    have hb := BR_len fs rs j
    refine ⟨rfl, rfl, rfl, wsum_ok h0 h1 ?_⟩
    have e := BR_succ (fs := fs) hr
    obtain ⟨f, s, l, m⟩ := r
    have fin : ∀ (acc : List PyData), acc = BR fs rs (j + 1) → k [some (.dat (.int n)), some (.dat (rDs rs)), some (.dat (.tuple (dInts fs))), some (.own acc), some (.dat (.int (j : Nat))), some (.dat (.int f)), some (.dat (.int s)), some (.dat (.int l)), some (.dat (optD m)), some (.dat (.int (wsum fs f s)))] c := fun acc ha => by
      subst ha
      exact hk _ _ ⟨rfl, _, _, _, _, _, _, rfl⟩
    have small : ∀ m : Nat, m ≤ 2 * j + 2 → m < sizeLine := fun m hm => small_len (by omega)
    by_cases hlt : wsum fs f s < l
    · refine iteD (c := wsum fs f s < l) hlt ⟨small_le (by show 2 ≤ 100000; decide), small _ (by omega), ?_⟩
      cases m with
      | none =>
        refine fin _ ?_
        rw [e]
        simp [brk, hlt, isBig, tL]
      | some m =>
        by_cases hgt : m < wsum fs f s
        · refine iteD (c := m < wsum fs f s) hgt ⟨small_le (by show 2 ≤ 100000; decide), small _ (by rw [List.length_append]; simp; omega), fin _ ?_⟩
          rw [e]
          simp [brk, hlt, isBig, hgt, tL, tM]
        · refine iteDN (c := m < wsum fs f s) hgt (fin _ ?_)
          rw [e]
          simp [brk, hlt, isBig, hgt, tL]
    · refine iteDN (c := wsum fs f s < l) hlt ?_
      cases m with
      | none =>
        refine fin _ ?_
        rw [e]
        simp [brk, hlt, isBig]
      | some m =>
        by_cases hgt : m < wsum fs f s
        · refine iteD (c := m < wsum fs f s) hgt ⟨small_le (by show 2 ≤ 100000; decide), small _ (by omega), fin _ ?_⟩
          rw [e]
          simp [brk, hlt, isBig, hgt, tM]
        · refine iteDN (c := m < wsum fs f s) hgt (fin _ ?_)
          rw [e]
          simp [brk, hlt, isBig, hgt]
  · obtain ⟨rfl, x4, x5, x6, x7, x8, x9, rfl⟩ := hI
    rw [enum_len, List.length_map]
    exact hP

def fitR (fs : List Int) (r : R4) : Prop := r.l ≤ psum fs r.f r.s.toNat ∧ ∀ m, r.m = some m → psum fs r.f r.s.toNat ≤ m

/-! ### fits, of any value -/
def nnInt : PyData → Bool
  | .int i => decide (0 ≤ i)
  | _ => false
def valI : PyData → Int
  | .int i => i
  | _ => 0
/-- the counts, if it is a filling for n -/
def fillOf (n : Int) : PyData → Option (List Int)
  | .tuple ds => if (ds.length : Int) = n ∧ ds.all nnInt = true then some (ds.map valI) else none
  | _ => none
theorem fillOf_tup (n : Int) (ds : List PyData) : fillOf n (.tuple ds) = if (ds.length : Int) = n ∧ ds.all nnInt = true then some (ds.map valI) else none := rfl
theorem all_dInts {ds : List PyData} (h : ds.all nnInt = true) : ds = dInts (ds.map valI) := by
  unfold dInts
  rw [List.map_map]
  refine (List.map_id _).symm.trans (List.map_congr_left fun d hd => ?_)
  have := List.all_eq_true.mp h d hd
  cases d <;> simp [nnInt] at this
  rfl
theorem fillOf_some {n : Int} {d : PyData} {fs : List Int} (h : fillOf n d = some fs) : d = .tuple (dInts fs) ∧ (fs.length : Int) = n ∧ ∀ x ∈ fs, 0 ≤ x := by
  cases d <;> try (simp [fillOf] at h; done)
  rename_i ds
  rw [fillOf_tup] at h
  split at h
  · rename_i hh
    have e := Option.some.inj h
    subst e
    refine ⟨by rw [← all_dInts hh.2], by rw [List.length_map]; exact hh.1, fun x hx => ?_⟩
    obtain ⟨z, hz, rfl⟩ := List.mem_map.mp hx
    have := List.all_eq_true.mp hh.2 z hz
    cases z <;> simp [nnInt] at this
    exact this
  · cases h
theorem fillOf_ints {n : Int} {fs : List Int} (hn : (fs.length : Int) = n) (h : ∀ x ∈ fs, 0 ≤ x) : fillOf n (.tuple (dInts fs)) = some fs := by
  rw [fillOf_tup]
  have e : (dInts fs).map valI = fs := by
    unfold dInts
    rw [List.map_map]
    exact List.map_id _
  have hall : (dInts fs).all nnInt = true := List.all_eq_true.mpr fun d hd => by
    obtain ⟨x, hx, rfl⟩ := List.mem_map.mp hd
    exact decide_eq_true (h x hx)
  rw [if_pos ⟨by rw [dInts_len]; exact hn, hall⟩, e]
theorem is_filling_ok {n : Int} {d : PyData} (hn : n ≤ 1000) {c : Nat} {P : Vl → Nat → Prop} (hP : P (.dat (.bool (fillOf n d).isSome)) c) : sp_is_filling [.dat (.int n), .dat d] c P := by
  cases d with
  | none => exact hP
  | bool b => exact hP
  | int i => exact hP
  | str x => exact hP
  | list xs => exact hP
  | dict kvs => exact hP
  | tuple ds =>
    show if (!decide ((ds.length : Int) = n)) = true then _ else _
    by_cases h : (ds.length : Int) = n
    · refine iteNB (decide_eq_true h) ⟨small_len (by omega), ?_⟩
      refine lcL_pure (fun _ => true) (fun d => .bool (nnInt d)) _ _ _ _ (fun d hd P hP => hP) (fun d hd hf P hP => ⟨rfl, number_ok ?_⟩) ?_
      · cases d <;> exact hP
      · rw [List.filter_eq_self.mpr (fun _ _ => rfl), List.nil_append]
        refine ⟨_, bools_map nnInt ds, ?_⟩
        have e : (fillOf n (.tuple ds)).isSome = (ds.map nnInt).all id := by
          rw [List.all_map, fillOf_tup]
          by_cases h2 : ds.all nnInt = true
          · rw [if_pos ⟨h, h2⟩]
            exact h2.symm
          · rw [if_neg fun z => h2 z.2]
            exact ((Bool.not_eq_true _).mp h2).symm
        rw [e] at hP
        exact hP
    · refine ifT (by rw [decide_eq_false h]; rfl) ?_
      have e : fillOf n (.tuple ds) = none := if_neg fun z => h z.1
      rw [e] at hP
      exact hP
theorem brk_lay (w : Int) (i : Nat) (r : R4) : PyData.canLayAll0 (brk w i r) = true := by
  have s1 : PyData.strOk "least" = true := by decide +kernel
  have s2 : PyData.strOk "most" = true := by decide +kernel
  unfold brk
  split <;> split <;> simp [tL, tM, PyData.canLayAll0, PyData.canLay0, s1, s2]
theorem lay_app : ∀ {a b : List PyData}, PyData.canLayAll0 a = true → PyData.canLayAll0 b = true → PyData.canLayAll0 (a ++ b) = true
  | [], _, _, h => h
  | x :: a, b, h1, h2 => by
    simp only [PyData.canLayAll0, Bool.and_eq_true] at h1
    rw [List.cons_append]
    simp only [PyData.canLayAll0, Bool.and_eq_true]
    exact ⟨h1.1, lay_app h1.2 h2⟩
theorem depth_app : ∀ {a b : List PyData} {k : Nat}, PyData.depthAll a ≤ k → PyData.depthAll b ≤ k → PyData.depthAll (a ++ b) ≤ k
  | [], _, _, _, h => h
  | x :: a, b, k, h1, h2 => by
    simp only [PyData.depthAll] at h1
    rw [List.cons_append]
    simp only [PyData.depthAll]
    have := depth_app (a := a) (b := b) (k := k) (by omega) h2
    omega
theorem BR_shape (fs : List Int) (rs : List R4) : ∀ j, PyData.canLayAll0 (BR fs rs j) = true ∧ PyData.depthAll (BR fs rs j) ≤ 2
  | 0 => ⟨rfl, Nat.zero_le _⟩
  | j + 1 => by
    obtain ⟨h1, h2⟩ := BR_shape fs rs j
    show PyData.canLayAll0 (BR fs rs j ++ _) = true ∧ PyData.depthAll (BR fs rs j ++ _) ≤ 2
    split
    · rename_i r hr
      refine ⟨lay_app h1 (brk_lay _ _ _), depth_app h2 ?_⟩
      unfold brk
      split <;> split <;> simp [tL, tM, PyData.depthAll, PyData.depth]
    · rw [List.append_nil]
      exact ⟨h1, h2⟩
theorem BR_shaped (fs : List Int) (rs : List R4) (j : Nat) : SeqAt.shaped (.tuple (BR fs rs j)) = true := by
  obtain ⟨h1, h2⟩ := BR_shape fs rs j
  unfold SeqAt.shaped
  rw [show PyData.canLay0 (.tuple (BR fs rs j)) = PyData.canLayAll0 (BR fs rs j) from by simp [PyData.canLay0], h1, Bool.true_and]
  refine decide_eq_true ?_
  simp only [PyData.depth]
  omega
theorem eqv_nil (xs : List PyData) : PyData.eqv (.tuple xs) (.tuple []) = xs.isEmpty := by
  cases xs <;> simp [PyData.eqv, PyData.eqvAll]
def fitsD (n : Int) (rs : List R4) (d : PyData) : Bool := match fillOf n d with
  | some fs => (BR fs rs rs.length).isEmpty
  | none => false
theorem fits_ok {n : Int} {rs : List R4} {d : PyData} (h0 : 0 < n) (h1 : n ≤ 1000) (hl : rs.length ≤ 1000) {c : Nat} {P : Vl → Nat → Prop} (hP : P (.dat (.bool (fitsD n rs d))) c) : sp_fits [.dat (.int n), .dat (rDs rs), .dat d] c P := by
  refine ⟨rfl, is_filling_ok h1 ?_⟩
  unfold fitsD at hP
  cases h : fillOf n d with
  | none =>
    rw [h] at hP
    exact hP
  | some fs =>
    rw [h] at hP
    obtain ⟨rfl, hn, _⟩ := fillOf_some h
    refine ⟨rfl, broken_ok (by omega) (by omega) hl ⟨Nat.zero_le _, BR_shaped _ _ _, rfl, ?_⟩⟩
    rw [eqv_nil]
    exact hP
/-- nothing is broken exactly if each rule is fitted -/
theorem BR_nil {fs : List Int} {rs : List R4} : ∀ {j : Nat}, j ≤ rs.length → ((BR fs rs j).isEmpty = true ↔ ∀ i r, i < j → rs[i]? = some r → r.l ≤ wsum fs r.f r.s ∧ isBig r.m (wsum fs r.f r.s) = false)
  | 0, _ => ⟨fun _ i r h => absurd h (Nat.not_lt_zero _), fun _ => rfl⟩
  | j + 1, hj => by
    have ih := BR_nil (fs := fs) (rs := rs) (j := j) (by omega)
    have hr : rs[j]? = some rs[j] := List.getElem?_eq_getElem (by omega)
    rw [BR_succ hr, List.isEmpty_iff, List.append_eq_nil_iff, ← List.isEmpty_iff, ih]
    have hb : brk (wsum fs rs[j].f rs[j].s) j rs[j] = [] ↔ rs[j].l ≤ wsum fs rs[j].f rs[j].s ∧ isBig rs[j].m (wsum fs rs[j].f rs[j].s) = false := by
      unfold brk
      by_cases h1 : wsum fs rs[j].f rs[j].s < rs[j].l
      · rw [if_pos h1]
        exact ⟨fun z => by simp at z, fun z => by omega⟩
      · rw [if_neg h1]
        by_cases h2 : isBig rs[j].m (wsum fs rs[j].f rs[j].s) = true
        · rw [if_pos h2]
          exact ⟨fun z => by simp at z, fun z => by rw [h2] at z; cases z.2⟩
        · rw [if_neg h2]
          exact ⟨fun _ => ⟨by omega, (Bool.not_eq_true _).mp h2⟩, fun _ => rfl⟩
    rw [hb]
    constructor
    · rintro ⟨a, b⟩ i r hi e
      by_cases hij : i < j
      · exact a i r hij e
      · rw [show i = j by omega, hr] at e
        cases e
        exact b
    · intro a
      exact ⟨fun i r hi e => a i r (by omega) e, a j _ (by omega) hr⟩

theorem take_sumP {l : List Int} {j : Nat} (h : j < l.length) : (l.take (j + 1)).sum = (l.take j).sum + l[j] := by
  rw [List.take_add_one, List.getElem?_eq_getElem h, List.sum_append]
  simp

/-! ### links, walks along them, loops: mathematics alone -/
structure Lk where
  s : Nat
  e : Nat
  g : Int
  t : Int
  lb : Option (Nat × Bool)
deriving DecidableEq
def cl (T : Int) (l : Lk) : Int := l.g - l.t * T
def cls (T : Int) (w : List Lk) : Int := (w.map (cl T)).sum
def gns (w : List Lk) : Int := (w.map fun l => l.g).sum
def tns (w : List Lk) : Int := (w.map fun l => l.t).sum
theorem cls_app (T : Int) (a b : List Lk) : cls T (a ++ b) = cls T a + cls T b := by simp [cls]
theorem cls_cons (T : Int) (a : Lk) (b : List Lk) : cls T (a :: b) = cl T a + cls T b := by simp [cls]
theorem cls_eq (T : Int) : ∀ w : List Lk, cls T w = gns w - tns w * T
  | [] => by simp [cls, gns, tns]
  | a :: w => by
    rw [cls_cons, cls_eq T w]
    simp only [cl, gns, tns, List.map_cons, List.sum_cons, Int.add_mul]
    omega
/-- from a to b along the links of w -/
def Pth : List Lk → Nat → Nat → Prop
  | [], a, b => a = b
  | l :: r, a, b => l.s = a ∧ Pth r l.e b
theorem pth_app : ∀ {u v : List Lk} {a b : Nat}, Pth (u ++ v) a b ↔ ∃ y, Pth u a y ∧ Pth v y b
  | [], v, a, b => ⟨fun h => ⟨a, rfl, h⟩, fun ⟨y, h1, h2⟩ => by cases h1; exact h2⟩
  | l :: u, v, a, b => by
    constructor
    · intro h
      obtain ⟨y, h1, h2⟩ := pth_app.mp h.2
      exact ⟨y, ⟨h.1, h1⟩, h2⟩
    · intro ⟨y, h1, h2⟩
      exact ⟨h1.1, pth_app.mpr ⟨y, h1.2, h2⟩⟩
theorem pth_snoc {u : List Lk} {l : Lk} {a b : Nat} : Pth (u ++ [l]) a b ↔ Pth u a l.s ∧ l.e = b := by
  rw [pth_app]
  constructor
  · intro ⟨y, h1, h2, h3⟩
    rw [h2]
    exact ⟨h1, h3⟩
  · intro ⟨h1, h2⟩
    exact ⟨l.s, h1, rfl, h2⟩
/-- a walk along links of ls that ends at v -/
def Wk (ls w : List Lk) (v : Nat) : Prop := (∀ l ∈ w, l ∈ ls) ∧ ∃ a, Pth w a v
theorem wk_nil (ls : List Lk) (v : Nat) : Wk ls [] v := ⟨fun _ h => by simp at h, v, rfl⟩
theorem wk_snoc {ls w : List Lk} {l : Lk} (h : Wk ls w l.s) (hl : l ∈ ls) : Wk ls (w ++ [l]) l.e := by
  obtain ⟨h1, a, h2⟩ := h
  refine ⟨fun x hx => ?_, a, pth_snoc.mpr ⟨h2, rfl⟩⟩
  rcases List.mem_append.mp hx with hx | hx
  · exact h1 x hx
  · rw [List.mem_singleton.mp hx]
    exact hl
theorem wk_last {ls w : List Lk} {l : Lk} {v : Nat} (h : Wk ls (w ++ [l]) v) : Wk ls w l.s ∧ l ∈ ls ∧ l.e = v := by
  obtain ⟨h1, a, h2⟩ := h
  obtain ⟨h3, h4⟩ := pth_snoc.mp h2
  exact ⟨⟨fun x hx => h1 x (List.mem_append_left _ hx), a, h3⟩, h1 l (List.mem_append_right _ List.mem_cons_self), h4⟩
/-- heights that keep all links bound a walk -/
theorem pth_le {T : Int} {H : Nat → Int} : ∀ {w : List Lk} {a b : Nat}, (∀ l ∈ w, H l.s + cl T l ≤ H l.e) → Pth w a b → H a + cls T w ≤ H b
  | [], a, b, _, h => by
    cases h
    simp [cls]
  | l :: w, a, b, hw, h => by
    have h1 := hw l List.mem_cons_self
    have h2 := pth_le (fun x hx => hw x (List.mem_cons_of_mem _ hx)) h.2
    rw [h.1] at h1
    rw [cls_cons]
    omega
/-! ### one round -/
def rz (T : Int) (h : List Int) (w : List (List Lk)) (a : List Int × List (List Lk)) (l : Lk) : List Int × List (List Lk) :=
  if a.1.getD l.e 0 < h.getD l.s 0 + l.g - l.t * T then (a.1.set l.e (h.getD l.s 0 + l.g - l.t * T), a.2.set l.e (w.getD l.s [] ++ [l])) else a
def rzs (ls : List Lk) (T : Int) (h : List Int) (w : List (List Lk)) : List Int × List (List Lk) := ls.foldl (rz T h w) (h, w)
structure Rz (n : Nat) (T : Int) (h : List Int) (w : List (List Lk)) (pre : List Lk) (a : List Int × List (List Lk)) : Prop where
  l1 : a.1.length = n
  l2 : a.2.length = n
  ge : ∀ v, v < n → h.getD v 0 ≤ a.1.getD v 0
  up : ∀ l ∈ pre, h.getD l.s 0 + cl T l ≤ a.1.getD l.e 0
  or : ∀ v, v < n → (a.1.getD v 0 = h.getD v 0 ∧ a.2.getD v [] = w.getD v []) ∨ ∃ l ∈ pre, l.e = v ∧ a.1.getD v 0 = h.getD l.s 0 + cl T l ∧ a.2.getD v [] = w.getD l.s [] ++ [l] ∧ h.getD v 0 < a.1.getD v 0
theorem getD_set {α : Type} {l : List α} {i v : Nat} {x d : α} (h : i < l.length) : (l.set i x).getD v d = if v = i then x else l.getD v d := by
  by_cases e : v = i
  · subst e
    simp [List.getD, h]
  · rw [if_neg e]
    simp [List.getD, List.getElem?_set_ne (Ne.symm e)]
theorem rz_step {n : Nat} {T : Int} {h : List Int} {w : List (List Lk)} {pre : List Lk} {a : List Int × List (List Lk)} {l : Lk} (he : l.e < n) (R : Rz n T h w pre a) : Rz n T h w (pre ++ [l]) (rz T h w a l) := by
  have hc : h.getD l.s 0 + l.g - l.t * T = h.getD l.s 0 + cl T l := by simp only [cl]; omega
  unfold rz
  rw [hc]
  by_cases hx : a.1.getD l.e 0 < h.getD l.s 0 + cl T l
  · rw [if_pos hx]
    have g1 : ∀ v, (a.1.set l.e (h.getD l.s 0 + cl T l)).getD v 0 = if v = l.e then h.getD l.s 0 + cl T l else a.1.getD v 0 := fun v => getD_set (by rw [R.l1]; exact he)
    have g2 : ∀ v, (a.2.set l.e (w.getD l.s [] ++ [l])).getD v [] = if v = l.e then w.getD l.s [] ++ [l] else a.2.getD v [] := fun v => getD_set (by rw [R.l2]; exact he)
    refine ⟨by simpa using R.l1, by simpa using R.l2, fun v hv => ?_, fun k hk => ?_, fun v hv => ?_⟩
    · show _ ≤ (a.1.set l.e (h.getD l.s 0 + cl T l)).getD v 0
      rw [g1]
      have := R.ge v hv
      split
      · rename_i e
        rw [e] at this ⊢
        omega
      · exact this
    · show _ ≤ (a.1.set l.e (h.getD l.s 0 + cl T l)).getD k.e 0
      rw [g1]
      rcases List.mem_append.mp hk with hk | hk
      · have := R.up k hk
        split
        · rename_i e
          rw [e] at this
          omega
        · exact this
      · rw [List.mem_singleton.mp hk, if_pos rfl]
        exact Int.le_refl _
    · show ((a.1.set l.e (h.getD l.s 0 + cl T l)).getD v 0 = _ ∧ (a.2.set l.e (w.getD l.s [] ++ [l])).getD v [] = _) ∨ ∃ k ∈ pre ++ [l], k.e = v ∧ (a.1.set l.e (h.getD l.s 0 + cl T l)).getD v 0 = _ ∧ (a.2.set l.e (w.getD l.s [] ++ [l])).getD v [] = _ ∧ _ < (a.1.set l.e (h.getD l.s 0 + cl T l)).getD v 0
      rw [g1, g2]
      by_cases e : v = l.e
      · rw [if_pos e, if_pos e]
        refine .inr ⟨l, List.mem_append_right _ List.mem_cons_self, e.symm, rfl, rfl, ?_⟩
        have := R.ge v hv
        rw [e] at this ⊢
        omega
      · rw [if_neg e, if_neg e]
        rcases R.or v hv with z | ⟨k, hk, z⟩
        · exact .inl z
        · exact .inr ⟨k, List.mem_append_left _ hk, z⟩
  · rw [if_neg hx]
    refine ⟨R.l1, R.l2, R.ge, fun k hk => ?_, fun v hv => ?_⟩
    · rcases List.mem_append.mp hk with hk | hk
      · exact R.up k hk
      · rw [List.mem_singleton.mp hk]
        omega
    · rcases R.or v hv with z | ⟨k, hk, z⟩
      · exact .inl z
      · exact .inr ⟨k, List.mem_append_left _ hk, z⟩
theorem rz_fold {n : Nat} {T : Int} {h : List Int} {w : List (List Lk)} : ∀ {ls pre : List Lk} {a : List Int × List (List Lk)}, (∀ l ∈ ls, l.e < n) → Rz n T h w pre a → Rz n T h w (pre ++ ls) (ls.foldl (rz T h w) a)
  | [], pre, a, _, R => by simpa using R
  | l :: ls, pre, a, hl, R => by
    have := rz_fold (fun x hx => hl x (List.mem_cons_of_mem _ hx)) (rz_step (hl l List.mem_cons_self) R)
    simpa using this
theorem rzs_ok {n : Nat} {T : Int} {h : List Int} {w : List (List Lk)} {ls : List Lk} (hl : ∀ l ∈ ls, l.e < n) (h1 : h.length = n) (h2 : w.length = n) : Rz n T h w ls (rzs ls T h w) := by
  have := rz_fold (ls := ls) (pre := []) (a := (h, w)) (T := T) (h := h) (w := w) hl ⟨h1, h2, fun _ _ => Int.le_refl _, fun _ hx => by simp at hx, fun _ _ => .inl ⟨rfl, rfl⟩⟩
  rw [List.nil_append] at this
  exact this
/-! ### all rounds -/
structure Rd (ls : List Lk) (T : Int) (n k : Nat) (h : List Int) (w : List (List Lk)) : Prop where
  hl : h.length = n
  wl : w.length = n
  wk : ∀ v, v < n → Wk ls (w.getD v []) v ∧ cls T (w.getD v []) = h.getD v 0 ∧ (w.getD v []).length ≤ k
  mx : ∀ u v, Wk ls u v → v < n → u.length ≤ k → cls T u ≤ h.getD v 0
  st : ∀ v, v < n → (w.getD v []).length = k → 0 < k → ∀ u, Wk ls u v → u.length < k → cls T u < h.getD v 0
theorem rd_zero (ls : List Lk) (T : Int) (n : Nat) : Rd ls T n 0 (List.replicate n 0) (List.replicate n []) := by
  have e1 : ∀ v, (List.replicate n (0 : Int)).getD v 0 = 0 := fun v => by
    by_cases h : v < n <;> simp [List.getD, h]
  have e2 : ∀ v, (List.replicate n ([] : List Lk)).getD v [] = [] := fun v => by
    by_cases h : v < n <;> simp [List.getD, h]
  refine ⟨by simp, by simp, fun v hv => ?_, fun u v hu hv hl => ?_, fun v hv h hk => absurd hk (by omega)⟩
  · rw [e1, e2]
    exact ⟨wk_nil ls v, rfl, Nat.le_refl _⟩
  · have : u = [] := List.length_eq_zero_iff.mp (by omega)
    rw [this, e1]
    exact Int.le_refl _
theorem list_snoc {α : Type} (u : List α) : u = [] ∨ ∃ a x, u = a ++ [x] := by
  rcases List.eq_nil_or_concat u with h | ⟨a, x, h⟩
  · exact .inl h
  · exact .inr ⟨a, x, by simpa using h⟩
theorem ext_getD {a b : List Int} (hl : a.length = b.length) (h : ∀ v, v < a.length → a.getD v 0 = b.getD v 0) : a = b := by
  refine List.ext_getElem hl fun i h1 h2 => ?_
  have := h i h1
  simpa [List.getD, h1, h2] using this
theorem rd_step {ls : List Lk} {T : Int} {n k : Nat} {h : List Int} {w : List (List Lk)} (hls : ∀ l ∈ ls, l.s < n ∧ l.e < n) (R : Rd ls T n k h w) :
    Rd ls T n (k + 1) (rzs ls T h w).1 (rzs ls T h w).2 ∧ ((rzs ls T h w).1 ≠ h → ∃ v, v < n ∧ ((rzs ls T h w).2.getD v []).length = k + 1) := by
  have Z := rzs_ok (T := T) (fun l hl => (hls l hl).2) R.hl R.wl
  refine ⟨⟨Z.l1, Z.l2, fun v hv => ?_, fun u v hu hv hl => ?_, fun v hv hlen _ u hu hul => ?_⟩, fun hne => ?_⟩
  · obtain ⟨q1, q2, q3⟩ := R.wk v hv
    rcases Z.or v hv with ⟨z1, z2⟩ | ⟨l, hl, z1, z2, z3, _⟩
    · rw [z1, z2]
      exact ⟨q1, q2, by omega⟩
    · obtain ⟨p1, p2, p3⟩ := R.wk l.s (hls l hl).1
      rw [z2, z3]
      refine ⟨?_, ?_, ?_⟩
      · have := wk_snoc p1 hl
        rw [z1] at this
        exact this
      · rw [cls_app, p2]
        simp [cls]
      · rw [List.length_append, List.length_singleton]
        omega
  · rcases list_snoc u with rfl | ⟨a, l, rfl⟩
    · have := R.mx [] v hu hv (by simp)
      have := Z.ge v hv
      omega
    · obtain ⟨p1, p2, p3⟩ := wk_last hu
      have q := R.mx a l.s p1 (hls l p2).1 (by simp at hl; omega)
      have z := Z.up l p2
      rw [p3] at z
      rw [cls_app]
      simp only [cls, List.map_cons, List.map_nil, List.sum_cons, List.sum_nil] at q ⊢
      omega
  · rcases Z.or v hv with ⟨z1, z2⟩ | ⟨l, hl, z1, z2, z3, z4⟩
    · obtain ⟨_, _, q3⟩ := R.wk v hv
      rw [z2] at hlen
      omega
    · have := R.mx u v hu hv (by omega)
      omega
  · obtain ⟨v, hv, hvn⟩ : ∃ v, v < n ∧ (rzs ls T h w).1.getD v 0 ≠ h.getD v 0 := by
      apply Classical.byContradiction
      intro hno
      apply hne
      refine ext_getD (by rw [Z.l1, R.hl]) fun v hv => ?_
      apply Classical.byContradiction
      intro hx
      exact hno ⟨v, by rw [← Z.l1]; exact hv, hx⟩
    rcases Z.or v hv with ⟨z1, _⟩ | ⟨l, hl, z1, z2, z3, z4⟩
    · exact absurd z1 hvn
    · refine ⟨v, hv, ?_⟩
      obtain ⟨p1, p2, p3⟩ := R.wk l.s (hls l hl).1
      rw [z3]
      simp only [List.length_append, List.length_cons, List.length_nil]
      by_cases hk : (w.getD l.s []).length = k
      · omega
      · exfalso
        have q := R.mx (w.getD l.s [] ++ [l]) v (by rw [← z1]; exact wk_snoc p1 hl) hv (by rw [List.length_append, List.length_singleton]; omega)
        rw [cls_app, p2] at q
        simp only [cls, List.map_cons, List.map_nil, List.sum_cons, List.sum_nil] at q
        omega
/-- n rounds: heights that stay, or the walks -/
def stl (ls : List Lk) (T : Int) : Nat → List Int → List (List Lk) → (List Int) ⊕ (List (List Lk))
  | 0, _, w => .inr w
  | k + 1, h, w => if (rzs ls T h w).1 = h then .inl h else stl ls T k (rzs ls T h w).1 (rzs ls T h w).2
theorem stl_ok {ls : List Lk} {T : Int} {n : Nat} (hls : ∀ l ∈ ls, l.s < n ∧ l.e < n) : ∀ (m k : Nat) (h : List Int) (w : List (List Lk)), Rd ls T n k h w → (k = 0 ∨ ∃ v, v < n ∧ (w.getD v []).length = k) →
    match stl ls T m h w with
    | .inl h' => h'.length = n ∧ ∀ l ∈ ls, h'.getD l.s 0 + cl T l ≤ h'.getD l.e 0
    | .inr w' => ∃ h', Rd ls T n (k + m) h' w' ∧ (k + m = 0 ∨ ∃ v, v < n ∧ (w'.getD v []).length = k + m)
  | 0, k, h, w, R, hv => ⟨h, R, hv⟩
  | m + 1, k, h, w, R, hv => by
    obtain ⟨R', hv'⟩ := rd_step hls R
    unfold stl
    by_cases e : (rzs ls T h w).1 = h
    · rw [if_pos e]
      refine ⟨R.hl, fun l hl => ?_⟩
      have := (rzs_ok (T := T) (fun l hl => (hls l hl).2) R.hl R.wl).up l hl
      rw [e] at this
      exact this
    · rw [if_neg e]
      have := stl_ok hls m (k + 1) _ _ R' (.inr (hv' e))
      rw [Nat.add_assoc, Nat.add_comm 1 m] at this
      exact this
/-! ### the first loop of a walk -/
def fl (pre : List Lk) : List Lk → List Lk
  | [] => []
  | l :: r => if l.e ∈ (pre ++ [l]).map (fun x => x.s) then (pre ++ [l]).drop (((pre ++ [l]).map (fun x => x.s)).idxOf l.e) else fl (pre ++ [l]) r
theorem pigeon : ∀ (n : Nat) (l : List Nat), l.Nodup → (∀ x ∈ l, x < n) → l.length ≤ n
  | 0, l, _, h => by
    cases l with
    | nil => exact Nat.le_refl _
    | cons a l => exact absurd (h a List.mem_cons_self) (by omega)
  | n + 1, l, hd, h => by
    have := pigeon n (l.filter fun x => x ≠ n) (hd.filter _) fun x hx => by
      obtain ⟨h1, h2⟩ := List.mem_filter.mp hx
      have := h x h1
      have : x ≠ n := by simpa using h2
      omega
    have key : ∀ l : List Nat, l.Nodup → l.length ≤ (l.filter fun x => x ≠ n).length + 1 := by
      intro l
      induction l with
      | nil => intro _; simp
      | cons a l ih =>
        intro hd
        obtain ⟨h1, h2⟩ := List.nodup_cons.mp hd
        by_cases e : a = n
        · have : l.filter (fun x => decide (x ≠ n)) = l := by
            refine List.filter_eq_self.mpr fun x hx => ?_
            have : x ≠ n := fun z => h1 (by rw [e, ← z]; exact hx)
            simpa using this
          rw [List.filter_cons, if_neg (by simpa using e), this]
          simp
        · rw [List.filter_cons, if_pos (by simpa using e)]
          have := ih h2
          simp only [List.length_cons]
          omega
    have := key l hd
    omega
theorem fl_ok {n a v : Nat} : ∀ (r pre : List Lk) (x : Nat), Pth pre a x → Pth r x v → (pre.map fun l => l.s).Nodup → x ∉ (pre.map fun l => l.s) → (∀ l ∈ pre ++ r, l.s < n ∧ l.e < n) → n ≤ (pre ++ r).length → 0 < (pre ++ r).length →
    ∃ A B y, fl pre r ≠ [] ∧ pre ++ r = A ++ fl pre r ++ B ∧ ((fl pre r).map fun l => l.s).Nodup ∧ Pth A a y ∧ Pth (fl pre r) y y ∧ Pth B y v
  | [], pre, x, h1, h2, hd, hx, hb, hn, h0 => by
    exfalso
    have hne : pre ≠ [] := by
      intro z
      rw [z] at h0
      simp at h0
    rcases list_snoc pre with rfl | ⟨p, l, rfl⟩
    · exact hne rfl
    · have hxl : x < n := by
        rw [← (pth_snoc.mp h1).2]
        exact (hb l (by simp)).2
      have := pigeon n (x :: ((p ++ [l]).map fun l => l.s)) (List.nodup_cons.mpr ⟨hx, hd⟩) fun z hz => by
        rcases List.mem_cons.mp hz with rfl | hz
        · exact hxl
        · obtain ⟨m, hm, rfl⟩ := List.mem_map.mp hz
          exact (hb m (by simpa using hm)).1
      simp at this hn
      omega
  | l :: r, pre, x, h1, h2, hd, hx, hb, hn, h0 => by
    have hp : Pth (pre ++ [l]) a l.e := pth_snoc.mpr ⟨by rw [h2.1]; exact h1, rfl⟩
    have hd' : ((pre ++ [l]).map fun l => l.s).Nodup := by
      rw [List.map_append, List.nodup_append]
      refine ⟨hd, by simp, fun y hy z hz => ?_⟩
      rw [List.mem_singleton.mp hz]
      intro e
      rw [e] at hy
      exact hx (h2.1 ▸ hy)
    unfold fl
    by_cases hm : l.e ∈ (pre ++ [l]).map (fun x => x.s)
    · rw [if_pos hm]
      have hj := List.idxOf_lt_length_of_mem hm
      have hjl : ((pre ++ [l]).map (fun x => x.s)).idxOf l.e < (pre ++ [l]).length := by simpa using hj
      generalize hjj : ((pre ++ [l]).map (fun x => x.s)).idxOf l.e = j at *
      have hsj : ((pre ++ [l])[j]'hjl).s = l.e := by
        have := List.getElem_idxOf (x := l.e) (xs := (pre ++ [l]).map (fun x => x.s)) (by rw [hjj]; exact hj)
        simp only [hjj] at this
        rw [List.getElem_map] at this
        exact this
      have hsplit : pre ++ [l] = (pre ++ [l]).take j ++ (pre ++ [l]).drop j := (List.take_append_drop j _).symm
      rw [hsplit] at hp
      obtain ⟨y, p1, p2⟩ := pth_app.mp hp
      have hdr : (pre ++ [l]).drop j = (pre ++ [l])[j]'hjl :: (pre ++ [l]).drop (j + 1) := List.drop_eq_getElem_cons hjl
      have hy : y = l.e := by
        rw [hdr] at p2
        rw [← p2.1, hsj]
      subst hy
      refine ⟨(pre ++ [l]).take j, r, l.e, ?_, ?_, ?_, p1, p2, h2.2⟩
      · rw [hdr]
        exact List.cons_ne_nil _ _
      · rw [List.take_append_drop]
        simp
      · rw [List.map_drop]
        exact hd'.sublist (List.drop_sublist _ _)
    · rw [if_neg hm]
      have := fl_ok r (pre ++ [l]) l.e hp h2.2 hd' hm (by simpa using hb) (by simpa using hn) (by simp; omega)
      simpa using this
/-- the walks of a total that can't settle hold a loop that gains -/
structure Lp (ls : List Lk) (T : Int) (L : List Lk) : Prop where
  ne : L ≠ []
  mem : ∀ l ∈ L, l ∈ ls
  nd : (L.map fun l => l.s).Nodup
  cy : ∃ y, Pth L y y
  up : 0 < cls T L
theorem loop_of {ls : List Lk} {T : Int} {n v : Nat} {W : List Lk} (n0 : 0 < n) (hls : ∀ l ∈ ls, l.s < n ∧ l.e < n) (hW : Wk ls W v) (hl : W.length = n) (st : ∀ u, Wk ls u v → u.length < n → cls T u < cls T W) : Lp ls T (fl [] W) := by
  obtain ⟨w1, a, w2⟩ := hW
  obtain ⟨A, B, y, q1, q2, q3, q4, q5, q6⟩ := fl_ok (n := n) W [] a rfl w2 List.nodup_nil (by simp) (fun l hx => hls l (w1 l (by simpa using hx))) (by simpa using Nat.le_of_eq hl.symm) (by simpa [hl] using n0)
  simp only [List.nil_append] at q2
  have hmem : ∀ l ∈ A ++ fl [] W ++ B, l ∈ ls := fun l hx => w1 l (by rw [q2]; exact hx)
  refine ⟨q1, fun l hx => hmem l (by simp [hx]), q3, ⟨y, q5⟩, ?_⟩
  have hlen : (fl [] W).length + A.length + B.length = n := by
    have := congrArg List.length q2
    simp only [List.length_append] at this
    omega
  have hpos : 0 < (fl [] W).length := by
    cases hc : fl [] W with
    | nil => exact absurd hc q1
    | cons x xs => simp
  have hwk : Wk ls (A ++ B) v := ⟨fun l hx => hmem l (by rcases List.mem_append.mp hx with hx | hx <;> simp [hx]), a, pth_app.mpr ⟨y, q4, q6⟩⟩
  have := st (A ++ B) hwk (by simp; omega)
  rw [cls_app] at this
  have e := congrArg (cls T) q2
  rw [cls_app, cls_app] at e
  omega
theorem loop_ok {ls : List Lk} {T : Int} {n : Nat} {h : List Int} {w : List (List Lk)} (n0 : 0 < n) (hls : ∀ l ∈ ls, l.s < n ∧ l.e < n) (R : Rd ls T n n h w) {v : Nat} (hv : v < n) (hl : (w.getD v []).length = n) : Lp ls T (fl [] (w.getD v [])) := by
  obtain ⟨w1, w3, _⟩ := R.wk v hv
  refine loop_of n0 hls w1 hl fun u hu hul => ?_
  rw [w3]
  exact R.st v hv hl n0 u hu hul
theorem Lp.bound {ls L : List Lk} {T T' : Int} {H : Nat → Int} (P : Lp ls T L) (hH : ∀ l ∈ ls, H l.s + cl T' l ≤ H l.e) : gns L ≤ tns L * T' ∧ tns L * T < gns L := by
  obtain ⟨y, hy⟩ := P.cy
  have h1 := pth_le (fun l hl => hH l (P.mem l hl)) hy
  have h2 := P.up
  rw [cls_eq] at h1 h2
  omega

theorem zip_tup (xs ys : List Int) : ((dInts xs).zip (dInts ys)).map (fun z => PyData.tuple [z.1, z.2]) = (xs.zip ys).map fun z => PyData.tuple [.int z.1, .int z.2] := by
  unfold dInts
  rw [List.zip_map, List.map_map]
  rfl

def cof (hs : List Int) (t : Int) : List Int := List.zipWith (fun s e => e - s) hs (hs.drop 1 ++ [hs.headD 0 + t])
theorem cof_len {hs : List Int} (h : 0 < hs.length) (t : Int) : (cof hs t).length = hs.length := by
  unfold cof
  rw [List.length_zipWith, List.length_append, List.length_drop, List.length_singleton]
  omega
theorem counts_ok {hs : List Int} {t : Int} (h0 : 0 < hs.length) (h1 : hs.length ≤ 1000) {c : Nat} {P : Vl → Nat → Prop} (hP : P (.dat (.tuple (dInts (cof hs t)))) c) : sp_counts_of [.dat (.list (dInts hs)), .dat (.int t)] c P := by
  have hd : atI (dInts hs) 0 = some (.int (hs.headD 0)) := by
    cases hs with
    | nil => exact absurd h0 (by decide)
    | cons x l => exact atI_nat (j := 0) rfl
  refine ix_ok hd ⟨by show 1 ≤ sizeLine; decide, ?_⟩
  have e1 : DL.cutD (dInts hs) (some 1) none = dInts (hs.drop 1) := by
    rw [show (1 : Int) = ((1 : Nat) : Int) from rfl, cut_drop, dInts_drop]
  show (DL.cutD (dInts hs) (some 1) none).length + 1 ≤ sizeLine ∧ _
  rw [e1]
  refine ⟨by rw [dInts_len, List.length_drop]; exact Nat.le_trans (by omega : hs.length - 1 + 1 ≤ 1001) (by decide), ?_⟩
  have e2 : dInts (hs.drop 1) ++ [PyData.int (hs.headD 0 + t)] = dInts (hs.drop 1 ++ [hs.headD 0 + t]) := by
    rw [← dInts_app]
    rfl
  show (((dInts hs).zip (dInts (hs.drop 1) ++ [PyData.int (hs.headD 0 + t)])).map fun z => PyData.tuple [z.1, z.2]).length < sizeLine ∧ lcL _ _ _ _ (((dInts hs).zip (dInts (hs.drop 1) ++ [PyData.int (hs.headD 0 + t)])).map fun z => PyData.tuple [z.1, z.2]) _ _ _
  rw [e2, zip_tup]
  refine ⟨?_, lcL_gen (fun _ => true) (fun d => match d with | .tuple [.int s, .int e] => .int (e - s) | _ => .none) _ _ _ _ (fun d hd k2 rest acc h => ?_) ?_⟩
  · rw [List.length_map, List.length_zip]
    exact small_len (by omega)
  · obtain ⟨z, hz, rfl⟩ := List.mem_map.mp hd
    exact ⟨rfl, h⟩
  · rw [List.filter_eq_self.mpr (fun _ _ => rfl), List.nil_append, List.map_map]
    have e : List.map ((fun d => match d with | PyData.tuple [.int s, .int e] => PyData.int (e - s) | _ => PyData.none) ∘ fun (z : Int × Int) => PyData.tuple [.int z.1, .int z.2]) (hs.zip (hs.drop 1 ++ [hs.headD 0 + t])) = dInts (cof hs t) := by
      unfold dInts cof
      rw [List.zip_eq_zipWith, List.map_zipWith, List.map_zipWith]
      rfl
    rw [e]
    exact hP

theorem lcL_invN {dg : DG} {dt : DT} {de : DE} {env : Ev} {I : Nat → List PyData → Nat → Prop} {N : Nat} : ∀ {items : List PyData} {j : Nat} {acc : List PyData} {c : Nat} {k : List PyData → Nat → Prop},
    j + items.length = N →
    (∀ d ∈ items, ∀ (j : Nat) (acc : List PyData) (c : Nat) (k : List PyData → Nat → Prop), j < N → I j acc c → (∀ acc' c', I (j + 1) acc' c' → k acc' c') → dg (.dat d) env fun env' => dt env' c fun b c1 => if b = true then de env' c1 fun x c2 => datK x fun z => k (acc ++ [z]) c2 else k acc c1) →
    I j acc c → (∀ out c', I N out c' → k out c') → lcL dg dt de env items acc c k
  | [], j, acc, c, k, hN, _, h0, hk => by
    have e : j = N := by simpa using hN
    subst e
    exact hk acc c h0
  | d :: ds, j, acc, c, k, hN, st, h0, hk => by
    rw [List.length_cons] at hN
    unfold lcL
    refine st d List.mem_cons_self j acc c (fun a c' => lcL dg dt de env ds a c' k) (by omega) h0 fun a c' h => ?_
    exact lcL_invN (j := j + 1) (by omega) (fun e he => st e (List.mem_cons_of_mem _ he)) h hk
theorem ixN_nat {L k : Nat} (h : k < L) : ixN L (k : Int) = some k := by
  unfold ixN
  rw [if_pos (by omega), if_pos (by omega)]
  rfl
theorem dInts_set (gs : List Int) (k : Nat) (v : Int) : (dInts gs).set k (.int v) = dInts (gs.set k v) := by
  unfold dInts
  rw [List.map_set]

/-! ### links as data; the rounds, the first loop, settle -/
def lbD : Option (Nat × Bool) → PyData
  | none => .none
  | some (i, true) => tL i
  | some (i, false) => tM i
def lkD (l : Lk) : PyData := .tuple [.int (l.s : Int), .int (l.e : Int), .int l.g, .int l.t, lbD l.lb]
def lksD (ls : List Lk) : PyData := .list (ls.map lkD)
def wkD (w : List Lk) : PyData := .tuple (w.map lkD)
theorem fold_take {α β : Type} {f : β → α → β} {x : β} {ls : List α} {j : Nat} {l : α} (h : ls[j]? = some l) : (ls.take (j + 1)).foldl f x = f ((ls.take j).foldl f x) l := by
  rw [List.take_succ, h]
  simp [List.foldl_append]
theorem getD_el {α : Type} {l : List α} {i : Nat} {d : α} (h : i < l.length) : l.getD i d = l[i] := by simp [List.getD, h]
theorem rz_lens {n : Nat} {T : Int} {h : List Int} {w : List (List Lk)} {k : Nat} (hk : ∀ u ∈ w, u.length ≤ k) (hw : w.length = n) {ls : List Lk} (hls : ∀ l ∈ ls, l.s < n ∧ l.e < n) (hh : h.length = n) : ∀ u ∈ (rzs ls T h w).2, u.length ≤ k + 1 := fun u hu => by
  have R := rzs_ok (T := T) (fun l hl => (hls l hl).2) hh hw
  obtain ⟨v, hv, rfl⟩ := List.getElem_of_mem hu
  have hv' : v < n := by rw [← R.l2]; exact hv
  rw [← getD_el (d := []) hv]
  rcases R.or v hv' with ⟨_, z⟩ | ⟨l, hl, _, _, z, _⟩
  · rw [z, getD_el (by omega)]
    have := hk _ (List.getElem_mem (by omega : v < w.length))
    omega
  · rw [z, List.length_append, List.length_singleton, getD_el (by have := hls l hl; omega)]
    have := hk _ (List.getElem_mem (by have := hls l hl; omega : l.s < w.length))
    omega
/-! ### the first loop; settle -/
theorem cut_both (ds : List PyData) (a b : Nat) (h : b ≤ ds.length) : DL.cutD ds (some (a : Int)) (some (b : Int)) = (ds.take b).drop a := by
  unfold DL.cutD
  rw [show HT.sIx ds.length 0 (some (a : Int)) = min a ds.length from HT.sIx_nat _ _ a, show HT.sIx ds.length ds.length (some (b : Int)) = min b ds.length from HT.sIx_nat _ _ b, Nat.min_eq_left h, List.drop_take]
  by_cases ha : a ≤ ds.length
  · rw [Nat.min_eq_left ha]
  · rw [Nat.min_eq_right (by omega), List.drop_eq_nil_of_le (Nat.le_refl _), List.drop_eq_nil_of_le (by omega)]
    simp
theorem fl_cons (pre r : List Lk) (l : Lk) : fl pre (l :: r) = if l.e ∈ (pre ++ [l]).map (fun x => x.s) then (pre ++ [l]).drop (((pre ++ [l]).map (fun x => x.s)).idxOf l.e) else fl (pre ++ [l]) r := rfl
def stsD (w : List Lk) : List PyData := w.map fun l => PyData.int (l.s : Int)
theorem sts_any (w : List Lk) (x : Nat) : ((stsD w).any fun y => eqP y (.int (x : Int))) = decide (x ∈ w.map fun l => l.s) := by
  induction w with
  | nil => rfl
  | cons l w ih =>
    have ih' : ((w.map fun l => PyData.int (l.s : Int)).any fun y => eqP y (.int (x : Int))) = decide (x ∈ w.map fun l => l.s) := ih
    show (eqP (.int (l.s : Int)) (.int (x : Int)) || ((w.map fun l => PyData.int (l.s : Int)).any fun y => eqP y (.int (x : Int)))) = _
    rw [ih']
    have e : eqP (.int (l.s : Int)) (.int (x : Int)) = decide (x = l.s) := by
      show decide ((l.s : Int) = (x : Int)) = _
      by_cases h : x = l.s
      · simp [h]
      · have : ¬ ((l.s : Int) = (x : Int)) := by omega
        simp [h, this]
    rw [e]
    simp only [List.map_cons, List.mem_cons, Bool.decide_or]
theorem sts_flat (w : List Lk) : (stsD w).all flatP = true := by
  refine List.all_eq_true.mpr fun d hd => ?_
  obtain ⟨l, _, rfl⟩ := List.mem_map.mp hd
  rfl
def lng (w : List (List Lk)) : List Lk := w.getD (lenB (w.map fun u => u.map lkD)) []
def stD (n : Nat) (ls : List Lk) (T : Int) : PyData := match stl ls T n (List.replicate n 0) (List.replicate n []) with
  | .inl h => .tuple [.list (dInts h), .none]
  | .inr w => .tuple [.none, wkD (fl [] (lng w))]
theorem rep0 (k : Nat) : (List.replicate k [PyData.int 0]).flatten = dInts (List.replicate k 0) := by
  induction k with
  | zero => rfl
  | succ k ih => rw [List.replicate_succ, List.flatten_cons, ih, List.replicate_succ]; rfl
theorem repW (k : Nat) : (List.replicate k [PyData.tuple []]).flatten = (List.replicate k ([] : List Lk)).map wkD := by
  induction k with
  | zero => rfl
  | succ k ih => rw [List.replicate_succ, List.flatten_cons, ih, List.replicate_succ]; rfl
theorem eqv_lst (a b : List Int) : PyData.eqv (.list (dInts a)) (.list (dInts b)) = decide (a = b) := by
  rw [PyData.eqv, eqv_dInts]
theorem stl_succ (ls : List Lk) (T : Int) (m : Nat) (h : List Int) (w : List (List Lk)) : stl ls T (m + 1) h w = if (rzs ls T h w).1 = h then .inl h else stl ls T m (rzs ls T h w).1 (rzs ls T h w).2 := rfl
theorem stl_zero (ls : List Lk) (T : Int) (h : List Int) (w : List (List Lk)) : stl ls T 0 h w = .inr w := rfl
def sx (fs : List Int) (k : Nat) : Int := if k ≤ fs.length then (fs.take k).sum else fs.sum + (fs.take (k - fs.length)).sum
theorem sx_succ {fs : List Int} {k : Nat} (h : k < 2 * fs.length) : sx fs (k + 1) = sx fs k + fs.getD (k % fs.length) 0 := by
  unfold sx
  rw [List.getD_eq_getElem?_getD]
  by_cases h1 : k + 1 ≤ fs.length
  · rw [if_pos h1, if_pos (by omega), take_sumP (by omega), Nat.mod_eq_of_lt (by omega), List.getElem?_eq_getElem (by omega)]
    rfl
  · by_cases h2 : k = fs.length
    · rw [if_neg h1, if_pos (by omega), h2, Nat.mod_self, show fs.length + 1 - fs.length = 0 + 1 by omega, take_sumP (by omega), List.getElem?_eq_getElem (by omega), List.take_of_length_le (Nat.le_refl _)]
      simp
    · rw [if_neg h1, if_neg (by omega), show k + 1 - fs.length = (k - fs.length) + 1 by omega, take_sumP (by omega), Nat.mod_eq_sub_mod (by omega), Nat.mod_eq_of_lt (by omega), List.getElem?_eq_getElem (by omega)]
      simp only [Option.getD_some]
      omega
theorem psum_sx {fs : List Int} {f : Nat} (hf : f < fs.length) : ∀ s, s ≤ fs.length → psum fs (f : Int) s = sx fs (f + s) - sx fs f
  | 0, _ => by simp [psum]
  | s + 1, h => by
    have ih := psum_sx hf s (by omega)
    show psum fs (f : Int) s + fs.getD (((f : Int) + (s : Int)) % (fs.length : Int)).toNat 0 = _
    have e : (((f : Int) + (s : Int)) % (fs.length : Int)).toNat = (f + s) % fs.length := by
      rw [← Int.natCast_add, ← Int.natCast_emod, Int.toNat_natCast]
    rw [ih, e, show f + (s + 1) = (f + s) + 1 by omega, sx_succ (by omega)]
    omega

/-! ### links of rules; heights and fillings -/
def bl (n p : Nat) : Lk := ⟨p, (p + 1) % n, 0, (((p + 1) / n : Nat) : Int), none⟩
def rl (n i : Nat) (r : R4) : List Lk := ⟨r.f.toNat, ((r.f + r.s) % (n : Int)).toNat, r.l, (r.f + r.s) / (n : Int), some (i, true)⟩ :: (match r.m with
  | none => []
  | some m => [⟨((r.f + r.s) % (n : Int)).toNat, r.f.toNat, -m, -((r.f + r.s) / (n : Int)), some (i, false)⟩])
def rls (n : Nat) (rs : List R4) : Nat → List Lk
  | 0 => []
  | j + 1 => rls n rs j ++ (match rs[j]? with
    | some r => rl n j r
    | none => [])
def lks (n : Nat) (rs : List R4) : List Lk := (List.range n).map (bl n) ++ rls n rs rs.length
theorem rls_mem {n : Nat} {rs : List R4} {l : Lk} : ∀ {j : Nat}, l ∈ rls n rs j ↔ ∃ i r, i < j ∧ rs[i]? = some r ∧ l ∈ rl n i r
  | 0 => by simp [rls]
  | j + 1 => by
    show l ∈ rls n rs j ++ _ ↔ _
    rw [List.mem_append, rls_mem]
    constructor
    · rintro (⟨i, r, h1, h2, h3⟩ | h)
      · exact ⟨i, r, by omega, h2, h3⟩
      · split at h
        · rename_i r hr
          exact ⟨j, r, by omega, hr, h⟩
        · simp at h
    · rintro ⟨i, r, h1, h2, h3⟩
      by_cases e : i = j
      · subst e
        rw [h2]
        exact .inr h3
      · exact .inl ⟨i, r, by omega, h2, h3⟩
theorem lks_mem {n : Nat} {rs : List R4} {l : Lk} : l ∈ lks n rs ↔ (∃ p, p < n ∧ l = bl n p) ∨ ∃ i r, rs[i]? = some r ∧ l ∈ rl n i r := by
  unfold lks
  rw [List.mem_append, rls_mem]
  constructor
  · rintro (h | ⟨i, r, _, h2, h3⟩)
    · obtain ⟨p, hp, rfl⟩ := List.mem_map.mp h
      exact .inl ⟨p, List.mem_range.mp hp, rfl⟩
    · exact .inr ⟨i, r, h2, h3⟩
  · rintro (⟨p, hp, rfl⟩ | ⟨i, r, h2, h3⟩)
    · exact .inl (List.mem_map.mpr ⟨p, List.mem_range.mpr hp, rfl⟩)
    · exact .inr ⟨i, r, (List.getElem?_eq_some_iff.mp h2).1, h2, h3⟩
/-- a rule's numbers as natural ones -/
theorem rule_nat {n : Nat} {r : R4} (h : r.Ok (n : Int)) : ∃ f s : Nat, r.f = (f : Int) ∧ r.s = (s : Int) ∧ f < n ∧ 1 ≤ s ∧ s ≤ n := by
  have h1 := h.f0
  have h2 := h.f1
  have h3 := h.s0
  have h4 := h.s1
  exact ⟨r.f.toNat, r.s.toNat, by omega, by omega, by omega, by omega, by omega⟩
theorem rl_nat {n i : Nat} {r : R4} {f s : Nat} (hf : r.f = (f : Int)) (hs : r.s = (s : Int)) {l : Lk} (h : l ∈ rl n i r) :
    l = ⟨f, (f + s) % n, r.l, (((f + s) / n : Nat) : Int), some (i, true)⟩ ∨ ∃ m, r.m = some m ∧ l = ⟨(f + s) % n, f, -m, -(((f + s) / n : Nat) : Int), some (i, false)⟩ := by
  unfold rl at h
  have e1 : ((r.f + r.s) % (n : Int)).toNat = (f + s) % n := by
    rw [hf, hs, ← Int.natCast_add, ← Int.natCast_emod, Int.toNat_natCast]
  have e2 : (r.f + r.s) / (n : Int) = (((f + s) / n : Nat) : Int) := by
    rw [hf, hs, ← Int.natCast_add, ← Int.natCast_ediv]
  have e3 : r.f.toNat = f := by rw [hf, Int.toNat_natCast]
  rw [e1, e2, e3] at h
  rcases List.mem_cons.mp h with h | h
  · exact .inl h
  · right
    split at h
    · simp at h
    · rename_i m hm
      exact ⟨m, hm, List.mem_singleton.mp h⟩
theorem lks_ok {n : Nat} {rs : List R4} (n0 : 0 < n) (hrs : ∀ r ∈ rs, r.Ok (n : Int)) : (∀ l ∈ lks n rs, l.s < n ∧ l.e < n) ∧ ∀ l ∈ lks n rs, -100 ≤ l.t ∧ l.t ≤ 100 := by
  have key : ∀ l ∈ lks n rs, (l.s < n ∧ l.e < n) ∧ (-100 ≤ l.t ∧ l.t ≤ 100) := fun l hl => by
    have dv : ∀ a : Nat, a < 2 * n → a / n ≤ 1 := fun a ha => by
      have := Nat.div_lt_of_lt_mul (m := a) (n := n) (k := 2) (by omega)
      omega
    rcases lks_mem.mp hl with ⟨p, hp, rfl⟩ | ⟨i, r, hr, hl⟩
    · have h1 := dv (p + 1) (by omega)
      refine ⟨⟨hp, Nat.mod_lt _ n0⟩, ?_⟩
      show (-100 : Int) ≤ (((p + 1) / n : Nat) : Int) ∧ (((p + 1) / n : Nat) : Int) ≤ 100
      generalize (p + 1) / n = q at h1 ⊢
      omega
    · obtain ⟨f, s, hf, hs, f1, s0, s1⟩ := rule_nat (hrs r (List.mem_of_getElem? hr))
      have h1 := dv (f + s) (by omega)
      rcases rl_nat hf hs hl with rfl | ⟨m, hm, rfl⟩
      · refine ⟨⟨f1, Nat.mod_lt _ n0⟩, ?_⟩
        show (-100 : Int) ≤ (((f + s) / n : Nat) : Int) ∧ (((f + s) / n : Nat) : Int) ≤ 100
        generalize (f + s) / n = q at h1 ⊢
        omega
      · refine ⟨⟨Nat.mod_lt _ n0, f1⟩, ?_⟩
        show (-100 : Int) ≤ -(((f + s) / n : Nat) : Int) ∧ -(((f + s) / n : Nat) : Int) ≤ 100
        generalize (f + s) / n = q at h1 ⊢
        omega
  exact ⟨fun l hl => (key l hl).1, fun l hl => (key l hl).2⟩
/-- sums of counts by heights -/
theorem cof_getD {h : List Int} {T : Int} {n k : Nat} (hl : h.length = n) (hk : k < n) : (cof h T).getD k 0 = h.getD ((k + 1) % n) 0 + (((k + 1) / n : Nat) : Int) * T - h.getD k 0 := by
  unfold cof
  rw [List.getD_eq_getElem?_getD, List.getElem?_zipWith, List.getElem?_eq_getElem (by omega : k < h.length)]
  have e : h.getD k 0 = h[k]'(by omega) := getD_el (by omega)
  rw [e]
  by_cases hx : k + 1 < n
  · rw [List.getElem?_append_left (by rw [List.length_drop]; omega), List.getElem?_drop, Nat.add_comm 1 k, List.getElem?_eq_getElem (by omega), Nat.mod_eq_of_lt hx, Nat.div_eq_of_lt hx, getD_el (by omega)]
    simp
  · have en : k + 1 = n := by omega
    rw [List.getElem?_append_right (by rw [List.length_drop]; omega), List.length_drop, show k - (h.length - 1) = 0 by omega, en, Nat.mod_self, Nat.div_self (by omega)]
    have : h.headD 0 = h.getD 0 0 := by cases h <;> rfl
    rw [this]
    simp
theorem sx_cof {h : List Int} {T : Int} {n : Nat} (n0 : 0 < n) (hl : h.length = n) : ∀ k, k ≤ 2 * n → sx (cof h T) k = h.getD (k % n) 0 + ((k / n : Nat) : Int) * T - h.getD 0 0
  | 0, _ => by
    rw [Nat.zero_mod, Nat.zero_div]
    simp [sx]
  | k + 1, hk => by
    have hc : (cof h T).length = n := by rw [cof_len (by omega), hl]
    have hm := Nat.mod_lt k n0
    rw [sx_succ (by rw [hc]; omega), sx_cof n0 hl k (by omega), hc, cof_getD hl hm]
    have e1 : (k % n + 1) % n = (k + 1) % n := by simp [Nat.add_mod]
    have e2 : k / n + (k % n + 1) / n = (k + 1) / n := by
      have hdm := Nat.div_add_mod k n
      have : k + 1 = n * (k / n) + (k % n + 1) := by omega
      rw [this, Nat.mul_add_div n0]
    rw [e1, ← e2, Int.natCast_add, Int.add_mul]
    omega
theorem psum_cof {h : List Int} {T : Int} {n f s : Nat} (n0 : 0 < n) (hl : h.length = n) (hf : f < n) (hs : s ≤ n) : psum (cof h T) (f : Int) s = h.getD ((f + s) % n) 0 + (((f + s) / n : Nat) : Int) * T - h.getD f 0 := by
  have hc : (cof h T).length = n := by rw [cof_len (by omega), hl]
  rw [psum_sx (by omega) s (by omega), sx_cof n0 hl _ (by omega), sx_cof n0 hl _ (by omega), Nat.mod_eq_of_lt hf, Nat.div_eq_of_lt hf]
  simp
  omega
theorem cof_sum {h : List Int} {T : Int} {n : Nat} (n0 : 0 < n) (hl : h.length = n) : (cof h T).sum = T := by
  have hc : (cof h T).length = n := by rw [cof_len (by omega), hl]
  have := sx_cof (T := T) n0 hl n (by omega)
  rw [Nat.mod_self, Nat.div_self n0] at this
  unfold sx at this
  rw [if_pos (by omega), List.take_of_length_le (by omega)] at this
  simp at this
  omega
structure Fit (n : Nat) (rs : List R4) (fs : List Int) : Prop where
  len : fs.length = n
  nn : ∀ x ∈ fs, 0 ≤ x
  ft : ∀ r ∈ rs, fitR fs r
theorem fit_of_heights {n : Nat} {rs : List R4} {h : List Int} {T : Int} (n0 : 0 < n) (hrs : ∀ r ∈ rs, r.Ok (n : Int)) (hl : h.length = n) (hh : ∀ l ∈ lks n rs, h.getD l.s 0 + cl T l ≤ h.getD l.e 0) : Fit n rs (cof h T) := by
  have hc : (cof h T).length = n := by rw [cof_len (by omega), hl]
  refine ⟨hc, fun x hx => ?_, fun r hr => ?_⟩
  · obtain ⟨k, hk, rfl⟩ := List.getElem_of_mem hx
    rw [← getD_el (d := 0) hk, cof_getD hl (by omega)]
    have := hh (bl n k) (lks_mem.mpr (.inl ⟨k, by omega, rfl⟩))
    simp only [bl, cl] at this
    omega
  · obtain ⟨i, hi⟩ := List.getElem?_of_mem hr
    obtain ⟨f, s, hf, hs, f1, s0, s1⟩ := rule_nat (hrs r hr)
    have e : psum (cof h T) r.f r.s.toNat = h.getD ((f + s) % n) 0 + (((f + s) / n : Nat) : Int) * T - h.getD f 0 := by
      rw [hf, hs, Int.toNat_natCast, psum_cof n0 hl f1 s1]
    have e1 : ((r.f + r.s) % (n : Int)).toNat = (f + s) % n := by
      rw [hf, hs, ← Int.natCast_add, ← Int.natCast_emod, Int.toNat_natCast]
    have e2 : (r.f + r.s) / (n : Int) = (((f + s) / n : Nat) : Int) := by
      rw [hf, hs, ← Int.natCast_add, ← Int.natCast_ediv]
    have e3 : r.f.toNat = f := by rw [hf, Int.toNat_natCast]
    refine ⟨?_, fun m hm => ?_⟩
    · have := hh ⟨f, (f + s) % n, r.l, (((f + s) / n : Nat) : Int), some (i, true)⟩ (lks_mem.mpr (.inr ⟨i, r, hi, by unfold rl; rw [e1, e2, e3]; exact List.mem_cons_self⟩))
      simp only [cl] at this
      rw [e]
      omega
    · have := hh ⟨(f + s) % n, f, -m, -(((f + s) / n : Nat) : Int), some (i, false)⟩ (lks_mem.mpr (.inr ⟨i, r, hi, by unfold rl; rw [e1, e2, e3, hm]; exact List.mem_cons_of_mem _ List.mem_cons_self⟩))
      simp only [cl, Int.neg_mul] at this
      rw [e]
      omega
theorem sx_mod {fs : List Int} {n k : Nat} (hl : fs.length = n) (n0 : 0 < n) (hk : k < 2 * n) : sx fs k = (fs.take (k % n)).sum + ((k / n : Nat) : Int) * fs.sum := by
  unfold sx
  rw [hl]
  by_cases h1 : k < n
  · rw [if_pos (by omega), Nat.mod_eq_of_lt h1, Nat.div_eq_of_lt h1]
    simp
  · by_cases h2 : k = n
    · rw [if_pos (by omega), h2, Nat.mod_self, Nat.div_self n0, List.take_of_length_le (by omega)]
      simp
    · have e1 : k % n = k - n := by rw [Nat.mod_eq_sub_mod (by omega), Nat.mod_eq_of_lt (by omega)]
      have e2 : k / n = 1 := by
        have := Nat.div_lt_of_lt_mul (m := k) (n := n) (k := 2) (by omega)
        have := Nat.div_pos (a := k) (b := n) (by omega) n0
        omega
      rw [if_neg (by omega), e1, e2]
      simp
      omega
theorem psum_mod {fs : List Int} {n f s : Nat} (hl : fs.length = n) (n0 : 0 < n) (hf : f < n) (hs : s ≤ n) : psum fs (f : Int) s = (fs.take ((f + s) % n)).sum + (((f + s) / n : Nat) : Int) * fs.sum - (fs.take f).sum := by
  rw [psum_sx (by omega) s (by omega), sx_mod hl n0 (by omega), sx_mod hl n0 (by omega), Nat.mod_eq_of_lt hf, Nat.div_eq_of_lt hf]
  simp
theorem heights_of_fit {n : Nat} {rs : List R4} {fs : List Int} (n0 : 0 < n) (hrs : ∀ r ∈ rs, r.Ok (n : Int)) (F : Fit n rs fs) : ∀ l ∈ lks n rs, (fs.take l.s).sum + cl fs.sum l ≤ (fs.take l.e).sum := fun l hl => by
  have hlen := F.len
  rcases lks_mem.mp hl with ⟨p, hp, rfl⟩ | ⟨i, r, hr, hl⟩
  · have h1 := psum_mod (s := 1) hlen n0 hp (by omega)
    have h2 : 0 ≤ psum fs (p : Int) 1 := by
      show 0 ≤ psum fs (p : Int) 0 + fs.getD (((p : Int) + ((0 : Nat) : Int)) % (fs.length : Int)).toNat 0
      have e : (((p : Int) + ((0 : Nat) : Int)) % (fs.length : Int)).toNat = p := by
        rw [Int.natCast_zero, Int.add_zero, ← Int.natCast_emod, Int.toNat_natCast, Nat.mod_eq_of_lt (by omega)]
      rw [e, getD_el (by omega)]
      have := F.nn _ (List.getElem_mem (by omega : p < fs.length))
      simp only [psum]
      omega
    show (fs.take p).sum + (0 - (((p + 1) / n : Nat) : Int) * fs.sum) ≤ (fs.take ((p + 1) % n)).sum
    omega
  · have hm := List.mem_of_getElem? hr
    obtain ⟨f, s, hf, hs, f1, s0, s1⟩ := rule_nat (hrs r hm)
    have h1 := psum_mod hlen n0 f1 s1
    obtain ⟨q1, q2⟩ := F.ft r hm
    rw [hf, hs, Int.toNat_natCast] at q1 q2
    rcases rl_nat hf hs hl with rfl | ⟨m, hm, rfl⟩
    · show (fs.take f).sum + (r.l - (((f + s) / n : Nat) : Int) * fs.sum) ≤ (fs.take ((f + s) % n)).sum
      omega
    · have := q2 m hm
      show (fs.take ((f + s) % n)).sum + (-m - -(((f + s) / n : Nat) : Int) * fs.sum) ≤ (fs.take f).sum
      rw [Int.neg_mul]
      omega
/-! ### what settle finds -/
abbrev stl0 (n : Nat) (ls : List Lk) (T : Int) : (List Int) ⊕ (List (List Lk)) := stl ls T n (List.replicate n 0) (List.replicate n [])
theorem stl_inl {n : Nat} {ls : List Lk} {T : Int} (hls : ∀ l ∈ ls, l.s < n ∧ l.e < n) {h : List Int} (e : stl0 n ls T = .inl h) : h.length = n ∧ ∀ l ∈ ls, h.getD l.s 0 + cl T l ≤ h.getD l.e 0 := by
  have := stl_ok hls n 0 _ _ (rd_zero ls T n) (.inl rfl)
  have e : stl ls T n (List.replicate n 0) (List.replicate n []) = .inl h := e
  rw [e] at this
  exact this
theorem stl_inr {n : Nat} {ls : List Lk} {T : Int} (n0 : 0 < n) (hls : ∀ l ∈ ls, l.s < n ∧ l.e < n) {w : List (List Lk)} (e : stl0 n ls T = .inr w) : Lp ls T (fl [] (lng w)) := by
  have := stl_ok hls n 0 _ _ (rd_zero ls T n) (.inl rfl)
  have e : stl ls T n (List.replicate n 0) (List.replicate n []) = .inr w := e
  rw [e, Nat.zero_add] at this
  obtain ⟨h, R, z | ⟨v, hv, hl⟩⟩ := this
  · omega
  · have hwl := R.wl
    unfold lng
    have hlt : lenB (w.map fun u => u.map lkD) < w.length := by
      have := lenB_lt (tss := w.map fun u => u.map lkD) (by rw [List.length_map]; omega)
      simpa using this
    have hmx : (w.getD v []).length ≤ (w.getD (lenB (w.map fun u => u.map lkD)) []).length := by
      have hmx := lenB_max (tss := w.map fun u => u.map lkD) (j := v) (by rw [List.length_map]; omega)
      have e1 : ∀ k, ((w.map fun u => u.map lkD).getD k []).length = (w.getD k []).length := fun k => by
        by_cases hk : k < w.length <;> simp [List.getD, hk]
      rw [e1, e1] at hmx
      exact hmx
    have hle := (R.wk (lenB (w.map fun u => u.map lkD)) (by omega)).2.2
    exact loop_ok n0 hls R (v := lenB (w.map fun u => u.map lkD)) (by omega) (by omega)
/-- the loop that excludes a total -/
def loopT (n : Nat) (ls : List Lk) (T : Int) : Option (List Lk) := match stl0 n ls T with
  | .inl _ => none
  | .inr w => some (fl [] (lng w))

end RW
namespace RW
open PySem PySem.Spec PyProof.Rows L2 DL
theorem perm_sum {a b : List Int} (h : a.Perm b) : a.sum = b.sum := by
  induction h with
  | nil => rfl
  | cons x _ ih => rw [List.sum_cons, List.sum_cons, ih]
  | swap x y l => rw [List.sum_cons, List.sum_cons, List.sum_cons, List.sum_cons]; omega
  | trans _ _ ih1 ih2 => exact ih1.trans ih2

/-! ### the two searches -/
def lowS (f : Int → Bool) (lo hi : Int) : Int := if h : lo < hi then (if f ((lo + hi) / 2) = true then lowS f ((lo + hi) / 2 + 1) hi else lowS f lo ((lo + hi) / 2)) else lo
termination_by (hi - lo).toNat
decreasing_by all_goals omega
def highS (f : Int → Bool) (lo hi : Int) : Int := if h : lo < hi then (if f ((lo + hi + 1) / 2) = true then highS f ((lo + hi + 1) / 2) hi else highS f lo ((lo + hi + 1) / 2 - 1)) else lo
termination_by (hi - lo).toNat
decreasing_by all_goals omega
theorem lowS_ok {f : Int → Bool} (A B : Int → Prop) (hA : ∀ m, f m = true → A (m + 1)) (hB : ∀ m, f m = false → B m) (lo hi : Int) (h : lo ≤ hi) (a : A lo) (b : B hi) : A (lowS f lo hi) ∧ B (lowS f lo hi) ∧ lo ≤ lowS f lo hi ∧ lowS f lo hi ≤ hi := by
  rw [lowS]
  split
  · split
    · rename_i h1 h2
      have := lowS_ok A B hA hB ((lo + hi) / 2 + 1) hi (by omega) (hA _ h2) b
      exact ⟨this.1, this.2.1, by omega, by omega⟩
    · rename_i h1 h2
      have := lowS_ok A B hA hB lo ((lo + hi) / 2) (by omega) a (hB _ (by simpa using h2))
      exact ⟨this.1, this.2.1, by omega, by omega⟩
  · have e : lo = hi := by omega
    subst e
    exact ⟨a, b, Int.le_refl _, Int.le_refl _⟩
termination_by (hi - lo).toNat
decreasing_by all_goals omega
theorem highS_ok {f : Int → Bool} (A B : Int → Prop) (hA : ∀ m, f m = true → A m) (hB : ∀ lo m, A lo → lo < m → f m = false → B (m - 1)) (lo hi : Int) (h : lo ≤ hi) (a : A lo) (b : B hi) : A (highS f lo hi) ∧ B (highS f lo hi) ∧ lo ≤ highS f lo hi ∧ highS f lo hi ≤ hi := by
  rw [highS]
  split
  · split
    · rename_i h1 h2
      have := highS_ok A B hA hB ((lo + hi + 1) / 2) hi (by omega) (hA _ h2) b
      exact ⟨this.1, this.2.1, by omega, by omega⟩
    · rename_i h1 h2
      have := highS_ok A B hA hB lo ((lo + hi + 1) / 2 - 1) (by omega) a (hB lo _ a (by omega) (by simpa using h2))
      exact ⟨this.1, this.2.1, by omega, by omega⟩
  · have e : lo = hi := by omega
    subst e
    exact ⟨a, b, Int.le_refl _, Int.le_refl _⟩
termination_by (hi - lo).toNat
decreasing_by all_goals omega
/-! ### sums -/
theorem sum_le {α : Type} {u v : α → Int} : ∀ {l : List α}, (∀ k ∈ l, u k ≤ v k) → (l.map u).sum ≤ (l.map v).sum
  | [], _ => Int.le_refl _
  | a :: l, h => by
    have := sum_le (fun k hk => h k (List.mem_cons_of_mem _ hk))
    have := h a List.mem_cons_self
    simp only [List.map_cons, List.sum_cons]
    omega
theorem sum_nn {α : Type} {u : α → Int} {l : List α} (h : ∀ k ∈ l, 0 ≤ u k) : 0 ≤ (l.map u).sum := by
  have := sum_le (u := fun _ => 0) (v := u) h
  have e : (l.map fun _ => (0 : Int)).sum = 0 := by
    clear this h
    induction l with
    | nil => rfl
    | cons a l ih => simpa using ih
  omega
theorem nodup_sum {f : Nat → Int} (hf : ∀ i, 0 ≤ f i) : ∀ (m : Nat) (l : List Nat), l.Nodup → (∀ x ∈ l, x < m) → (l.map f).sum ≤ ((List.range m).map f).sum
  | 0, l, _, h => by
    cases l with
    | nil => exact Int.le_refl _
    | cons a l => exact absurd (h a List.mem_cons_self) (by omega)
  | m + 1, l, hd, h => by
    rw [List.range_succ, List.map_append, List.sum_append]
    simp only [List.map_cons, List.map_nil, List.sum_cons, List.sum_nil]
    have h0 := hf m
    by_cases hm : m ∈ l
    · have hp := List.perm_cons_erase hm
      have e : (l.map f).sum = f m + ((l.erase m).map f).sum := by
        have := perm_sum (hp.map f)
        simpa using this
      have := nodup_sum hf m (l.erase m) (hd.erase _) fun x hx => by
        have hx' := (List.Nodup.mem_erase_iff hd).mp hx
        have := h x hx'.2
        have := hx'.1
        omega
      omega
    · have := nodup_sum hf m l hd fun x hx => by
        have := h x hx
        have : x ≠ m := fun z => hm (z ▸ hx)
        omega
      omega
/-! ### loops of rules -/
def leastSum (rs : List R4) : Int := (rs.map fun r => r.l).sum
def mostSum (rs : List R4) : Int := (rs.filterMap fun r => r.m).sum
/-- the indexes of a side -/
def lbs (b : Bool) (l : Lk) : Option Nat := match l.lb with
  | some (i, c) => if c = b then some i else none
  | none => none
def ixs (b : Bool) (L : List Lk) : List Nat := L.filterMap (lbs b)
theorem lbs_some {b : Bool} {l : Lk} {i : Nat} : lbs b l = some i ↔ l.lb = some (i, b) := by
  unfold lbs
  constructor
  · intro h
    split at h
    · rename_i j c e
      split at h
      · rename_i hc
        cases h
        rw [e, hc]
      · cases h
    · cases h
  · intro h
    rw [h]
    simp
theorem ixs_some {b : Bool} {l : Lk} {L : List Lk} {i : Nat} (h : l.lb = some (i, b)) : ixs b (l :: L) = i :: ixs b L := by
  unfold ixs
  rw [List.filterMap_cons, lbs_some.mpr h]
theorem ixs_none {b : Bool} {l : Lk} {L : List Lk} (h : ∀ i, l.lb ≠ some (i, b)) : ixs b (l :: L) = ixs b L := by
  unfold ixs
  rw [List.filterMap_cons]
  cases e : lbs b l with
  | none => rfl
  | some i => exact absurd (lbs_some.mp e) (h i)
theorem ixs_mem {b : Bool} {L : List Lk} {i : Nat} : i ∈ ixs b L ↔ ∃ l ∈ L, l.lb = some (i, b) := by
  unfold ixs
  rw [List.mem_filterMap]
  constructor
  · rintro ⟨l, hl, h⟩
    exact ⟨l, hl, lbs_some.mp h⟩
  · rintro ⟨l, hl, h⟩
    exact ⟨l, hl, lbs_some.mpr h⟩
theorem lks_lb {n : Nat} {rs : List R4} {l l' : Lk} (h : l ∈ lks n rs) (h' : l' ∈ lks n rs) {i : Nat} {b : Bool} (e : l.lb = some (i, b)) (e' : l'.lb = some (i, b)) : l = l' := by
  have key : ∀ {x : Lk}, x ∈ lks n rs → x.lb = some (i, b) → ∃ r, rs[i]? = some r ∧ x ∈ rl n i r := fun {x} hx ex => by
    rcases lks_mem.mp hx with ⟨p, hp, rfl⟩ | ⟨j, r, hr, hl⟩
    · cases ex
    · have hj : j = i := by
        unfold rl at hl
        rcases List.mem_cons.mp hl with hl | hl
        · rw [hl] at ex
          cases ex
          rfl
        · split at hl
          · simp at hl
          · rw [List.mem_singleton.mp hl] at ex
            cases ex
            rfl
      subst hj
      exact ⟨r, hr, hl⟩
  obtain ⟨r, hr, h1⟩ := key h e
  obtain ⟨r', hr', h2⟩ := key h' e'
  rw [hr] at hr'
  cases hr'
  unfold rl at h1 h2
  cases hmm : r.m with
  | none =>
    simp only [hmm, List.mem_singleton] at h1 h2
    rw [h1, h2]
  | some m =>
    simp only [hmm, List.mem_cons, List.not_mem_nil, or_false] at h1 h2
    rcases h1 with h1 | h1 <;> rcases h2 with h2 | h2
    · rw [h1, h2]
    · rw [h1] at e
      rw [h2] at e'
      cases e
      cases e'
    · rw [h2] at e'
      rw [h1] at e
      cases e
      cases e'
    · rw [h1, h2]
theorem ixs_nodup {n : Nat} {rs : List R4} {b : Bool} : ∀ {L : List Lk}, (∀ l ∈ L, l ∈ lks n rs) → (L.map fun l => l.s).Nodup → (ixs b L).Nodup
  | [], _, _ => List.nodup_nil
  | l :: L, hm, hd => by
    rw [List.map_cons, List.nodup_cons] at hd
    have ih := ixs_nodup (b := b) (fun x hx => hm x (List.mem_cons_of_mem _ hx)) hd.2
    by_cases hl : ∃ i, l.lb = some (i, b)
    · obtain ⟨i, el⟩ := hl
      rw [ixs_some el]
      refine List.nodup_cons.mpr ⟨fun hx => ?_, ih⟩
      obtain ⟨l', hl', e'⟩ := ixs_mem.mp hx
      have := lks_lb (hm l List.mem_cons_self) (hm l' (List.mem_cons_of_mem _ hl')) el e'
      subst this
      exact hd.1 (List.mem_map.mpr ⟨l, hl', rfl⟩)
    · rw [ixs_none fun i z => hl ⟨i, z⟩]
      exact ih
theorem ixs_lt {n : Nat} {rs : List R4} {b : Bool} {L : List Lk} (hm : ∀ l ∈ L, l ∈ lks n rs) {i : Nat} (h : i ∈ ixs b L) : i < rs.length ∧ (b = false → ∃ r m, rs[i]? = some r ∧ r.m = some m) := by
  obtain ⟨l, hl, e⟩ := ixs_mem.mp h
  rcases lks_mem.mp (hm l hl) with ⟨p, hp, rfl⟩ | ⟨j, r, hr, hl⟩
  · cases e
  · unfold rl at hl
    rcases List.mem_cons.mp hl with hl | hl
    · rw [hl] at e
      cases e
      exact ⟨(List.getElem?_eq_some_iff.mp hr).1, fun z => by cases z⟩
    · split at hl
      · simp at hl
      · rename_i m hmm
        rw [List.mem_singleton.mp hl] at e
        cases e
        exact ⟨(List.getElem?_eq_some_iff.mp hr).1, fun _ => ⟨r, m, hr, hmm⟩⟩
theorem ixs_len (b : Bool) (L : List Lk) : (ixs b L).length ≤ L.length := List.length_filterMap_le _ _
/-- a loop's gain: the leasts less the mosts -/
theorem gns_eq {n : Nat} {rs : List R4} : ∀ {L : List Lk}, (∀ l ∈ L, l ∈ lks n rs) → gns L = ((ixs true L).map fun i => (rs.getD i ⟨0, 0, 0, none⟩).l).sum - ((ixs false L).map fun i => ((rs.getD i ⟨0, 0, 0, none⟩).m.getD 0)).sum
  | [], _ => rfl
  | l :: L, hm => by
    have ih := gns_eq (fun x hx => hm x (List.mem_cons_of_mem _ hx))
    have eg : gns (l :: L) = l.g + gns L := by simp [gns]
    rw [eg, ih]
    rcases lks_mem.mp (hm l List.mem_cons_self) with ⟨p, hp, rfl⟩ | ⟨j, r, hr, hl⟩
    · rw [ixs_none (fun i z => by cases z), ixs_none (fun i z => by cases z)]
      show (0 : Int) + _ = _
      omega
    · have er : rs.getD j ⟨0, 0, 0, none⟩ = r := by rw [List.getD_eq_getElem?_getD, hr]; rfl
      unfold rl at hl
      rcases List.mem_cons.mp hl with hl | hl
      · rw [hl, ixs_some rfl, ixs_none (fun i z => by cases z), List.map_cons, List.sum_cons, er]
        show r.l + _ = _
        omega
      · split at hl
        · simp at hl
        · rename_i m hmm
          rw [List.mem_singleton.mp hl, ixs_none (fun i z => by cases z), ixs_some rfl, List.map_cons, List.sum_cons, er, hmm]
          show -m + _ = _
          show -m + _ = _ - (m + _)
          omega
theorem gns_le {n : Nat} {rs : List R4} {T : Int} {L : List Lk} (hrs : ∀ r ∈ rs, r.Ok (n : Int)) (P : Lp (lks n rs) T L) : gns L ≤ leastSum rs := by
  rw [gns_eq P.mem]
  have h1 : 0 ≤ ((ixs false L).map fun i => ((rs.getD i ⟨0, 0, 0, none⟩).m.getD 0)).sum := sum_nn fun i hi => by
    obtain ⟨_, h⟩ := ixs_lt P.mem hi
    obtain ⟨r, m, hr, hm⟩ := h rfl
    have er : rs.getD i ⟨0, 0, 0, none⟩ = r := by rw [List.getD_eq_getElem?_getD, hr]; rfl
    rw [er, hm]
    exact ((hrs r (List.mem_of_getElem? hr)).m0 m hm).1
  have h0 : ∀ i, 0 ≤ (rs.getD i ⟨0, 0, 0, none⟩).l := fun i => by
    rw [List.getD_eq_getElem?_getD]
    cases h : rs[i]? with
    | none => exact Int.le_refl _
    | some r => exact (hrs r (List.mem_of_getElem? h)).l0
  have h2 := nodup_sum h0 rs.length (ixs true L) (ixs_nodup P.mem P.nd) fun x hx => (ixs_lt P.mem hx).1
  have e : (List.range rs.length).map (fun i => (rs.getD i ⟨0, 0, 0, none⟩).l) = rs.map fun r => r.l := by
    refine List.ext_getElem (by simp) fun i h1 h2 => ?_
    have : i < rs.length := by simpa using h1
    simp [List.getD, this]
  rw [e] at h2
  unfold leastSum
  omega

/-! ### the totals -/
def lackB (n : Nat) (rs : List R4) (p : Nat) : Bool := rs.all fun r => r.m.isNone || !decide (((p : Int) - r.f) % (n : Int) < r.s)
theorem range_sum (fs : List Int) : ((List.range fs.length).map fun p => fs.getD p 0).sum = fs.sum := by
  congr 1
  refine List.ext_getElem (by simp) fun i h1 h2 => ?_
  have : i < fs.length := by simpa using h1
  simp [List.getD, this]
theorem most_le {n : Nat} {fs : List Int} (n0 : 0 < n) (hl : fs.length = n) (nn : ∀ x ∈ fs, 0 ≤ x) : ∀ {rs : List R4}, (∀ r ∈ rs, r.Ok (n : Int)) → (∀ r ∈ rs, fitR fs r) → ((List.range n).map fun p => if lackB n rs p = true then 0 else fs.getD p 0).sum ≤ mostSum rs
  | [], _, _ => by
    have e : (List.range n).map (fun p => if lackB n [] p = true then (0 : Int) else fs.getD p 0) = (List.range n).map fun _ => (0 : Int) := List.map_congr_left fun p _ => rfl
    rw [e]
    have := sum_le (u := fun _ : Nat => (0 : Int)) (v := fun _ => 0) (l := List.range n) fun _ _ => Int.le_refl _
    have z : ∀ m : Nat, ((List.range m).map fun _ => (0 : Int)).sum = 0 := fun m => by
      induction m with
      | zero => rfl
      | succ m ih => rw [List.range_succ, List.map_append, List.sum_append, ih]; rfl
    rw [z]
    exact Int.le_refl _
  | r :: rs, hok, hft => by
    have ih := most_le n0 hl nn (rs := rs) (fun x hx => hok x (List.mem_cons_of_mem _ hx)) (fun x hx => hft x (List.mem_cons_of_mem _ hx))
    have g0 : ∀ p, 0 ≤ fs.getD p 0 := fun p => by
      rw [List.getD_eq_getElem?_getD]
      cases h : fs[p]? with
      | none => exact Int.le_refl _
      | some x => exact nn x (List.mem_of_getElem? h)
    cases hm : r.m with
    | none =>
      have e1 : mostSum (r :: rs) = mostSum rs := by simp [mostSum, hm]
      have e2 : ∀ p, lackB n (r :: rs) p = lackB n rs p := fun p => by simp [lackB, hm]
      simp only [e1, e2]
      exact ih
    | some m =>
      have e1 : mostSum (r :: rs) = m + mostSum rs := by simp [mostSum, hm]
      have ok := hok r List.mem_cons_self
      have o1 := ok.f0
      have o2 := ok.f1
      have o3 := ok.s0
      have o4 := ok.s1
      have hw := (hft r List.mem_cons_self).2 m hm
      rw [sums_same (by omega) (by omega) (by omega) (by omega), wsum_eq, hl] at hw
      have hs : ((List.range n).map fun p => if lackB n (r :: rs) p = true then (0 : Int) else fs.getD p 0).sum ≤ ((List.range n).map fun p => (if covN n r.f r.s p = true then fs.getD p 0 else 0) + (if lackB n rs p = true then 0 else fs.getD p 0)).sum := sum_le fun p _ => by
        have gp := g0 p
        have e2 : lackB n (r :: rs) p = (!covN n r.f r.s p && lackB n rs p) := by
          simp [lackB, hm, covN]
        rw [e2]
        generalize fs.getD p 0 = y at gp ⊢
        cases covN n r.f r.s p <;> cases lackB n rs p <;> simp <;> omega
      rw [sum_add] at hs
      rw [e1]
      omega
theorem fit_le_most {n : Nat} {rs : List R4} {fs : List Int} (n0 : 0 < n) (hrs : ∀ r ∈ rs, r.Ok (n : Int)) (F : Fit n rs fs) (hc : ∀ p, p < n → lackB n rs p = false) : fs.sum ≤ mostSum rs := by
  have := most_le n0 F.len F.nn hrs F.ft
  rw [← range_sum fs, F.len]
  refine Int.le_trans (sum_le fun p hp => ?_) this
  rw [hc p (List.mem_range.mp hp)]
  exact Int.le_refl _
theorem loop_none {n : Nat} {rs : List R4} {T : Int} (n0 : 0 < n) (hrs : ∀ r ∈ rs, r.Ok (n : Int)) (h : loopT n (lks n rs) T = none) : ∃ hs, stl0 n (lks n rs) T = .inl hs ∧ hs.length = n ∧ Fit n rs (cof hs T) ∧ (cof hs T).sum = T := by
  unfold loopT at h
  split at h
  · rename_i hs e
    obtain ⟨h1, h2⟩ := stl_inl (lks_ok n0 hrs).1 e
    exact ⟨hs, e, h1, fit_of_heights n0 hrs h1 h2, cof_sum n0 h1⟩
  · cases h
theorem loop_some {n : Nat} {rs : List R4} {T : Int} {L : List Lk} (n0 : 0 < n) (hrs : ∀ r ∈ rs, r.Ok (n : Int)) (h : loopT n (lks n rs) T = some L) : ∃ w, stl0 n (lks n rs) T = .inr w ∧ L = fl [] (lng w) ∧ Lp (lks n rs) T L := by
  unfold loopT at h
  split at h
  · cases h
  · rename_i w e
    cases h
    exact ⟨w, e, rfl, stl_inr n0 (lks_ok n0 hrs).1 e⟩
theorem loop_fit {n : Nat} {rs : List R4} {T : Int} {L : List Lk} {fs : List Int} (n0 : 0 < n) (hrs : ∀ r ∈ rs, r.Ok (n : Int)) (P : Lp (lks n rs) T L) (F : Fit n rs fs) : gns L ≤ tns L * fs.sum ∧ tns L * T < gns L :=
  P.bound (H := fun k => (fs.take k).sum) (heights_of_fit n0 hrs F)
def tooLow (n : Nat) (ls : List Lk) (T : Int) : Bool := match loopT n ls T with
  | some L => decide (0 < tns L)
  | none => false
def feasB (n : Nat) (ls : List Lk) (T : Int) : Bool := (loopT n ls T).isNone
def lowP (n : Nat) (rs : List R4) : Int := lowS (tooLow n (lks n rs)) 0 (leastSum rs)
def highP (n : Nat) (rs : List R4) (lo : Int) : Int := highS (feasB n (lks n rs)) lo (mostSum rs)
theorem fit_sum {n : Nat} {rs : List R4} {fs : List Int} (F : Fit n rs fs) : 0 ≤ fs.sum := by
  have := sum_nn (u := fun x : Int => x) (l := fs) F.nn
  simpa using this
theorem low_ok {n : Nat} {rs : List R4} (n0 : 0 < n) (hrs : ∀ r ∈ rs, r.Ok (n : Int)) : (∀ fs, Fit n rs fs → lowP n rs ≤ fs.sum) ∧ tooLow n (lks n rs) (lowP n rs) = false ∧ 0 ≤ lowP n rs ∧ lowP n rs ≤ leastSum rs := by
  have l0 : 0 ≤ leastSum rs := sum_nn fun r hr => (hrs r hr).l0
  refine lowS_ok (fun T => ∀ fs, Fit n rs fs → T ≤ fs.sum) (fun T => tooLow n (lks n rs) T = false) (fun m hm fs F => ?_) (fun m hm => hm) 0 (leastSum rs) l0 (fun fs F => fit_sum F) ?_
  · unfold tooLow at hm
    split at hm
    · rename_i L e
      have ht : 0 < tns L := by simpa using hm
      obtain ⟨_, _, _, P⟩ := loop_some n0 hrs e
      obtain ⟨h1, h2⟩ := loop_fit n0 hrs P F
      have : tns L * m < tns L * fs.sum := by omega
      have := Int.lt_of_mul_lt_mul_left this (by omega)
      omega
    · cases hm
  · unfold tooLow
    split
    · rename_i L e
      obtain ⟨_, _, _, P⟩ := loop_some n0 hrs e
      have h1 := gns_le hrs P
      have h2 := P.up
      rw [cls_eq] at h2
      refine decide_eq_false fun ht => ?_
      have : 1 * leastSum rs ≤ tns L * leastSum rs := Int.mul_le_mul_of_nonneg_right (by omega) l0
      omega
    · rfl
theorem mul_lt_neg {t a b : Int} (ht : t < 0) (h : t * a < t * b) : b < a := by
  have h' : -t * b < -t * a := by rw [Int.neg_mul, Int.neg_mul]; omega
  exact Int.lt_of_mul_lt_mul_left h' (by omega)
theorem neg_of {t a b : Int} (h : a < b) (ht : t * b < t * a) : t < 0 := by
  apply Classical.byContradiction
  intro hc
  have : t * a ≤ t * b := Int.mul_le_mul_of_nonneg_left (by omega) (by omega)
  omega
theorem high_ok {n : Nat} {rs : List R4} {lo : Int} (n0 : 0 < n) (hrs : ∀ r ∈ rs, r.Ok (n : Int)) (hc : ∀ p, p < n → lackB n rs p = false) (hlo : ∃ fs, Fit n rs fs ∧ fs.sum = lo) :
    (∃ fs, Fit n rs fs ∧ fs.sum = highP n rs lo) ∧ (∀ fs, Fit n rs fs → fs.sum ≤ highP n rs lo) ∧ lo ≤ highP n rs lo := by
  have hle : lo ≤ mostSum rs := by
    obtain ⟨fs, F, e⟩ := hlo
    rw [← e]
    exact fit_le_most n0 hrs F hc
  have := highS_ok (f := feasB n (lks n rs)) (fun T => ∃ fs, Fit n rs fs ∧ fs.sum = T) (fun T => ∀ fs, Fit n rs fs → fs.sum ≤ T) (fun m hm => ?_) (fun l m hl hlm hm fs F => ?_) lo (mostSum rs) hle hlo (fun fs F => fit_le_most n0 hrs F hc)
  · exact ⟨this.1, this.2.1, this.2.2.1⟩
  · unfold feasB at hm
    obtain ⟨hs, _, _, F, e⟩ := loop_none n0 hrs (Option.isNone_iff_eq_none.mp hm)
    exact ⟨_, F, e⟩
  · obtain ⟨gs, G, e⟩ := hl
    unfold feasB at hm
    cases hL : loopT n (lks n rs) m with
    | none => rw [hL] at hm; cases hm
    | some L =>
      obtain ⟨_, _, _, P⟩ := loop_some n0 hrs hL
      obtain ⟨h1, h2⟩ := loop_fit n0 hrs P G
      obtain ⟨h3, _⟩ := loop_fit n0 hrs P F
      rw [e] at h1
      have ht := neg_of hlm (by omega : tns L * m < tns L * l)
      have := mul_lt_neg ht (by omega : tns L * m < tns L * fs.sum)
      omega
def totP (n : Nat) (rs : List R4) : Option (Int × Option Int) := match loopT n (lks n rs) (lowP n rs) with
  | some _ => none
  | none => some (lowP n rs, if (List.range n).any (lackB n rs) = true then none else some (highP n rs (lowP n rs)))
def IsTot (n : Nat) (rs : List R4) : Option (Int × Option Int) → Prop
  | none => ∀ fs, ¬ Fit n rs fs
  | some (lo, hi) => (∃ fs, Fit n rs fs ∧ fs.sum = lo) ∧ (∀ fs, Fit n rs fs → lo ≤ fs.sum) ∧ (match hi with
    | none => ∃ p, p < n ∧ lackB n rs p = true
    | some H => (∀ p, p < n → lackB n rs p = false) ∧ (∃ fs, Fit n rs fs ∧ fs.sum = H) ∧ ∀ fs, Fit n rs fs → fs.sum ≤ H)
theorem any_lack {n : Nat} {rs : List R4} : ((List.range n).any (lackB n rs) = true) ↔ ∃ p, p < n ∧ lackB n rs p = true := by
  rw [List.any_eq_true]
  constructor
  · rintro ⟨p, hp, h⟩
    exact ⟨p, List.mem_range.mp hp, h⟩
  · rintro ⟨p, hp, h⟩
    exact ⟨p, List.mem_range.mpr hp, h⟩
theorem tot_ok {n : Nat} {rs : List R4} (n0 : 0 < n) (hrs : ∀ r ∈ rs, r.Ok (n : Int)) : IsTot n rs (totP n rs) := by
  obtain ⟨h1, h2, h3, _⟩ := low_ok n0 hrs
  unfold totP
  split
  · rename_i L e
    intro fs F
    obtain ⟨_, _, _, P⟩ := loop_some n0 hrs e
    obtain ⟨q1, q2⟩ := loop_fit n0 hrs P F
    have hle := h1 fs F
    unfold tooLow at h2
    rw [e] at h2
    have ht : ¬ 0 < tns L := by simpa using h2
    have : tns L * fs.sum ≤ tns L * lowP n rs := Int.mul_le_mul_of_nonpos_left (by omega) hle
    omega
  · rename_i e
    obtain ⟨hs, _, _, F, es⟩ := loop_none n0 hrs e
    refine ⟨⟨_, F, es⟩, h1, ?_⟩
    by_cases ha : (List.range n).any (lackB n rs) = true
    · rw [if_pos ha]
      exact any_lack.mp ha
    · rw [if_neg ha]
      have hc : ∀ p, p < n → lackB n rs p = false := fun p hp => by
        cases hb : lackB n rs p with
        | false => rfl
        | true => exact absurd (any_lack.mpr ⟨p, hp, hb⟩) ha
      obtain ⟨g1, g2, _⟩ := high_ok n0 hrs hc ⟨_, F, es⟩
      exact ⟨hc, g1, g2⟩
theorem tot_one {n n' : Nat} {rs rs' : List R4} {a b : Option (Int × Option Int)} (ha : IsTot n rs a) (hb : IsTot n' rs' b) (hF : ∀ T, (∃ fs, Fit n rs fs ∧ fs.sum = T) ↔ ∃ fs, Fit n' rs' fs ∧ fs.sum = T) (hL : (∃ p, p < n ∧ lackB n rs p = true) ↔ ∃ p, p < n' ∧ lackB n' rs' p = true) : a = b := by
  have none_iff : ∀ {n : Nat} {rs : List R4}, (∀ p, p < n → lackB n rs p = false) ↔ ¬ ∃ p, p < n ∧ lackB n rs p = true := fun {n rs} => by
    constructor
    · rintro h ⟨p, hp, hb⟩
      rw [h p hp] at hb
      cases hb
    · intro h p hp
      cases hb : lackB n rs p with
      | false => rfl
      | true => exact absurd ⟨p, hp, hb⟩ h
  match a, b, ha, hb with
  | none, none, _, _ => rfl
  | none, some (lo, hi), ha, hb =>
    obtain ⟨fs, F, _⟩ := (hF lo).mpr hb.1
    exact absurd F (ha fs)
  | some (lo, hi), none, ha, hb =>
    obtain ⟨fs, F, _⟩ := (hF lo).mp ha.1
    exact absurd F (hb fs)
  | some (lo, hi), some (lo', hi'), ha, hb =>
    have e1 : lo = lo' := by
      obtain ⟨fs, F, e⟩ := (hF lo).mp ha.1
      obtain ⟨gs, G, e'⟩ := (hF lo').mpr hb.1
      have := hb.2.1 fs F
      have := ha.2.1 gs G
      omega
    subst e1
    have h2 := ha.2.2
    have h2' := hb.2.2
    match hi, hi', h2, h2' with
    | none, none, _, _ => rfl
    | none, some H, h2, h2' => exact absurd (hL.mp h2) (none_iff.mp h2'.1)
    | some H, none, h2, h2' => exact absurd (hL.mpr h2') (none_iff.mp h2.1)
    | some H, some H', h2, h2' =>
      obtain ⟨fs, F, e⟩ := (hF H).mp h2.2.1
      obtain ⟨gs, G, e'⟩ := (hF H').mpr h2'.2.1
      have := h2'.2.2 fs F
      have := h2.2.2 gs G
      have : H = H' := by omega
      rw [this]
def totD : Option (Int × Option Int) → PyData
  | none => .none
  | some (lo, hi) => .tuple [.int lo, optD hi]

/-! ### links of rules, evaluated -/
theorem bl_data {n : Nat} (k : Nat) : PyData.tuple [.int (0 + (k : Int)), .int ((0 + (k : Int) + 1) % (n : Int)), .int 0, .int ((0 + (k : Int) + 1) / (n : Int)), .none] = lkD (bl n k) := by
  have e1 : (0 + (k : Int) + 1) % (n : Int) = (((k + 1) % n : Nat) : Int) := by
    rw [Int.natCast_emod, Int.natCast_add]
    simp
  have e2 : (0 + (k : Int) + 1) / (n : Int) = (((k + 1) / n : Nat) : Int) := by
    rw [Int.natCast_ediv, Int.natCast_add]
    simp
  rw [e1, e2, Int.zero_add]
  rfl
theorem rls_succ {n : Nat} {rs : List R4} {j : Nat} {r : R4} (h : rs[j]? = some r) : rls n rs (j + 1) = rls n rs j ++ rl n j r := by
  show rls n rs j ++ _ = _
  rw [h]
theorem rls_len (n : Nat) (rs : List R4) : ∀ j, (rls n rs j).length ≤ 2 * j
  | 0 => Nat.le_refl _
  | j + 1 => by
    have ih := rls_len n rs j
    show (rls n rs j ++ _).length ≤ _
    rw [List.length_append]
    cases h : rs[j]? with
    | none => simp; omega
    | some r =>
      have : (rl n j r).length ≤ 2 := by
        unfold rl
        cases r.m <;> simp
      show _ + (rl n j r).length ≤ _
      omega
theorem links_ok {n : Nat} {rs : List R4} (n0 : 0 < n) (n1 : n ≤ 12) (hl : rs.length ≤ 1000) (hrs : ∀ r ∈ rs, r.Ok (n : Int)) {c : Nat} {P : Vl → Nat → Prop} (hP : P (.dat (lksD (lks n rs))) c) : sp_links_of [.dat (.int (n : Int)), .dat (rDs rs)] c P := by
  have five : 5 ≤ sizeLine := by decide
  have two : 2 ≤ sizeLine := by decide
  refine ⟨by omega, by omega, by rw [rangeD_len]; exact small_len (by omega), lcL_pure (fun _ => true) (fun d => match d with | .int k => lkD (bl n k.toNat) | _ => .none) _ _ _ _ (fun d hd P hP => hP) (fun d hd hf P hP => ?_) ?_⟩
  · obtain ⟨k, hk, rfl⟩ := rangeD_mem hd
    have hP : P (.dat (lkD (bl n (0 + (k : Int)).toNat))) c := hP
    rw [show (0 + (k : Int)).toNat = k by omega, ← bl_data] at hP
    exact ⟨by omega, ⟨by omega, by omega⟩, five, hP⟩
  · have e : [] ++ ((rangeD 0 (n : Int).toNat).filter fun _ => true).map (fun d => match d with | .int k => lkD (bl n k.toNat) | _ => .none) = ((List.range n).map (bl n)).map lkD := by
      rw [List.filter_eq_self.mpr (fun _ _ => rfl), List.nil_append]
      unfold rangeD
      rw [List.map_map, List.map_map, Int.toNat_natCast]
      refine List.map_congr_left fun k _ => ?_
      show lkD (bl n (0 + (k : Int)).toNat) = lkD (bl n k)
      rw [show (0 + (k : Int)).toNat = k by omega]
    rw [e]
    refine forL_inv (fun j env c' => c = c' ∧ ∃ x3 x4 x5 x6 x7 x8 x9, env = [some (.dat (.int (n : Int))), some (.dat (rDs rs)), some (.own (((List.range n).map (bl n) ++ rls n rs j).map lkD)), x3, x4, x5, x6, x7, x8, x9, none]) (fun j d env c' k hd hI hk => ?_) ⟨rfl, none, none, none, none, none, none, none, by rw [show rls n rs 0 = [] from rfl, List.append_nil]; rfl⟩ (fun env c' hI => ?_)
    · obtain ⟨rfl, x3, x4, x5, x6, x7, x8, x9, rfl⟩ := hI
      obtain ⟨z, hz, rfl⟩ := enum_get hd
      rw [List.getElem?_map] at hz
      obtain ⟨r, hr, rfl⟩ := Option.map_eq_some_iff.mp hz
      have hj : j < rs.length := (List.getElem?_eq_some_iff.mp hr).1
      have hb := rls_len n rs j
      have ok := hrs r (List.mem_of_getElem? hr)
      have o1 := ok.f0
      have o3 := ok.s0
      have e := rls_succ (n := n) hr
      have len0 : (((List.range n).map (bl n) ++ rls n rs j).map lkD).length ≤ 3000 := by
        simp
        omega
      obtain ⟨f, s, l, m⟩ := r
      have fin : ∀ acc : List PyData, acc = ((List.range n).map (bl n) ++ rls n rs (j + 1)).map lkD → k [some (.dat (.int (n : Int))), some (.dat (rDs rs)), some (.own acc), some (.dat (.int (j : Nat))), some (.dat (.int f)), some (.dat (.int s)), some (.dat (.int l)), some (.dat (optD m)), some (.dat (.int ((f + s) % (n : Int)))), some (.dat (.int ((f + s) / (n : Int)))), none] c := fun acc ha => by
        subst ha
        exact hk _ _ ⟨rfl, _, _, _, _, _, _, _, rfl⟩
      have m0 := Int.emod_nonneg (f + s) (by omega : (n : Int) ≠ 0)
      have o1 : 0 ≤ f := o1
      refine ⟨rfl, rfl, by omega, ⟨by omega, by omega⟩, two, five, small_len (by omega), ?_⟩
      have i1 : (((f + s) % (n : Int)).toNat : Int) = (f + s) % (n : Int) := by omega
      have i2 : ((f.toNat : Nat) : Int) = f := by omega
      cases m with
      | none =>
        refine fin _ ?_
        rw [e, ← List.append_assoc, List.map_append (l₂ := rl n j _)]
        simp only [rl, List.map_cons, List.map_nil, lkD, lbD, tL, i1, i2]
      | some m =>
        refine ⟨two, five, small_len ?_, fin _ ?_⟩
        · rw [List.length_append, List.length_singleton]
          omega
        · rw [e, ← List.append_assoc, List.map_append (l₂ := rl n j _)]
          simp only [rl, List.map_cons, List.map_nil, lkD, lbD, tL, tM, i1, i2, List.append_assoc, List.cons_append, List.nil_append]
    · obtain ⟨rfl, x3, x4, x5, x6, x7, x8, x9, rfl⟩ := hI
      rw [enum_len, List.length_map]
      exact hP
/-! ### turns, labels, reasons -/
def srt (l : List Int) : List Int := l.mergeSort fun a b => decide (a ≤ b)
theorem srt_perm (l : List Int) : (srt l).Perm l := List.mergeSort_perm _ _
theorem srt_sorted (l : List Int) : (srt l).Pairwise (· ≤ ·) := by
  have := List.pairwise_mergeSort (le := fun a b : Int => decide (a ≤ b)) (fun a b c h1 h2 => by simp at *; omega) (fun a b => by simp; omega) l
  exact this.imp fun h => by simpa using h
def labs (b : Bool) (L : List Lk) : List Int := srt ((ixs b L).map fun (i : Nat) => (i : Int))
def side (b : Bool) : Str := if b then "least" else "most"
def isSide (b : Bool) : PyData → Bool
  | .tuple [_, .str x] => decide (x = side b)
  | _ => false
def fstD : PyData → PyData
  | .tuple [i, _] => i
  | _ => .none
def reaD (a b : List Int) : PyData := .tuple [.tuple (dInts a), .tuple (dInts b)]
end RW
namespace RW
open PySem PySem.Spec PyProof.Rows L2 DL
theorem wsum_ps {n : Nat} {rs : List R4} {fs : List Int} (hrs : ∀ r ∈ rs, r.Ok (n : Int)) (hl : fs.length = n) {r : R4} (hr : r ∈ rs) : wsum fs r.f r.s = psum fs r.f r.s.toNat := by
  have h := hrs r hr
  have h1 := h.f0
  have h2 := h.f1
  have h3 := h.s0
  have h4 := h.s1
  exact (sums_same h1 (by rw [hl]; omega) (by omega) (by rw [hl]; omega)).symm
theorem fit_iff {n : Nat} {rs : List R4} {fs : List Int} (hn : fs.length = n) (hfs : ∀ x ∈ fs, 0 ≤ x) (hrs : ∀ r ∈ rs, r.Ok (n : Int)) : (BR fs rs rs.length).isEmpty = true ↔ Fit n rs fs := by
  rw [BR_nil (Nat.le_refl _)]
  have one : ∀ r ∈ rs, (r.l ≤ wsum fs r.f r.s ∧ isBig r.m (wsum fs r.f r.s) = false) ↔ fitR fs r := fun r hr => by
    rw [wsum_ps hrs hn hr]
    unfold fitR isBig
    refine ⟨fun h => ⟨h.1, fun m e => ?_⟩, fun h => ⟨h.1, ?_⟩⟩
    · have := h.2
      rw [e] at this
      have := of_decide_eq_false this
      omega
    · cases e : r.m with
      | none => rfl
      | some m =>
        have := h.2 m e
        exact decide_eq_false (by omega)
  refine ⟨fun h => ⟨hn, hfs, fun r hr => ?_⟩, fun F i r _ hr => (one r (List.mem_of_getElem? hr)).mpr (F.ft r (List.mem_of_getElem? hr))⟩
  obtain ⟨i, hi, e⟩ := List.getElem_of_mem hr
  exact (one r hr).mp (h i r hi (by rw [List.getElem?_eq_getElem hi, e]))
theorem sum_mem : ∀ {l : List Int}, (∀ y ∈ l, 0 ≤ y) → ∀ x ∈ l, x ≤ l.sum
  | a :: l, h, x, hx => by
    have s0 : 0 ≤ l.sum := by
      have : ∀ {u : List Int}, (∀ y ∈ u, 0 ≤ y) → 0 ≤ u.sum := fun {u} => by
        induction u with
        | nil => intro _; exact Int.le_refl _
        | cons b u ih =>
          intro h
          have := ih fun y hy => h y (List.mem_cons_of_mem _ hy)
          have := h b List.mem_cons_self
          rw [List.sum_cons]
          omega
      exact this fun y hy => h y (List.mem_cons_of_mem _ hy)
    have a0 := h a List.mem_cons_self
    rw [List.sum_cons]
    rcases List.mem_cons.mp hx with rfl | hx
    · omega
    · have := sum_mem (fun y hy => h y (List.mem_cons_of_mem _ hy)) x hx
      omega
theorem fitsD_of {n : Nat} {rs : List R4} {fs : List Int} (hrs : ∀ r ∈ rs, r.Ok (n : Int)) (F : Fit n rs fs) : fitsD (n : Int) rs (.tuple (dInts fs)) = true := by
  unfold fitsD
  rw [fillOf_ints (by rw [F.len]) F.nn]
  exact (fit_iff F.len F.nn hrs).mpr F
theorem totD_some (l : Int) (h : Option Int) : totD (some (l, h)) = .tuple [.int l, optD h] := rfl
theorem totD_none : totD none = .none := rfl
theorem optD_some (m : Int) : optD (some m) = .int m := rfl
theorem optD_none : optD none = .none := rfl
end RW
namespace RW
open PySem PySem.Spec PyProof.Rows L2 DL
/-! ### climbs, and the least heights that keep them: mathematics alone -/
structure Cb where
  s : Nat
  e : Nat
  c : Int
def Fe (cs : List Cb) (H : Nat → Int) : Prop := ∀ l ∈ cs, H l.s + l.c ≤ H l.e
def gs1 (h : List Int) (l : Cb) : List Int := if h.getD l.e 0 < h.getD l.s 0 + l.c then h.set l.e (h.getD l.s 0 + l.c) else h
def gsr (cs : List Cb) (h : List Int) : List Int := cs.foldl gs1 h
theorem gs1_len (h : List Int) (l : Cb) : (gs1 h l).length = h.length := by
  unfold gs1
  split <;> simp
theorem gs1_get {h : List Int} {l : Cb} {n : Nat} (hn : h.length = n) (he : l.e < n) (v : Nat) : (gs1 h l).getD v 0 = if v = l.e then max (h.getD l.e 0) (h.getD l.s 0 + l.c) else h.getD v 0 := by
  unfold gs1
  by_cases hx : h.getD l.e 0 < h.getD l.s 0 + l.c
  · rw [if_pos hx, getD_set (by omega)]
    by_cases e : v = l.e
    · rw [if_pos e, if_pos e]
      omega
    · rw [if_neg e, if_neg e]
  · rw [if_neg hx]
    by_cases e : v = l.e
    · rw [if_pos e, e]
      omega
    · rw [if_neg e]
theorem gsr_ok {n : Nat} : ∀ {cs : List Cb} {h : List Int}, h.length = n → (∀ l ∈ cs, l.s < n ∧ l.e < n) →
    (gsr cs h).length = n ∧ (∀ v, h.getD v 0 ≤ (gsr cs h).getD v 0) ∧ (∀ l ∈ cs, h.getD l.s 0 + l.c ≤ (gsr cs h).getD l.e 0) ∧ ∀ H, Fe cs H → (∀ v, v < n → h.getD v 0 ≤ H v) → ∀ v, v < n → (gsr cs h).getD v 0 ≤ H v
  | [], h, hn, _ => ⟨hn, fun v => Int.le_refl _, fun l hl => by simp at hl, fun H _ hh => hh⟩
  | l :: cs, h, hn, hl => by
    obtain ⟨h1, h2⟩ := hl l List.mem_cons_self
    have g := gs1_get (l := l) hn h2
    obtain ⟨a, b, c, d⟩ := gsr_ok (cs := cs) (h := gs1 h l) (by rw [gs1_len]; exact hn) (fun x hx => hl x (List.mem_cons_of_mem _ hx))
    have up : ∀ v, h.getD v 0 ≤ (gs1 h l).getD v 0 := fun v => by
      rw [g]
      by_cases e : v = l.e
      · rw [if_pos e, e]
        omega
      · rw [if_neg e]
        exact Int.le_refl _
    refine ⟨a, fun v => Int.le_trans (up v) (b v), fun x hx => ?_, fun H hF hh => d H (fun x hx => hF x (List.mem_cons_of_mem _ hx)) fun v hv => ?_⟩
    · show _ ≤ (gsr cs (gs1 h l)).getD x.e 0
      rcases List.mem_cons.mp hx with rfl | hx
      · have q := b x.e
        rw [g, if_pos rfl] at q
        omega
      · have q := c x hx
        have u := up x.s
        omega
    · rw [g]
      by_cases e : v = l.e
      · rw [if_pos e]
        have q := hF l List.mem_cons_self
        have u := hh l.s h1
        have w := hh l.e h2
        rw [e]
        omega
      · rw [if_neg e]
        exact hh v hv
def stdl (cs : List Cb) : Nat → List Int → Option (List Int)
  | 0, _ => none
  | k + 1, h => if gsr cs h = h then some h else stdl cs k (gsr cs h)
/-- h is the least one from h0 on -/
structure Least (cs : List Cb) (n : Nat) (h0 h : List Int) : Prop where
  len : h.length = n
  fe : Fe cs fun v => h.getD v 0
  ge : ∀ v, v < n → h0.getD v 0 ≤ h.getD v 0
  le : ∀ H, Fe cs H → (∀ v, v < n → h0.getD v 0 ≤ H v) → ∀ v, v < n → h.getD v 0 ≤ H v
theorem stdl_some {cs : List Cb} {n : Nat} (hl : ∀ l ∈ cs, l.s < n ∧ l.e < n) {h0 : List Int} : ∀ {k : Nat} {h1 h : List Int}, h1.length = n → (∀ v, v < n → h0.getD v 0 ≤ h1.getD v 0) →
    (∀ H, Fe cs H → (∀ v, v < n → h0.getD v 0 ≤ H v) → ∀ v, v < n → h1.getD v 0 ≤ H v) → stdl cs k h1 = some h → Least cs n h0 h
  | 0, _, _, _, _, _, e => by cases e
  | k + 1, h1, h, hn, hge, hle, e => by
    obtain ⟨a, b, c, d⟩ := gsr_ok hn hl
    unfold stdl at e
    by_cases hx : gsr cs h1 = h1
    · rw [if_pos hx] at e
      cases e
      rw [hx] at c
      exact ⟨hn, c, hge, hle⟩
    · rw [if_neg hx] at e
      exact stdl_some hl a (fun v hv => Int.le_trans (hge v hv) (b v)) (fun H hF hh => d H hF (hle H hF hh)) e
/-- there is a least one, if there is one at all -/
theorem least_ex {cs : List Cb} {n : Nat} (h0 : Nat → Int) {H0 : Nat → Int} (hF : Fe cs H0) (hh : ∀ v, v < n → h0 v ≤ H0 v) (hl : ∀ l ∈ cs, l.s < n ∧ l.e < n) :
    ∃ M : Nat → Int, Fe cs M ∧ (∀ v, v < n → h0 v ≤ M v) ∧ ∀ H, Fe cs H → (∀ v, v < n → h0 v ≤ H v) → ∀ v, v < n → M v ≤ H v := by
  have one : ∀ v, v < n → ∀ (k : Nat) (H : Nat → Int), Fe cs H → (∀ u, u < n → h0 u ≤ H u) → (H v - h0 v).toNat ≤ k → ∃ M, Fe cs M ∧ (∀ u, u < n → h0 u ≤ M u) ∧ ∀ H, Fe cs H → (∀ u, u < n → h0 u ≤ H u) → M v ≤ H v := by
    intro v hv k
    induction k with
    | zero =>
      intro H hF hh hk
      have := hh v hv
      exact ⟨H, hF, hh, fun H' _ hh' => by have := hh' v hv; omega⟩
    | succ k ih =>
      intro H hF hh hk
      by_cases ex : ∃ H', Fe cs H' ∧ (∀ u, u < n → h0 u ≤ H' u) ∧ H' v < H v
      · obtain ⟨H', f', h', lt⟩ := ex
        have := h' v hv
        exact ih H' f' h' (by omega)
      · refine ⟨H, hF, hh, fun H' f' h' => ?_⟩
        by_cases z : H v ≤ H' v
        · exact z
        · exact absurd ⟨H', f', h', by omega⟩ ex
  have pick : ∀ v, ∃ M, v < n → Fe cs M ∧ (∀ u, u < n → h0 u ≤ M u) ∧ ∀ H, Fe cs H → (∀ u, u < n → h0 u ≤ H u) → M v ≤ H v := fun v => by
    by_cases hv : v < n
    · obtain ⟨M, q⟩ := one v hv _ H0 hF hh (Nat.le_refl _)
      exact ⟨M, fun _ => q⟩
    · exact ⟨H0, fun z => absurd z hv⟩
  refine ⟨fun v => (pick v).choose v, fun l hlm => ?_, fun v hv => ?_, fun H f h v hv => ?_⟩
  · obtain ⟨h1, h2⟩ := hl l hlm
    obtain ⟨f1, g1, m1⟩ := (pick l.s).choose_spec h1
    obtain ⟨f2, g2, m2⟩ := (pick l.e).choose_spec h2
    have := m1 _ f2 g2
    have := f2 l hlm
    show (pick l.s).choose l.s + l.c ≤ (pick l.e).choose l.e
    omega
  · exact ((pick v).choose_spec hv).2.1 v hv
  · exact ((pick v).choose_spec hv).2.2 H f h
/-- how many places are final -/
def fin (n : Nat) (M : Nat → Int) (h : List Int) : Nat := ((List.range n).filter fun v => decide (h.getD v 0 = M v)).length
theorem cnt_mono {p q : Nat → Bool} : ∀ {l : List Nat}, (∀ v ∈ l, p v = true → q v = true) → (l.filter p).length ≤ (l.filter q).length
  | [], _ => Nat.le_refl _
  | a :: l, h => by
    have ih := cnt_mono (l := l) fun v hv => h v (List.mem_cons_of_mem _ hv)
    by_cases hp : p a = true
    · rw [List.filter_cons_of_pos hp, List.filter_cons_of_pos (h a List.mem_cons_self hp)]
      simp
      exact ih
    · rw [List.filter_cons_of_neg hp]
      by_cases hq : q a = true
      · rw [List.filter_cons_of_pos hq]
        simp
        omega
      · rw [List.filter_cons_of_neg hq]
        exact ih
theorem cnt_lt {p q : Nat → Bool} : ∀ {l : List Nat}, (∀ v ∈ l, p v = true → q v = true) → (∃ v ∈ l, p v = false ∧ q v = true) → (l.filter p).length < (l.filter q).length
  | [], _, h => by
    obtain ⟨v, hv, _⟩ := h
    simp at hv
  | a :: l, h, ex => by
    have mono := cnt_mono (l := l) fun v hv => h v (List.mem_cons_of_mem _ hv)
    by_cases hp : p a = true
    · rw [List.filter_cons_of_pos hp, List.filter_cons_of_pos (h a List.mem_cons_self hp)]
      obtain ⟨v, hv, v1, v2⟩ := ex
      rcases List.mem_cons.mp hv with rfl | hv
      · rw [hp] at v1
        cases v1
      · have ih := cnt_lt (l := l) (fun v hv => h v (List.mem_cons_of_mem _ hv)) ⟨v, hv, v1, v2⟩
        simp
        exact ih
    · rw [List.filter_cons_of_neg hp]
      by_cases hq : q a = true
      · rw [List.filter_cons_of_pos hq]
        simp
        omega
      · rw [List.filter_cons_of_neg hq]
        obtain ⟨v, hv, v1, v2⟩ := ex
        rcases List.mem_cons.mp hv with rfl | hv
        · exact absurd v2 hq
        · exact cnt_lt (l := l) (fun v hv => h v (List.mem_cons_of_mem _ hv)) ⟨v, hv, v1, v2⟩
theorem cnt_all {n : Nat} {p : Nat → Bool} (h : n ≤ ((List.range n).filter p).length) : ∀ v, v < n → p v = true := fun v hv => by
  by_cases z : p v = true
  · exact z
  · have := cnt_lt (l := List.range n) (p := p) (q := fun _ => true) (fun _ _ _ => rfl) ⟨v, List.mem_range.mpr hv, by simpa using z, rfl⟩
    rw [List.filter_eq_self.mpr (fun _ _ => rfl), List.length_range] at this
    omega
/-- what is not final yet has a tight climb from what is -/
theorem tight_ex {cs : List Cb} {n : Nat} (hl : ∀ l ∈ cs, l.s < n ∧ l.e < n) {h0 : Nat → Int} {h : List Int} {M : Nat → Int} (hF : Fe cs M) (hge : ∀ v, v < n → h0 v ≤ h.getD v 0) (hle : ∀ v, v < n → h.getD v 0 ≤ M v)
    (hm : ∀ H, Fe cs H → (∀ v, v < n → h0 v ≤ H v) → ∀ v, v < n → M v ≤ H v) {u : Nat} (hu : u < n) (hne : h.getD u 0 ≠ M u) : ∃ l ∈ cs, h.getD l.s 0 = M l.s ∧ h.getD l.e 0 ≠ M l.e ∧ M l.s + l.c = M l.e := by
  by_cases ex : ∃ l ∈ cs, h.getD l.s 0 = M l.s ∧ h.getD l.e 0 ≠ M l.e ∧ M l.s + l.c = M l.e
  · exact ex
  · exfalso
    have := hm (fun v => if h.getD v 0 = M v then M v else M v - 1) (fun l hlm => ?_) (fun v hv => ?_) u hu
    · simp only [if_neg hne] at this
      omega
    · have f := hF l hlm
      show (if h.getD l.s 0 = M l.s then M l.s else M l.s - 1) + l.c ≤ (if h.getD l.e 0 = M l.e then M l.e else M l.e - 1)
      by_cases e1 : h.getD l.s 0 = M l.s
      · by_cases e2 : h.getD l.e 0 = M l.e
        · rw [if_pos e1, if_pos e2]
          exact f
        · rw [if_pos e1, if_neg e2]
          by_cases e3 : M l.s + l.c = M l.e
          · exact absurd ⟨l, hlm, e1, e2, e3⟩ ex
          · omega
      · rw [if_neg e1]
        split <;> omega
    · show h0 v ≤ if h.getD v 0 = M v then M v else M v - 1
      have a := hge v hv
      have b := hle v hv
      split <;> omega
theorem list_ext0 {a b : List Int} {n : Nat} (ha : a.length = n) (hb : b.length = n) (h : ∀ v, v < n → a.getD v 0 = b.getD v 0) : a = b := by
  refine List.ext_getElem (by omega) fun i h1 h2 => ?_
  have := h i (by omega)
  rw [getD_el h1, getD_el h2] at this
  exact this
theorem stdl_none {cs : List Cb} {n : Nat} (hl : ∀ l ∈ cs, l.s < n ∧ l.e < n) {h0 : Nat → Int} {M : Nat → Int} (hF : Fe cs M) (hm : ∀ H, Fe cs H → (∀ v, v < n → h0 v ≤ H v) → ∀ v, v < n → M v ≤ H v) :
    ∀ {k : Nat} {h : List Int}, h.length = n → (∀ v, v < n → h0 v ≤ h.getD v 0) → (∀ v, v < n → h.getD v 0 ≤ M v) → n + 1 ≤ fin n M h + k → stdl cs k h ≠ none
  | 0, h, hn, hge, hle, hk => by
    have := List.length_filter_le (fun v => decide (h.getD v 0 = M v)) (List.range n)
    rw [List.length_range] at this
    unfold fin at hk
    omega
  | k + 1, h, hn, hge, hle, hk => by
    obtain ⟨a, b, c, d⟩ := gsr_ok hn hl
    have d' := d M hF hle
    unfold stdl
    by_cases hx : gsr cs h = h
    · rw [if_pos hx]
      exact fun z => by cases z
    · rw [if_neg hx]
      refine stdl_none hl hF hm a (fun v hv => Int.le_trans (hge v hv) (b v)) d' ?_
      obtain ⟨u, hu, hne⟩ : ∃ u, u < n ∧ h.getD u 0 ≠ M u := by
        by_cases ex : ∃ u, u < n ∧ h.getD u 0 ≠ M u
        · exact ex
        · exfalso
          refine hx (list_ext0 a hn fun v hv => ?_)
          by_cases z : h.getD v 0 = M v
          · have := b v
            have := d' v hv
            omega
          · exact absurd ⟨v, hv, z⟩ ex
      obtain ⟨l, hlm, e1, e2, e3⟩ := tight_ex hl hF hge hle hm hu hne
      obtain ⟨s1, s2⟩ := hl l hlm
      have : fin n M h < fin n M (gsr cs h) := by
        refine cnt_lt (fun v hv hp => ?_) ⟨l.e, List.mem_range.mpr s2, decide_eq_false e2, decide_eq_true ?_⟩
        · have hv := List.mem_range.mp hv
          have hp := of_decide_eq_true hp
          have := b v
          have := d' v hv
          exact decide_eq_true (by omega)
        · have := c l hlm
          have := d' l.e s2
          omega
      omega
/-- settled, as a function -/
def stdP (cs : List Cb) (h0 : List Int) : Option (List Int) := stdl cs h0.length h0
theorem std_some {cs : List Cb} {n : Nat} (hl : ∀ l ∈ cs, l.s < n ∧ l.e < n) {h0 h : List Int} (hn : h0.length = n) (e : stdP cs h0 = some h) : Least cs n h0 h :=
  stdl_some hl hn (fun _ _ => Int.le_refl _) (fun _ _ hh => hh) e
theorem max_ex {n : Nat} (f : Nat → Int) : ∃ K : Int, ∀ v, v < n → f v ≤ K := by
  induction n with
  | zero => exact ⟨0, fun v hv => by omega⟩
  | succ n ih =>
    obtain ⟨K, hK⟩ := ih
    refine ⟨max K (f n), fun v hv => ?_⟩
    by_cases e : v = n
    · rw [e]
      omega
    · have := hK v (by omega)
      omega
theorem std_none {cs : List Cb} {n : Nat} (n0 : 0 < n) (hl : ∀ l ∈ cs, l.s < n ∧ l.e < n) {h0 : List Int} (hn : h0.length = n) (e : stdP cs h0 = none) : ∀ H, ¬ Fe cs H := fun H hF => by
  obtain ⟨K, hK⟩ := max_ex (n := n) fun v => h0.getD v 0 - H v
  obtain ⟨M, f, g, m⟩ := least_ex (cs := cs) (n := n) (fun v => h0.getD v 0) (H0 := fun v => H v + K) (fun l hlm => by have := hF l hlm; show H l.s + K + l.c ≤ H l.e + K; omega) (fun v hv => by have := hK v hv; show _ ≤ H v + K; omega) hl
  refine stdl_none hl f m hn (fun _ _ => Int.le_refl _) g ?_ e
  rw [hn]
  by_cases z : 0 < fin n M h0
  · omega
  · exfalso
    have all : ∀ v, v < n → h0.getD v 0 ≠ M v := fun v hv z2 => by
      have : v ∈ (List.range n).filter fun v => decide (h0.getD v 0 = M v) := List.mem_filter.mpr ⟨List.mem_range.mpr hv, decide_eq_true z2⟩
      have := List.length_pos_of_mem this
      unfold fin at z
      omega
    have := m (fun v => M v - 1) (fun l hlm => by have := f l hlm; show M l.s - 1 + l.c ≤ M l.e - 1; omega) (fun v hv => by have := g v hv; have := all v hv; show _ ≤ M v - 1; omega) 0 n0
    omega
/-! ### fillings of a total and their heights -/
def cbs (n : Nat) (rs : List R4) (T : Int) : List Cb := (lks n rs).map fun l => ⟨l.s, l.e, cl T l⟩
def cbr (n : Nat) (rs : List R4) (T : Int) : List Cb := (cbs n rs T).map fun l => ⟨l.e, l.s, l.c⟩
theorem cbs_ok {n : Nat} {rs : List R4} {T : Int} (n0 : 0 < n) (hrs : ∀ r ∈ rs, r.Ok (n : Int)) : ∀ l ∈ cbs n rs T, l.s < n ∧ l.e < n := fun l hl => by
  obtain ⟨k, hk, rfl⟩ := List.mem_map.mp hl
  exact (lks_ok n0 hrs).1 k hk
theorem cbr_ok {n : Nat} {rs : List R4} {T : Int} (n0 : 0 < n) (hrs : ∀ r ∈ rs, r.Ok (n : Int)) : ∀ l ∈ cbr n rs T, l.s < n ∧ l.e < n := fun l hl => by
  obtain ⟨k, hk, rfl⟩ := List.mem_map.mp hl
  exact (cbs_ok n0 hrs k hk).symm
theorem fe_lks {n : Nat} {rs : List R4} {T : Int} {H : Nat → Int} : Fe (cbs n rs T) H ↔ ∀ l ∈ lks n rs, H l.s + cl T l ≤ H l.e := by
  constructor
  · intro h l hl
    exact h ⟨l.s, l.e, cl T l⟩ (List.mem_map.mpr ⟨l, hl, rfl⟩)
  · intro h k hk
    obtain ⟨l, hl, rfl⟩ := List.mem_map.mp hk
    exact h l hl
theorem fe_cbr {n : Nat} {rs : List R4} {T : Int} {H : Nat → Int} : Fe (cbr n rs T) H ↔ Fe (cbs n rs T) fun v => - H v := by
  constructor
  · intro h l hl
    have := h ⟨l.e, l.s, l.c⟩ (List.mem_map.mpr ⟨l, hl, rfl⟩)
    simp only at this ⊢
    omega
  · intro h k hk
    obtain ⟨l, hl, rfl⟩ := List.mem_map.mp hk
    have := h l hl
    simp only at this ⊢
    omega
theorem fe_fit {n : Nat} {rs : List R4} {fs : List Int} (n0 : 0 < n) (hrs : ∀ r ∈ rs, r.Ok (n : Int)) (F : Fit n rs fs) : Fe (cbs n rs fs.sum) fun v => (fs.take v).sum := fe_lks.mpr (heights_of_fit n0 hrs F)
theorem fit_fe {n : Nat} {rs : List R4} {h : List Int} {T : Int} (n0 : 0 < n) (hrs : ∀ r ∈ rs, r.Ok (n : Int)) (hl : h.length = n) (hF : Fe (cbs n rs T) fun v => h.getD v 0) : Fit n rs (cof h T) ∧ (cof h T).sum = T :=
  ⟨fit_of_heights n0 hrs hl (fe_lks.mp hF), cof_sum n0 hl⟩
theorem fe_shift {cs : List Cb} {H : Nat → Int} (k : Int) (h : Fe cs H) : Fe cs fun v => H v + k := fun l hl => by
  have := h l hl
  show H l.s + k + l.c ≤ H l.e + k
  omega
theorem fe_min {cs : List Cb} {H G : Nat → Int} (h : Fe cs H) (g : Fe cs G) : Fe cs fun v => min (H v) (G v) := fun l hl => by
  have := h l hl
  have := g l hl
  show min (H l.s) (G l.s) + l.c ≤ min (H l.e) (G l.e)
  omega
theorem fe_max {cs : List Cb} {H G : Nat → Int} (h : Fe cs H) (g : Fe cs G) : Fe cs fun v => max (H v) (G v) := fun l hl => by
  have := h l hl
  have := g l hl
  show max (H l.s) (G l.s) + l.c ≤ max (H l.e) (G l.e)
  omega
theorem take_cof {h : List Int} {T : Int} {n v : Nat} (n0 : 0 < n) (hl : h.length = n) (hv : v < n) : ((cof h T).take v).sum = h.getD v 0 - h.getD 0 0 := by
  have hc : (cof h T).length = n := by rw [cof_len (by omega), hl]
  have := sx_cof (T := T) n0 hl v (by omega)
  unfold sx at this
  rw [if_pos (by omega), Nat.mod_eq_of_lt hv, Nat.div_eq_of_lt hv] at this
  rw [this, Int.natCast_zero, Int.zero_mul, Int.add_zero]
theorem take_nn {fs : List Int} (h : ∀ x ∈ fs, 0 ≤ x) (v : Nat) : 0 ≤ (fs.take v).sum ∧ (fs.take v).sum ≤ fs.sum := by
  have e : fs.sum = (fs.take v).sum + (fs.drop v).sum := by rw [← List.sum_append, List.take_append_drop]
  have a : ∀ l : List Int, (∀ x ∈ l, 0 ≤ x) → 0 ≤ l.sum := fun l hl => by
    induction l with
    | nil => simp
    | cons x l ih =>
      have := hl x List.mem_cons_self
      have := ih fun y hy => hl y (List.mem_cons_of_mem _ hy)
      rw [List.sum_cons]
      omega
  have h1 := a (fs.take v) fun x hx => h x (List.mem_of_mem_take hx)
  have h2 := a (fs.drop v) fun x hx => h x (List.mem_of_mem_drop hx)
  omega
theorem rep_getD (n : Nat) (x : Int) (v : Nat) (hv : v < n) : (List.replicate n x).getD v 0 = x := by simp [List.getD, hv]
/-! ### the smallest filling -/
def smP (n : Nat) (rs : List R4) (T : Int) : Option (List Int) := (stdP (cbs n rs T) (List.replicate n 0)).map fun h => cof h T
def IsSm (n : Nat) (rs : List R4) (T : Int) : Option (List Int) → Prop
  | none => ∀ fs, Fit n rs fs → fs.sum ≠ T
  | some fs => Fit n rs fs ∧ fs.sum = T ∧ ∀ gs, Fit n rs gs → gs.sum = T → ∀ v, v ≤ n → (fs.take v).sum ≤ (gs.take v).sum
theorem sm_ok {n : Nat} {rs : List R4} (n0 : 0 < n) (hrs : ∀ r ∈ rs, r.Ok (n : Int)) (T : Int) : IsSm n rs T (smP n rs T) := by
  unfold smP
  cases e : stdP (cbs n rs T) (List.replicate n 0) with
  | none =>
    intro fs F z
    subst z
    exact std_none n0 (cbs_ok n0 hrs) (by simp) e _ (fe_fit n0 hrs F)
  | some h =>
    have L := std_some (cbs_ok n0 hrs) (by simp) e
    obtain ⟨F, S⟩ := fit_fe n0 hrs L.len L.fe
    refine ⟨F, S, fun gs G z v hv => ?_⟩
    subst z
    have le := L.le _ (fe_fit n0 hrs G) (fun u hu => by rw [rep_getD n 0 u hu]; exact (take_nn G.nn u).1)
    have ge := L.ge 0 n0
    rw [rep_getD n 0 0 n0] at ge
    have l0 := le 0 n0
    simp only [List.take_zero, List.sum_nil] at l0
    by_cases e : v < n
    · rw [take_cof n0 L.len e]
      have := le v e
      omega
    · have e : v = n := by omega
      rw [List.take_of_length_le (by rw [F.len]; omega), List.take_of_length_le (by rw [G.len]; omega), S]
      exact Int.le_refl _
/-! ### the greatest filling -/
def grP (n : Nat) (rs : List R4) (T : Int) : Option (List Int) := (stdP (cbr n rs T) (0 :: List.replicate (n - 1) (-T))).map fun d => cof (d.map fun x => -x) T
def IsGr (n : Nat) (rs : List R4) (T : Int) : Option (List Int) → Prop
  | none => ∀ fs, Fit n rs fs → fs.sum ≠ T
  | some fs => Fit n rs fs ∧ fs.sum = T ∧ ∀ gs, Fit n rs gs → gs.sum = T → ∀ v, v ≤ n → (gs.take v).sum ≤ (fs.take v).sum
theorem neg_getD (d : List Int) (v : Nat) : (d.map fun x => -x).getD v 0 = - d.getD v 0 := by
  simp only [List.getD, List.getElem?_map]
  cases d[v]? <;> simp
theorem gr_ok {n : Nat} {rs : List R4} (n0 : 0 < n) (hrs : ∀ r ∈ rs, r.Ok (n : Int)) (T : Int) : IsGr n rs T (grP n rs T) := by
  have hn : (0 :: List.replicate (n - 1) (-T)).length = n := by simp; omega
  unfold grP
  cases e : stdP (cbr n rs T) (0 :: List.replicate (n - 1) (-T)) with
  | none =>
    intro fs F z
    subst z
    exact std_none n0 (cbr_ok n0 hrs) hn e (fun v => -(fs.take v).sum) (fe_cbr.mpr (by simpa using fe_fit n0 hrs F))
  | some d =>
    have L := std_some (cbr_ok n0 hrs) hn e
    have fe : Fe (cbs n rs T) fun v => (d.map fun x => -x).getD v 0 := by
      have := fe_cbr.mp L.fe
      simpa only [neg_getD] using this
    obtain ⟨F, S⟩ := fit_fe n0 hrs (h := d.map fun x => -x) (by simpa using L.len) fe
    refine ⟨F, S, fun gs G z v hv => ?_⟩
    subst z
    have le := L.le (fun v => -(gs.take v).sum) (fe_cbr.mpr (by simpa using fe_fit n0 hrs G)) (fun u hu => by
      have := take_nn G.nn u
      cases u with
      | zero => simp
      | succ u =>
        have : (0 :: List.replicate (n - 1) (-gs.sum)).getD (u + 1) 0 = (List.replicate (n - 1) (-gs.sum)).getD u 0 := by simp [List.getD]
        rw [this, rep_getD (n - 1) _ u (by omega)]
        omega)
    have ge := L.ge 0 n0
    have ge : (0 : Int) ≤ d.getD 0 0 := by simpa [List.getD] using ge
    have l0 := le 0 n0
    simp only [List.take_zero, List.sum_nil] at l0
    by_cases e : v < n
    · show (gs.take v).sum ≤ ((cof (d.map fun x => -x) gs.sum).take v).sum
      rw [take_cof n0 (by simpa using L.len) e, neg_getD, neg_getD]
      have := le v e
      omega
    · have e : v = n := by omega
      show (gs.take v).sum ≤ ((cof (d.map fun x => -x) gs.sum).take v).sum
      rw [List.take_of_length_le (by rw [G.len]; omega), List.take_of_length_le (by rw [F.len]; omega), S]
      exact Int.le_refl _
/-! ### the range of a window -/
def frm (n : Nat) (T : Int) (f : Nat) : List Int := (List.range n).map fun v => if v < f then -T else 0
theorem frm_len (n : Nat) (T : Int) (f : Nat) : (frm n T f).length = n := by simp [frm]
theorem frm_getD {n : Nat} {T : Int} {f v : Nat} (hv : v < n) : (frm n T f).getD v 0 = if v < f then -T else 0 := by simp [frm, List.getD, hv]
def wrP (n : Nat) (rs : List R4) (T : Int) (f s : Nat) : Option (Int × Int) := match stdP (cbs n rs T) (frm n T f) with
  | none => none
  | some on => match stdP (cbs n rs T) (frm n T ((f + s) % n)) with
    | none => none
    | some bk => some ((((f + s) / n : Nat) : Int) * T + on.getD ((f + s) % n) 0, (((f + s) / n : Nat) : Int) * T - bk.getD f 0)
def IsWr (n : Nat) (rs : List R4) (T : Int) (f s : Nat) : Option (Int × Int) → Prop
  | none => ∀ fs, Fit n rs fs → fs.sum ≠ T
  | some (a, b) => (∃ fs, Fit n rs fs ∧ fs.sum = T ∧ psum fs (f : Int) s = a) ∧ (∃ fs, Fit n rs fs ∧ fs.sum = T ∧ psum fs (f : Int) s = b) ∧ ∀ fs, Fit n rs fs → fs.sum = T → a ≤ psum fs (f : Int) s ∧ psum fs (f : Int) s ≤ b
/-- from a place on: the heights over it, and what the least ones are -/
theorem from_ok {n : Nat} {rs : List R4} {T : Int} {f : Nat} (n0 : 0 < n) (hrs : ∀ r ∈ rs, r.Ok (n : Int)) (hf : f < n) {h : List Int} (e : stdP (cbs n rs T) (frm n T f) = some h) :
    Fit n rs (cof h T) ∧ (cof h T).sum = T ∧ h.length = n ∧ (∀ gs, Fit n rs gs → gs.sum = T → h.getD f 0 = 0 ∧ ∀ v, v < n → h.getD v 0 ≤ (gs.take v).sum - (gs.take f).sum) := by
  have L := std_some (cbs_ok n0 hrs) (frm_len n T f) e
  obtain ⟨F, S⟩ := fit_fe n0 hrs L.len L.fe
  refine ⟨F, S, L.len, fun gs G z => ?_⟩
  subst z
  have mono : ∀ v, f ≤ v → (gs.take f).sum ≤ (gs.take v).sum := fun v hv => by
    have := (take_nn (fs := gs.take v) (fun x hx => G.nn x (List.mem_of_mem_take hx)) f).2
    rw [List.take_take, Nat.min_eq_left hv] at this
    exact this
  have le := L.le _ (fe_shift (-(gs.take f).sum) (fe_fit n0 hrs G)) (fun u hu => by
    rw [frm_getD hu]
    have a := take_nn G.nn u
    have b := take_nn G.nn f
    have c := mono u
    split <;> omega)
  have ge := L.ge f hf
  rw [frm_getD hf, if_neg (by omega)] at ge
  have lf := le f hf
  refine ⟨by omega, fun v hv => by have := le v hv; omega⟩
theorem wr_ok {n : Nat} {rs : List R4} {T : Int} {f s : Nat} (n0 : 0 < n) (hrs : ∀ r ∈ rs, r.Ok (n : Int)) (hf : f < n) (hs : s ≤ n) : IsWr n rs T f s (wrP n rs T f s) := by
  have hm : (f + s) % n < n := Nat.mod_lt _ n0
  unfold wrP
  cases e : stdP (cbs n rs T) (frm n T f) with
  | none =>
    intro fs F z
    subst z
    exact std_none n0 (cbs_ok n0 hrs) (frm_len _ _ _) e _ (fe_fit n0 hrs F)
  | some on =>
    obtain ⟨F1, S1, l1, q1⟩ := from_ok n0 hrs hf e
    cases e2 : stdP (cbs n rs T) (frm n T ((f + s) % n)) with
    | none =>
      have z := std_none n0 (cbs_ok n0 hrs) (frm_len _ _ _) e2 (fun v => ((cof on T).take v).sum)
      have w := fe_fit n0 hrs F1
      rw [S1] at w
      exact absurd w z
    | some bk =>
      obtain ⟨F2, S2, l2, q2⟩ := from_ok n0 hrs hm e2
      have b1 := (q1 _ F1 S1).1
      have b2 := (q2 _ F2 S2).1
      refine ⟨⟨_, F1, S1, ?_⟩, ⟨_, F2, S2, ?_⟩, fun gs G z => ?_⟩
      · rw [psum_cof n0 l1 hf hs]
        omega
      · rw [psum_cof n0 l2 hf hs]
        omega
      · have p := psum_mod G.len n0 hf hs
        rw [z] at p
        have w1 := (q1 gs G z).2 _ hm
        have w2 := (q2 gs G z).2 _ hf
        omega
/-! ### between two fillings -/
theorem mid_fit {n : Nat} {rs : List R4} {T : Int} {f s : Nat} (n0 : 0 < n) (hrs : ∀ r ∈ rs, r.Ok (n : Int)) (hf : f < n) (hs : s ≤ n) {fs gs : List Int} (F : Fit n rs fs) (G : Fit n rs gs) (eF : fs.sum = T) (eG : gs.sum = T) {w : Int}
    (h1 : psum fs (f : Int) s ≤ w) (h2 : w ≤ psum gs (f : Int) s) : ∃ ks, Fit n rs ks ∧ ks.sum = T ∧ psum ks (f : Int) s = w := by
  have hm : (f + s) % n < n := Nat.mod_lt _ n0
  have p1 := psum_mod F.len n0 hf hs
  have p2 := psum_mod G.len n0 hf hs
  rw [eF] at p1
  rw [eG] at p2
  have A := fe_fit n0 hrs F
  have C := fe_fit n0 hrs G
  rw [eF] at A
  rw [eG] at C
  have M := fe_min (fe_shift (-(gs.take f).sum) C) (fe_shift (-(fs.take f).sum + (w - psum fs (f : Int) s)) A)
  let h : List Int := (List.range n).map fun v => min ((gs.take v).sum + -(gs.take f).sum) ((fs.take v).sum + (-(fs.take f).sum + (w - psum fs (f : Int) s)))
  have hl : h.length = n := by simp [h]
  have hg : ∀ v, v < n → h.getD v 0 = min ((gs.take v).sum + -(gs.take f).sum) ((fs.take v).sum + (-(fs.take f).sum + (w - psum fs (f : Int) s))) := fun v hv => by simp [h, List.getD, hv]
  have hF : Fe (cbs n rs T) fun v => h.getD v 0 := fun l hl => by
    obtain ⟨x1, x2⟩ := cbs_ok n0 hrs l hl
    have := M l hl
    simp only [hg _ x1, hg _ x2]
    exact this
  obtain ⟨K, S⟩ := fit_fe n0 hrs hl hF
  refine ⟨_, K, S, ?_⟩
  rw [psum_cof n0 hl hf hs, hg _ hm, hg _ hf]
  omega
/-! ### every total between two that are possible -/
theorem tot_mid {n : Nat} {rs : List R4} {fs gs : List Int} {T : Int} (n0 : 0 < n) (hrs : ∀ r ∈ rs, r.Ok (n : Int)) (F : Fit n rs fs) (G : Fit n rs gs) (h1 : fs.sum ≤ T) (h2 : T ≤ gs.sum) : ∃ ks, Fit n rs ks ∧ ks.sum = T := by
  cases e : loopT n (lks n rs) T with
  | none =>
    obtain ⟨hs, _, _, K, S⟩ := loop_none n0 hrs e
    exact ⟨_, K, S⟩
  | some L =>
    obtain ⟨w, _, _, P⟩ := loop_some n0 hrs e
    obtain ⟨a1, b⟩ := loop_fit n0 hrs P F
    obtain ⟨a2, _⟩ := loop_fit n0 hrs P G
    exfalso
    by_cases ht : 0 ≤ tns L
    · have := Int.mul_le_mul_of_nonneg_left h1 ht
      omega
    · have := Int.mul_le_mul_of_nonpos_left (show tns L ≤ 0 by omega) h2
      omega
def plus (fs : List Int) (p : Nat) (k : Int) : List Int := fs.set p (fs.getD p 0 + k)
theorem plus_len (fs : List Int) (p : Nat) (k : Int) : (plus fs p k).length = fs.length := by simp [plus]
theorem plus_getD {fs : List Int} {p : Nat} (hp : p < fs.length) (k : Int) (v : Nat) : (plus fs p k).getD v 0 = fs.getD v 0 + if v = p then k else 0 := by
  unfold plus
  rw [getD_set hp]
  by_cases e : v = p
  · rw [if_pos e, if_pos e, e]
  · rw [if_neg e, if_neg e]
    omega
theorem plus_psum {fs : List Int} {p : Nat} (hp : p < fs.length) (k : Int) {f : Int} (f0 : 0 ≤ f) (f1 : f < fs.length) {s : Nat} (hs : s ≤ fs.length) : psum (plus fs p k) f s = psum fs f s + if covN fs.length f s p = true then k else 0 := by
  have hl := plus_len fs p k
  rw [psum_eq f0 (by rw [hl]; exact f1) s (by rw [hl]; exact hs), psum_eq f0 f1 s hs, hl]
  have e : ((List.range fs.length).map fun q => if covN fs.length f s q = true then (plus fs p k).getD q 0 else 0) = (List.range fs.length).map fun q => (if covN fs.length f s q = true then fs.getD q 0 else 0) + (if q = p then (if covN fs.length f s q = true then k else 0) else 0) := by
    refine List.map_congr_left fun q _ => ?_
    rw [plus_getD hp]
    by_cases c : covN fs.length f s q = true
    · rw [if_pos c, if_pos c]
      by_cases e : q = p
      · rw [if_pos e, if_pos e, if_pos c]
      · rw [if_neg e, if_neg e]
    · rw [if_neg c, if_neg c]
      split <;> rfl
  rw [e, sum_add (fun q => if covN fs.length f s q = true then fs.getD q 0 else 0), sum_one (fun q => if covN fs.length f s q = true then k else 0), if_pos hp]
theorem plus_sum {fs : List Int} {p : Nat} (hp : p < fs.length) (k : Int) : (plus fs p k).sum = fs.sum + k := by
  have hl := plus_len fs p k
  rw [← range_sum (plus fs p k), ← range_sum fs, hl]
  have e : ((List.range fs.length).map fun q => (plus fs p k).getD q 0) = (List.range fs.length).map fun q => fs.getD q 0 + (if q = p then k else 0) := List.map_congr_left fun q _ => plus_getD hp k q
  rw [e, sum_add (fun q => fs.getD q 0), sum_one (fun _ => k), if_pos hp]
theorem fit_more {n : Nat} {rs : List R4} {fs : List Int} {p : Nat} {k : Int} (hrs : ∀ r ∈ rs, r.Ok (n : Int)) (F : Fit n rs fs) (hp : p < n) (hk : 0 ≤ k) (hlack : lackB n rs p = true) : Fit n rs (plus fs p k) ∧ (plus fs p k).sum = fs.sum + k := by
  have hl := F.len
  refine ⟨⟨by rw [plus_len, hl], fun x hx => ?_, fun r hr => ?_⟩, plus_sum (by omega) k⟩
  · obtain ⟨v, hv, rfl⟩ := List.getElem_of_mem hx
    rw [← getD_el (d := 0) hv, plus_getD (by omega)]
    rw [plus_len] at hv
    have := F.nn _ (List.getElem_mem hv)
    rw [← getD_el (d := 0) hv] at this
    split <;> omega
  · have ok := hrs r hr
    obtain ⟨q1, q2⟩ := F.ft r hr
    have e := plus_psum (fs := fs) (p := p) (by omega) k ok.f0 (by rw [hl]; exact ok.f1) (s := r.s.toNat) (by have := ok.s1; omega)
    refine ⟨?_, fun m hm => ?_⟩
    · rw [e]
      split <;> omega
    · have a := (List.all_eq_true.mp hlack) r hr
      rw [hm] at a
      have c : covN fs.length r.f r.s.toNat p = false := by
        unfold covN
        rw [hl]
        have := ok.s0
        simp only [Option.isNone_some, Bool.false_or, Bool.not_eq_true', decide_eq_false_iff_not] at a
        rw [show ((r.s.toNat : Nat) : Int) = r.s by omega]
        exact decide_eq_false a
      have := q2 m hm
      rw [e, c]
      simp
      exact this
theorem tot_has {n : Nat} {rs : List R4} {lo T : Int} {hi : Option Int} (n0 : 0 < n) (hrs : ∀ r ∈ rs, r.Ok (n : Int)) (h : totP n rs = some (lo, hi)) (h1 : lo ≤ T) (h2 : ∀ H, hi = some H → T ≤ H) : ∃ fs, Fit n rs fs ∧ fs.sum = T := by
  have Z := tot_ok n0 hrs
  rw [h] at Z
  obtain ⟨⟨fs, F, e⟩, _, h3⟩ := Z
  cases hi with
  | none =>
    obtain ⟨p, hp, hlk⟩ := h3
    obtain ⟨K, S⟩ := fit_more (k := T - lo) hrs F hp (by omega) hlk
    exact ⟨_, K, by omega⟩
  | some H =>
    obtain ⟨_, ⟨gs, G, e2⟩, _⟩ := h3
    exact tot_mid n0 hrs F G (by omega) (by have := h2 H rfl; omega)
theorem tot_not {n : Nat} {rs : List R4} {lo T : Int} {hi : Option Int} (n0 : 0 < n) (hrs : ∀ r ∈ rs, r.Ok (n : Int)) (h : totP n rs = some (lo, hi)) (h1 : T < lo ∨ ∃ H, hi = some H ∧ H < T) : ∀ fs, Fit n rs fs → fs.sum ≠ T := fun fs F e => by
  have Z := tot_ok n0 hrs
  rw [h] at Z
  rcases h1 with h1 | ⟨H, rfl, h1⟩
  · have := Z.2.1 fs F
    omega
  · have := Z.2.2.2.2 fs F
    omega
theorem sm_has {n : Nat} {rs : List R4} {T : Int} {gs : List Int} (n0 : 0 < n) (hrs : ∀ r ∈ rs, r.Ok (n : Int)) (G : Fit n rs gs) (e : gs.sum = T) : ∃ fs, smP n rs T = some fs ∧ Fit n rs fs ∧ fs.sum = T := by
  have S := sm_ok n0 hrs T
  cases h : smP n rs T with
  | none =>
    rw [h] at S
    exact absurd e (S gs G)
  | some fs =>
    rw [h] at S
    exact ⟨fs, rfl, S.1, S.2.1⟩
theorem sm_not {n : Nat} {rs : List R4} {T : Int} (n0 : 0 < n) (hrs : ∀ r ∈ rs, r.Ok (n : Int)) (hno : ∀ fs, Fit n rs fs → fs.sum ≠ T) : smP n rs T = none := by
  have S := sm_ok n0 hrs T
  cases h : smP n rs T with
  | none => rfl
  | some fs =>
    rw [h] at S
    exact absurd S.2.1 (hno fs S.1)
theorem wr_not {n : Nat} {rs : List R4} {T : Int} {f s : Nat} (n0 : 0 < n) (hrs : ∀ r ∈ rs, r.Ok (n : Int)) (hf : f < n) (hs : s ≤ n) (hno : ∀ fs, Fit n rs fs → fs.sum ≠ T) : wrP n rs T f s = none := by
  have S := wr_ok (T := T) n0 hrs hf hs
  cases h : wrP n rs T f s with
  | none => rfl
  | some ab =>
    rw [h] at S
    obtain ⟨⟨fs, F, e, _⟩, _⟩ := S
    exact absurd e (hno fs F)
/-- greatest totals are no greater than all mosts together -/
theorem most_le_all {B : Int} (b0 : 0 ≤ B) : ∀ {rs : List R4}, (∀ r ∈ rs, ∀ m, r.m = some m → m ≤ B) → mostSum rs ≤ B * rs.length
  | [], _ => by simp [mostSum]
  | r :: rs, h => by
    have ih := most_le_all b0 (rs := rs) fun x hx => h x (List.mem_cons_of_mem _ hx)
    have e : (B * ((r :: rs).length : Nat) : Int) = B * rs.length + B := by
      rw [List.length_cons, Int.natCast_add, Int.mul_add]
      simp
    rw [e]
    unfold mostSum at ih ⊢
    cases hm : r.m with
    | none =>
      rw [List.filterMap_cons_none (f := fun r : R4 => r.m) hm]
      omega
    | some m =>
      rw [List.filterMap_cons_some (f := fun r : R4 => r.m) hm, List.sum_cons]
      have := h r List.mem_cons_self m hm
      omega
theorem high_le {n : Nat} {rs : List R4} {lo H B : Int} (n0 : 0 < n) (b0 : 0 ≤ B) (hrs : ∀ r ∈ rs, r.Ok (n : Int)) (hb : ∀ r ∈ rs, ∀ m, r.m = some m → m ≤ B) (h : totP n rs = some (lo, some H)) : lo ≤ H ∧ H ≤ B * rs.length := by
  have Z := tot_ok n0 hrs
  rw [h] at Z
  obtain ⟨_, z2, z3, ⟨fs, F, e⟩, _⟩ := Z
  have := fit_le_most n0 hrs F z3
  have := most_le_all b0 hb
  have := z2 fs F
  omega
end RW
namespace RW
open PySem PySem.Spec PyProof.Rows L2 DL
local macro_rules | `(tactic| array_mem_dec) => `(tactic| first | assumption | omega | (refine small_le ?_; omega) | (refine small_len ?_; omega) | (refine cmul_l ?_ ?_ <;> omega) | (refine cmul_r ?_ ?_ <;> omega) | (refine cdiv_ok ?_ ?_ <;> omega) | (refine small_le ?_; simp only [List.length_cons, List.length_nil, List.length_append, List.length_map, dInts_len, rangeD_len, List.length_replicate, List.length_take, List.length_drop, List.length_reverse, List.length_range, rep_len] <;> omega) | (refine small_len ?_; simp only [List.length_cons, List.length_nil, List.length_append, List.length_map, dInts_len, rangeD_len, List.length_replicate, List.length_take, List.length_drop, List.length_reverse, List.length_range, rep_len] <;> omega) | (refine ⟨?_, ?_⟩ <;> omega) | (refine ⟨?_, ?_, ?_⟩ <;> omega) | (refine ⟨?_, ?_, ?_, ?_⟩ <;> omega) | (simp only [List.length_cons, List.length_nil, List.length_append, List.length_map, dInts_len, rangeD_len, List.length_replicate, List.length_take, List.length_drop, List.length_reverse, List.length_range, rep_len] <;> omega) | (refine ⟨?_, ?_, small_le ?_⟩ <;> (try simp only [List.length_cons, List.length_nil, List.length_append, List.length_map, dInts_len, rangeD_len, List.length_replicate, List.length_take, List.length_drop, List.length_reverse, List.length_range, rep_len]) <;> omega) | (refine cpow_ok ?_ ?_ ?_ <;> omega) | (with_unfolding_all decide) | (simp [SeqAt.shaped, PyData.canLay0, PyData.canLayAll0, PyData.depth, PyData.depthAll]; done) | fail)
local macro_rules | `(tactic| ac_rfl) => `(tactic| simp (config := { dsimp := false, implicitDefEqProofs := false, failIfUnchanged := false }) (disch := array_mem_dec) only [↓x_set0, ↓x_setS, ↓x_own0, ↓x_ownS, ↓x_st0, ↓x_stS, ↓x_stN, ↓x_wm0, ↓x_wmS, ↓x_seq, ↓x_nx, ↓x_ret, ↓x_retN, ↓x_asg, ↓x_if, ↓x_drop, ↓x_brk, ↓x_cnt, ↓x_par, ↓x_par3, ↓x_for, ↓x_new, ↓x_app, ↓x_frz, ↓x_ownSet, ↓x_own, ↓x_parF, ↓x_parFF, ↓x_parEF, ↓x_par3F, ↓x_newLst, ↓x_dat, ↓x_int, ↓x_bool, ↓x_tru0, ↓x_truB, ↓x_truI, ↓x_truL, ↓x_truT, ↓x_v0, ↓x_v0k, ↓x_v0e, ↓x_vS, ↓x_c, ↓x_op, ↓x_un, ↓x_anil, ↓x_acons, ↓x_call, ↓x_callX, ↓x_callV, ↓x_callVX, ↓x_dats0, ↓x_datsS, ↓x_cb, ↓x_rdI, ↓x_rdIc, ↓x_neg, ↓x_eqS, ↓x_eqI, ↓x_eqB, ↓x_eqL, ↓x_eqT, ↓x_eqNT, ↓x_eqTN, ↓x_eqNN, ↓x_ne, ↓x_isN0, ↓x_isNI, ↓x_isNB, ↓x_isNS, ↓x_isNT, ↓x_isNL, ↓x_ntN0, ↓x_ntNI, ↓x_ntNB, ↓x_ntNS, ↓x_ntNT, ↓x_ntNL, ↓x_ixL, ↓x_ixT, ↓x_ixO, ↓x_ix0, ↓x_ix1, ↓x_ix2, ↓x_ix3, ↓x_inTt, ↓x_inTf, ↓x_inLt, ↓x_inLf, ↓x_tup, ↓x_lst, ↓x_lenL, ↓x_lenT, ↓x_tupL, ↓x_tupT, ↓x_lstL, ↓x_lstT, ↓x_sumL, ↓x_sumT, ↓x_max, ↓x_min, ↓x_abs, ↓x_intI, ↓x_intB, x_if1, x_if0, ↓x_repr, ↓x_ty, ↓x_addUI, ↓x_addUT, ↓x_addRT, ↓x_addRR, ↓x_lenR, ↓x_revR, ↓x_isNR, ↓x_addXL, ↓x_addXT, ↓x_addXI, ↓x_revT, ↓x_isB, ↓x_ntB, ↓x_neNil, ↓x_eqNil, ↓x_neNilT, ↓x_eqNilT, ↓x_mulUI, ↓x_tupRg, ↓x_lstRg, ↓x_slT, x_cut1, x_evTC, x_evTN, x_evLC, x_evLN, x_evI, x_evS, x_evB, x_evNN, x_evNI, x_evIN, x_evNT, x_evTNo, ↓x_oNo, ↓x_oSome, ↓x_chain, ↓x_val, ↓x_tnt, ↓x_tan, ↓x_too, ↓x_dnt, ↓x_dan, ↓x_doo, ↓x_dorT, ↓x_ife, ↓x_lc, ↓x_flc, ↓x_ton, ↓x_flst, ↓x_flist, ↓x_fcat, ↓x_fsl, ↓x_frev, ↓x_frep, ↓x_df, ↓x_ownIx, ↓x_ownLen, ↓x_repL, ↓x_wl, ↓x_wt, ↓x_wr1, ↓x_wr2, ↓x_wzT, ↓x_wzL, ↓x_weT, ↓x_weL, ↓x_gnm, ↓x_gs0, ↓x_gsS, ↓x_gtu, ↓x_gli, x_wipe0, x_wipeS, ↓x_sd, ↓x_sdY, x_flI, x_flS', x_flN, x_flB, x_all0, x_allS, x_andT, ↓x_brT, ↓x_brF, ↓x_brN, ↓x_brO, ↓x_brA, x_eqPI, x_any0, x_anyS, ↓x_brP, ↓x_brQ, ↓x_brB, ↓x_brC, x_s0, x_sS, x_g0, x_gS, ↓x_body, ↓x_bodyX, ↓x_frg, ↓x_ownLst, ↓x_ownNe, ↓x_ownEq, ↓x_ext, ↓x_wr3, ↓x_lstZip, ↓x_lstZipL, DL.isTup, DL.isInt, DL.isBool, DL.isStr, Int.reduceToNat, Int.reducePow, List.nil_append, List.cons_append])
local macro_rules | `(tactic| array_get_dec) => `(tactic| simp (config := { dsimp := false, implicitDefEqProofs := false, failIfUnchanged := false }) (disch := array_mem_dec) only [↓x_set0, ↓x_setS, ↓x_own0, ↓x_ownS, ↓x_st0, ↓x_stS, ↓x_stN, ↓x_wm0, ↓x_wmS, ↓x_seq, ↓x_nx, ↓x_ret, ↓x_retN, ↓x_asg, ↓x_if, ↓x_drop, ↓x_brk, ↓x_cnt, ↓x_par, ↓x_par3, ↓x_for, ↓x_new, ↓x_app, ↓x_frz, ↓x_ownSet, ↓x_own, ↓x_parF, ↓x_parFF, ↓x_parEF, ↓x_par3F, ↓x_newLst, ↓x_dat, ↓x_int, ↓x_bool, ↓x_tru0, ↓x_truB, ↓x_truI, ↓x_truL, ↓x_truT, ↓x_v0, ↓x_v0k, ↓x_v0e, ↓x_vS, ↓x_c, ↓x_op, ↓x_un, ↓x_anil, ↓x_acons, ↓x_call, ↓x_callX, ↓x_callV, ↓x_callVX, ↓x_dats0, ↓x_datsS, ↓x_cb, ↓x_rdI, ↓x_rdIc, ↓x_neg, ↓x_eqS, ↓x_eqI, ↓x_eqB, ↓x_eqL, ↓x_eqT, ↓x_eqNT, ↓x_eqTN, ↓x_eqNN, ↓x_ne, ↓x_isN0, ↓x_isNI, ↓x_isNB, ↓x_isNS, ↓x_isNT, ↓x_isNL, ↓x_ntN0, ↓x_ntNI, ↓x_ntNB, ↓x_ntNS, ↓x_ntNT, ↓x_ntNL, ↓x_ixL, ↓x_ixT, ↓x_ixO, ↓x_ix0, ↓x_ix1, ↓x_ix2, ↓x_ix3, ↓x_inTt, ↓x_inTf, ↓x_inLt, ↓x_inLf, ↓x_tup, ↓x_lst, ↓x_lenL, ↓x_lenT, ↓x_tupL, ↓x_tupT, ↓x_lstL, ↓x_lstT, ↓x_sumL, ↓x_sumT, ↓x_max, ↓x_min, ↓x_abs, ↓x_intI, ↓x_intB, x_if1, x_if0, ↓x_repr, ↓x_ty, ↓x_addUI, ↓x_addUT, ↓x_addRT, ↓x_addRR, ↓x_lenR, ↓x_revR, ↓x_isNR, ↓x_addXL, ↓x_addXT, ↓x_addXI, ↓x_revT, ↓x_isB, ↓x_ntB, ↓x_neNil, ↓x_eqNil, ↓x_neNilT, ↓x_eqNilT, ↓x_mulUI, ↓x_tupRg, ↓x_lstRg, ↓x_slT, x_cut1, x_evTC, x_evTN, x_evLC, x_evLN, x_evI, x_evS, x_evB, x_evNN, x_evNI, x_evIN, x_evNT, x_evTNo, ↓x_oNo, ↓x_oSome, ↓x_chain, ↓x_val, ↓x_tnt, ↓x_tan, ↓x_too, ↓x_dnt, ↓x_dan, ↓x_doo, ↓x_dorT, ↓x_ife, ↓x_lc, ↓x_flc, ↓x_ton, ↓x_flst, ↓x_flist, ↓x_fcat, ↓x_fsl, ↓x_frev, ↓x_frep, ↓x_df, ↓x_ownIx, ↓x_ownLen, ↓x_repL, ↓x_wl, ↓x_wt, ↓x_wr1, ↓x_wr2, ↓x_wzT, ↓x_wzL, ↓x_weT, ↓x_weL, ↓x_gnm, ↓x_gs0, ↓x_gsS, ↓x_gtu, ↓x_gli, x_wipe0, x_wipeS, ↓x_sd, ↓x_sdY, x_flI, x_flS', x_flN, x_flB, x_all0, x_allS, x_andT, ↓x_brT, ↓x_brF, ↓x_brN, ↓x_brO, ↓x_brA, x_eqPI, x_any0, x_anyS, ↓x_brP, ↓x_brQ, ↓x_brB, ↓x_brC, x_s0, x_sS, x_g0, x_gS, ↓x_body, ↓x_bodyX, ↓x_frg, ↓x_ownLst, ↓x_ownNe, ↓x_ownEq, ↓x_ext, ↓x_wr3, ↓x_lstZip, ↓x_lstZipL, DL.isTup, DL.isInt, DL.isBool, DL.isStr, Int.reduceToNat, Int.reducePow, List.nil_append, List.cons_append, ↓x_fl0, ↓x_flS, ↓x_fl, ↓x_ll0, ↓x_llS])
/-! ### climbs as data; settled, the fillings of a total -/
def cbD (l : Cb) : PyData := .tuple [.int (l.s : Int), .int (l.e : Int), .int l.c]
def cbsD (cs : List Cb) : PyData := .list (cs.map cbD)
def optL : Option (List Int) → PyData
  | none => .none
  | some h => .list (dInts h)
def optF : Option (List Int) → PyData
  | none => .none
  | some h => .tuple (dInts h)
theorem lks_len (n : Nat) (rs : List R4) : (lks n rs).length ≤ n + 2 * rs.length := by
  have := rls_len n rs rs.length
  unfold lks
  simp
  omega
theorem climbs_ok {n : Nat} {rs : List R4} {T : Int} (n0 : 0 < n) (n1 : n ≤ 12) (hl : rs.length ≤ 1000) (hrs : ∀ r ∈ rs, r.Ok (n : Int)) {c : Nat} {P : Vl → Nat → Prop} (hP : P (.dat (cbsD (cbs n rs T))) c) : sp_climbs_of [.dat (.int (n : Int)), .dat (rDs rs), .dat (.int T)] c P := by
  have hlen := lks_len n rs
  unfold sp_climbs_of dt_climbs_of
  ac_rfl
  refine cl_ok (links_ok n0 n1 hl hrs ?_)
  unfold lksD
  ac_rfl
  refine ll_map lkD (fun l => cbD ⟨l.s, l.e, cl T l⟩) (fun l hm A hA => ?_) ?_
  · obtain ⟨t1, t2⟩ := (lks_ok n0 hrs).2 l hm
    unfold lkD
    ac_rfl
    exact hA
  · unfold cbsD cbs at hP
    rw [List.map_map] at hP
    exact hP
theorem settled_ok {cs : List Cb} {h : List Int} {n : Nat} (hn : h.length = n) (n1 : n ≤ 1000) (hl : ∀ l ∈ cs, l.s < n ∧ l.e < n) {c : Nat} {P : Vl → Nat → Prop} (hP : P (.dat (optL (stdP cs h))) c) : sp_settled [.dat (cbsD cs), .dat (.list (dInts h))] c P := by
  have hdl : (dInts h).length = n := by rw [dInts_len, hn]
  unfold sp_settled dt_settled
  ac_rfl
  refine fl_inv (fun j env c' => c = c' ∧ ∃ g : List Int, g.length = n ∧ j ≤ n ∧ stdP cs h = stdl cs (n - j) g ∧ ∃ x2 x3 x4 x5 x6 x7, env = [some (.dat (cbsD cs)), some (.dat (.list (dInts g))), x2, x3, x4, x5, x6, x7]) (fun j d env c' k hd hI hk => ?_) ⟨rfl, h, hn, Nat.zero_le _, by unfold stdP; rw [hn]; rfl, none, none, none, none, none, none, rfl⟩ (fun env c' hI => ?_)
  · obtain ⟨rfl, g, hg, hj, he, x2, x3, x4, x5, x6, x7, rfl⟩ := hI
    obtain ⟨hj2, rfl⟩ := rangeD_get hd
    have hj2 : j < n := by omega
    unfold cbsD
    ac_rfl
    refine fl_inv (fun i env c' => c = c' ∧ ∃ x4 x5 x6 x7, env = [some (.dat (.list (cs.map cbD))), some (.dat (.list (dInts g))), some (.dat (.int (0 + (j : Int)))), some (.own (dInts (gsr (cs.take i) g))), x4, x5, x6, x7]) (fun i d env c' k2 hd2 hI2 hk2 => ?_) ⟨rfl, _, _, _, _, rfl⟩ (fun env c' hI2 => ?_)
    · obtain ⟨rfl, x4, x5, x6, x7, rfl⟩ := hI2
      rw [List.getElem?_map] at hd2
      obtain ⟨l, hlk, rfl⟩ := Option.map_eq_some_iff.mp hd2
      have hm : l ∈ cs := List.mem_of_getElem? hlk
      obtain ⟨b1, b2⟩ := hl l hm
      obtain ⟨gl, _⟩ := gsr_ok (cs := cs.take i) hg (fun x hx => hl x (List.mem_of_mem_take hx))
      have e : gsr (cs.take (i + 1)) g = gs1 (gsr (cs.take i) g) l := fold_take hlk
      generalize gsr (cs.take i) g = q at gl e
      have i1 : atI (dInts q) (l.s : Int) = some (.int (q.getD l.s 0)) := by
        rw [getD_el (by omega)]
        exact dInts_at2 (by omega)
      have i2 : atI (dInts q) (l.e : Int) = some (.int (q.getD l.e 0)) := by
        rw [getD_el (by omega)]
        exact dInts_at2 (by omega)
      unfold gs1 at e
      rw [show cbD l = .tuple [.int (l.s : Int), .int (l.e : Int), .int l.c] from rfl]
      ac_rfl
      refine ixk_ok i1 ?_
      ac_rfl
      refine ixk_ok i2 ?_
      ac_rfl
      refine br_dec (fun hx => ?_) (fun hx => ?_)
      · rw [if_pos hx] at e
        ac_rfl
        refine ixn_ok (ixN_nat (by rw [dInts_len]; omega)) ?_
        ac_rfl
        rw [dInts_set, ← e]
        exact hk2 _ _ ⟨rfl, _, _, _, _, rfl⟩
      · rw [if_neg hx] at e
        ac_rfl
        rw [← e]
        exact hk2 _ _ ⟨rfl, _, _, _, _, rfl⟩
    · obtain ⟨rfl, x4, x5, x6, x7, rfl⟩ := hI2
      rw [List.length_map, List.take_length]
      obtain ⟨gl, _⟩ := gsr_ok (cs := cs) hg hl
      obtain ⟨m, hm⟩ : ∃ m, n - j = m + 1 := ⟨n - j - 1, by omega⟩
      rw [hm] at he
      unfold stdl at he
      have s1 := shaped_lst (gsr cs g)
      have s2 := shaped_lst g
      ac_rfl
      rw [eqv_lst]
      refine br_dec (fun hx => ?_) (fun hx => ?_)
      · rw [if_pos hx] at he
        ac_rfl
        rw [he] at hP
        exact hP
      · rw [if_neg hx] at he
        ac_rfl
        exact hk _ _ ⟨rfl, gsr cs g, gl, by omega, by rw [he, show n - (j + 1) = m by omega], _, _, _, _, _, _, rfl⟩
  · obtain ⟨rfl, g, hg, hj, he, x2, x3, x4, x5, x6, x7, rfl⟩ := hI
    rw [rangeD_len, hdl, show n - (n : Int).toNat = 0 by omega] at he
    unfold stdl at he
    rw [he] at hP
    ac_rfl
    exact hP
theorem from_okW {cs : List Cb} {T : Int} {n f : Nat} (n1 : n ≤ 1000) (hl : ∀ l ∈ cs, l.s < n ∧ l.e < n) {c : Nat} {P : Vl → Nat → Prop} (hP : P (.dat (optL (stdP cs (frm n T f)))) c) : sp_heights_from [.dat (.int (n : Int)), .dat (cbsD cs), .dat (.int T), .dat (.int (f : Int))] c P := by
  unfold sp_heights_from dt_heights_from
  ac_rfl
  refine ll_range (fun j => .int (if j < f then -T else 0)) (fun j hj A hA => ?_) ?_
  · ac_rfl
    refine br_dec (fun hx => ?_) (fun hx => ?_)
    · rw [if_pos (by omega)] at hA
      ac_rfl
      exact hA
    · rw [if_neg (by omega)] at hA
      ac_rfl
      exact hA
  · ac_rfl
    have e : (List.range (n : Int).toNat).map (fun j => PyData.int (if j < f then -T else 0)) = dInts (frm n T f) := by
      unfold dInts frm
      rw [List.map_map, Int.toNat_natCast]
      rfl
    rw [e]
    exact cl_ok (settled_ok (frm_len n T f) n1 hl hP)
theorem frm_zero (n : Nat) (T : Int) : frm n T 0 = List.replicate n 0 := by
  unfold frm
  refine List.ext_getElem (by simp) fun i h1 h2 => by simp
theorem smallest_ok {n : Nat} {rs : List R4} {T : Int} (n0 : 0 < n) (n1 : n ≤ 12) (hl : rs.length ≤ 1000) (hrs : ∀ r ∈ rs, r.Ok (n : Int)) {c : Nat} {P : Vl → Nat → Prop} (hP : P (.dat (optF (smP n rs T))) c) : sp_smallest_filling [.dat (.int (n : Int)), .dat (rDs rs), .dat (.int T)] c P := by
  unfold sp_smallest_filling dt_smallest_filling
  ac_rfl
  refine cl_ok (climbs_ok n0 n1 hl hrs ?_)
  ac_rfl
  refine cl_ok (from_okW (f := 0) (by omega) (cbs_ok n0 hrs) ?_)
  rw [frm_zero]
  unfold smP at hP
  cases e : stdP (cbs n rs T) (List.replicate n 0) with
  | none =>
    rw [e] at hP
    unfold optL
    ac_rfl
    exact hP
  | some h =>
    rw [e] at hP
    have L := std_some (cbs_ok n0 hrs) (by simp) e
    have hlen := L.len
    unfold optL
    ac_rfl
    exact cl_ok (counts_ok (by omega) (by omega) hP)
def optP : Option (Int × Int) → PyData
  | none => .none
  | some (a, b) => .tuple [.int a, .int b]
theorem range_ok {n : Nat} {rs : List R4} {T : Int} {f s : Nat} (n0 : 0 < n) (n1 : n ≤ 12) (hl : rs.length ≤ 1000) (hrs : ∀ r ∈ rs, r.Ok (n : Int)) (hf : f < n) (hs : s ≤ n) {c : Nat} {P : Vl → Nat → Prop} (hP : P (.dat (optP (wrP n rs T f s))) c) : sp_window_range [.dat (.int (n : Int)), .dat (rDs rs), .dat (.int T), .dat (.int (f : Int)), .dat (.int (s : Int))] c P := by
  have hm : (f + s) % n < n := Nat.mod_lt _ n0
  have e1 : ((f : Int) + (s : Int)) % (n : Int) = (((f + s) % n : Nat) : Int) := by simp
  have e2 : ((f : Int) + (s : Int)) / (n : Int) = (((f + s) / n : Nat) : Int) := by simp
  have hd : (f + s) / n ≤ 1 + 1 := by
    have : (f + s) / n < 3 := Nat.div_lt_of_lt_mul (by omega)
    omega
  have cm : CMul (((f + s) / n : Nat) : Int) T := by
    generalize (f + s) / n = q at hd
    exact .inl ⟨by omega, by omega⟩
  unfold sp_window_range dt_window_range
  ac_rfl
  refine cl_ok (climbs_ok n0 n1 hl hrs ?_)
  ac_rfl
  rw [e1, e2]
  ac_rfl
  refine cl_ok (from_okW (by omega) (cbs_ok n0 hrs) ?_)
  have W := wr_ok (T := T) n0 hrs hf hs
  unfold wrP at hP W
  cases e : stdP (cbs n rs T) (frm n T f) with
  | none =>
    rw [e] at hP
    unfold optL
    ac_rfl
    exact hP
  | some on =>
    rw [e] at hP W
    have L := (std_some (cbs_ok n0 hrs) (frm_len _ _ _) e).len
    have L2 := L
    unfold optL
    ac_rfl
    refine cl_ok (from_okW (by omega) (cbs_ok n0 hrs) ?_)
    cases e2 : stdP (cbs n rs T) (frm n T ((f + s) % n)) with
    | none =>
      rw [e2] at hP
      have z := std_none n0 (cbs_ok n0 hrs) (frm_len _ _ _) e2 _ (std_some (cbs_ok n0 hrs) (frm_len _ _ _) e).fe
      exact z.elim
    | some bk =>
      rw [e2] at hP
      have L3 := (std_some (cbs_ok n0 hrs) (frm_len _ _ _) e2).len
      unfold optL
      ac_rfl
      refine ixk_ok (dInts_at2 (by omega : (f + s) % n < on.length)) ?_
      ac_rfl
      refine ixk_ok (dInts_at2 (by omega : f < bk.length)) ?_
      ac_rfl
      unfold optP at hP
      simp only [getD_el (by omega : (f + s) % n < on.length), getD_el (by omega : f < bk.length)] at hP
      exact hP

end RW
namespace RW
open PySem PySem.Spec PyProof.Rows L2 DL
local macro_rules | `(tactic| array_mem_dec) => `(tactic| first | assumption | omega | (refine small_le ?_; omega) | (refine small_len ?_; omega) | (refine cmul_l ?_ ?_ <;> omega) | (refine cmul_r ?_ ?_ <;> omega) | (refine cdiv_ok ?_ ?_ <;> omega) | (refine small_le ?_; simp only [List.length_cons, List.length_nil, List.length_append, List.length_map, dInts_len, rangeD_len, List.length_replicate, List.length_take, List.length_drop, List.length_reverse, List.length_range, rep_len] <;> omega) | (refine small_len ?_; simp only [List.length_cons, List.length_nil, List.length_append, List.length_map, dInts_len, rangeD_len, List.length_replicate, List.length_take, List.length_drop, List.length_reverse, List.length_range, rep_len] <;> omega) | (refine ⟨?_, ?_⟩ <;> omega) | (refine ⟨?_, ?_, ?_⟩ <;> omega) | (refine ⟨?_, ?_, ?_, ?_⟩ <;> omega) | (simp only [List.length_cons, List.length_nil, List.length_append, List.length_map, dInts_len, rangeD_len, List.length_replicate, List.length_take, List.length_drop, List.length_reverse, List.length_range, rep_len] <;> omega) | (refine ⟨?_, ?_, small_le ?_⟩ <;> (try simp only [List.length_cons, List.length_nil, List.length_append, List.length_map, dInts_len, rangeD_len, List.length_replicate, List.length_take, List.length_drop, List.length_reverse, List.length_range, rep_len]) <;> omega) | (refine cpow_ok ?_ ?_ ?_ <;> omega) | (with_unfolding_all decide) | (simp [SeqAt.shaped, PyData.canLay0, PyData.canLayAll0, PyData.depth, PyData.depthAll]; done) | fail)
local macro_rules | `(tactic| ac_rfl) => `(tactic| simp (config := { dsimp := false, implicitDefEqProofs := false, failIfUnchanged := false }) (disch := array_mem_dec) only [↓x_set0, ↓x_setS, ↓x_own0, ↓x_ownS, ↓x_st0, ↓x_stS, ↓x_stN, ↓x_wm0, ↓x_wmS, ↓x_seq, ↓x_nx, ↓x_ret, ↓x_retN, ↓x_asg, ↓x_if, ↓x_drop, ↓x_brk, ↓x_cnt, ↓x_par, ↓x_par3, ↓x_for, ↓x_new, ↓x_app, ↓x_frz, ↓x_ownSet, ↓x_own, ↓x_parF, ↓x_parFF, ↓x_parEF, ↓x_par3F, ↓x_newLst, ↓x_dat, ↓x_int, ↓x_bool, ↓x_tru0, ↓x_truB, ↓x_truI, ↓x_truL, ↓x_truT, ↓x_v0, ↓x_v0k, ↓x_v0e, ↓x_vS, ↓x_c, ↓x_op, ↓x_un, ↓x_anil, ↓x_acons, ↓x_call, ↓x_callX, ↓x_callV, ↓x_callVX, ↓x_dats0, ↓x_datsS, ↓x_cb, ↓x_rdI, ↓x_rdIc, ↓x_neg, ↓x_eqS, ↓x_eqI, ↓x_eqB, ↓x_eqL, ↓x_eqT, ↓x_eqNT, ↓x_eqTN, ↓x_eqNN, ↓x_ne, ↓x_isN0, ↓x_isNI, ↓x_isNB, ↓x_isNS, ↓x_isNT, ↓x_isNL, ↓x_ntN0, ↓x_ntNI, ↓x_ntNB, ↓x_ntNS, ↓x_ntNT, ↓x_ntNL, ↓x_ixL, ↓x_ixT, ↓x_ixO, ↓x_ix0, ↓x_ix1, ↓x_ix2, ↓x_ix3, ↓x_inTt, ↓x_inTf, ↓x_inLt, ↓x_inLf, ↓x_tup, ↓x_lst, ↓x_lenL, ↓x_lenT, ↓x_tupL, ↓x_tupT, ↓x_lstL, ↓x_lstT, ↓x_sumL, ↓x_sumT, ↓x_max, ↓x_min, ↓x_abs, ↓x_intI, ↓x_intB, x_if1, x_if0, ↓x_repr, ↓x_ty, ↓x_addUI, ↓x_addUT, ↓x_addRT, ↓x_addRR, ↓x_lenR, ↓x_revR, ↓x_isNR, ↓x_addXL, ↓x_addXT, ↓x_addXI, ↓x_revT, ↓x_isB, ↓x_ntB, ↓x_neNil, ↓x_eqNil, ↓x_neNilT, ↓x_eqNilT, ↓x_mulUI, ↓x_tupRg, ↓x_lstRg, ↓x_slT, x_cut1, x_evTC, x_evTN, x_evLC, x_evLN, x_evI, x_evS, x_evB, x_evNN, x_evNI, x_evIN, x_evNT, x_evTNo, ↓x_oNo, ↓x_oSome, ↓x_chain, ↓x_val, ↓x_tnt, ↓x_tan, ↓x_too, ↓x_dnt, ↓x_dan, ↓x_doo, ↓x_dorT, ↓x_ife, ↓x_lc, ↓x_flc, ↓x_ton, ↓x_flst, ↓x_flist, ↓x_fcat, ↓x_fsl, ↓x_frev, ↓x_frep, ↓x_df, ↓x_ownIx, ↓x_ownLen, ↓x_repL, ↓x_wl, ↓x_wt, ↓x_wr1, ↓x_wr2, ↓x_wzT, ↓x_wzL, ↓x_weT, ↓x_weL, ↓x_gnm, ↓x_gs0, ↓x_gsS, ↓x_gtu, ↓x_gli, x_wipe0, x_wipeS, ↓x_sd, ↓x_sdY, x_flI, x_flS', x_flN, x_flB, x_all0, x_allS, x_andT, ↓x_brT, ↓x_brF, ↓x_brN, ↓x_brO, ↓x_brA, x_eqPI, x_any0, x_anyS, ↓x_brP, ↓x_brQ, ↓x_brB, ↓x_brC, x_s0, x_sS, x_g0, x_gS, ↓x_body, ↓x_bodyX, ↓x_frg, ↓x_ownLst, ↓x_ownNe, ↓x_ownEq, ↓x_ext, ↓x_wr3, ↓x_lstZip, ↓x_lstZipL, DL.isTup, DL.isInt, DL.isBool, DL.isStr, Int.reduceToNat, Int.reducePow, List.nil_append, List.cons_append])
local macro_rules | `(tactic| array_get_dec) => `(tactic| simp (config := { dsimp := false, implicitDefEqProofs := false, failIfUnchanged := false }) (disch := array_mem_dec) only [↓x_set0, ↓x_setS, ↓x_own0, ↓x_ownS, ↓x_st0, ↓x_stS, ↓x_stN, ↓x_wm0, ↓x_wmS, ↓x_seq, ↓x_nx, ↓x_ret, ↓x_retN, ↓x_asg, ↓x_if, ↓x_drop, ↓x_brk, ↓x_cnt, ↓x_par, ↓x_par3, ↓x_for, ↓x_new, ↓x_app, ↓x_frz, ↓x_ownSet, ↓x_own, ↓x_parF, ↓x_parFF, ↓x_parEF, ↓x_par3F, ↓x_newLst, ↓x_dat, ↓x_int, ↓x_bool, ↓x_tru0, ↓x_truB, ↓x_truI, ↓x_truL, ↓x_truT, ↓x_v0, ↓x_v0k, ↓x_v0e, ↓x_vS, ↓x_c, ↓x_op, ↓x_un, ↓x_anil, ↓x_acons, ↓x_call, ↓x_callX, ↓x_callV, ↓x_callVX, ↓x_dats0, ↓x_datsS, ↓x_cb, ↓x_rdI, ↓x_rdIc, ↓x_neg, ↓x_eqS, ↓x_eqI, ↓x_eqB, ↓x_eqL, ↓x_eqT, ↓x_eqNT, ↓x_eqTN, ↓x_eqNN, ↓x_ne, ↓x_isN0, ↓x_isNI, ↓x_isNB, ↓x_isNS, ↓x_isNT, ↓x_isNL, ↓x_ntN0, ↓x_ntNI, ↓x_ntNB, ↓x_ntNS, ↓x_ntNT, ↓x_ntNL, ↓x_ixL, ↓x_ixT, ↓x_ixO, ↓x_ix0, ↓x_ix1, ↓x_ix2, ↓x_ix3, ↓x_inTt, ↓x_inTf, ↓x_inLt, ↓x_inLf, ↓x_tup, ↓x_lst, ↓x_lenL, ↓x_lenT, ↓x_tupL, ↓x_tupT, ↓x_lstL, ↓x_lstT, ↓x_sumL, ↓x_sumT, ↓x_max, ↓x_min, ↓x_abs, ↓x_intI, ↓x_intB, x_if1, x_if0, ↓x_repr, ↓x_ty, ↓x_addUI, ↓x_addUT, ↓x_addRT, ↓x_addRR, ↓x_lenR, ↓x_revR, ↓x_isNR, ↓x_addXL, ↓x_addXT, ↓x_addXI, ↓x_revT, ↓x_isB, ↓x_ntB, ↓x_neNil, ↓x_eqNil, ↓x_neNilT, ↓x_eqNilT, ↓x_mulUI, ↓x_tupRg, ↓x_lstRg, ↓x_slT, x_cut1, x_evTC, x_evTN, x_evLC, x_evLN, x_evI, x_evS, x_evB, x_evNN, x_evNI, x_evIN, x_evNT, x_evTNo, ↓x_oNo, ↓x_oSome, ↓x_chain, ↓x_val, ↓x_tnt, ↓x_tan, ↓x_too, ↓x_dnt, ↓x_dan, ↓x_doo, ↓x_dorT, ↓x_ife, ↓x_lc, ↓x_flc, ↓x_ton, ↓x_flst, ↓x_flist, ↓x_fcat, ↓x_fsl, ↓x_frev, ↓x_frep, ↓x_df, ↓x_ownIx, ↓x_ownLen, ↓x_repL, ↓x_wl, ↓x_wt, ↓x_wr1, ↓x_wr2, ↓x_wzT, ↓x_wzL, ↓x_weT, ↓x_weL, ↓x_gnm, ↓x_gs0, ↓x_gsS, ↓x_gtu, ↓x_gli, x_wipe0, x_wipeS, ↓x_sd, ↓x_sdY, x_flI, x_flS', x_flN, x_flB, x_all0, x_allS, x_andT, ↓x_brT, ↓x_brF, ↓x_brN, ↓x_brO, ↓x_brA, x_eqPI, x_any0, x_anyS, ↓x_brP, ↓x_brQ, ↓x_brB, ↓x_brC, x_s0, x_sS, x_g0, x_gS, ↓x_body, ↓x_bodyX, ↓x_frg, ↓x_ownLst, ↓x_ownNe, ↓x_ownEq, ↓x_ext, ↓x_wr3, ↓x_lstZip, ↓x_lstZipL, DL.isTup, DL.isInt, DL.isBool, DL.isStr, Int.reduceToNat, Int.reducePow, List.nil_append, List.cons_append, ↓x_fl0, ↓x_flS, ↓x_fl, ↓x_ll0, ↓x_llS])
/-! ### the greatest filling -/
theorem neg_map (d : List Int) : (dInts d).map (fun x => match x with | .int i => PyData.int (-i) | y => y) = dInts (d.map fun x => -x) := by
  unfold dInts
  rw [List.map_map, List.map_map]
  rfl
theorem cbs_len (n : Nat) (rs : List R4) (T : Int) : (cbs n rs T).length ≤ n + 2 * rs.length := by
  unfold cbs
  rw [List.length_map]
  exact lks_len n rs
theorem greatest_ok {n : Nat} {rs : List R4} {T : Int} (n0 : 0 < n) (n1 : n ≤ 12) (hl : rs.length ≤ 1000) (hrs : ∀ r ∈ rs, r.Ok (n : Int)) {c : Nat} {P : Vl → Nat → Prop} (hP : P (.dat (optF (grP n rs T))) c) : sp_greatest_filling [.dat (.int (n : Int)), .dat (rDs rs), .dat (.int T)] c P := by
  have hlen := cbs_len n rs T
  have hn : (0 :: List.replicate (n - 1) (-T)).length = n := by simp; omega
  unfold sp_greatest_filling dt_greatest_filling
  ac_rfl
  refine cl_ok (climbs_ok n0 n1 hl hrs ?_)
  unfold cbsD
  ac_rfl
  refine ll_map cbD (fun l => cbD ⟨l.e, l.s, l.c⟩) (fun l hm A hA => ?_) ?_
  · unfold cbD
    ac_rfl
    exact hA
  · have e1 : (List.map (fun l => cbD ⟨l.e, l.s, l.c⟩) (cbs n rs T)) = (cbr n rs T).map cbD := by
      unfold cbr
      rw [List.map_map]
      rfl
    have e2 : PyData.int 0 :: (List.replicate ((n : Int) - 1).toNat [PyData.int (-T)]).flatten = dInts (0 :: List.replicate (n - 1) (-T)) := by
      have : ((n : Int) - 1).toNat = n - 1 := by omega
      rw [this]
      unfold dInts
      simp
    rw [e1]
    ac_rfl
    rw [e2]
    refine cl_ok (settled_ok (cs := cbr n rs T) hn (by omega) (cbr_ok n0 hrs) ?_)
    unfold grP at hP
    cases e : stdP (cbr n rs T) (0 :: List.replicate (n - 1) (-T)) with
    | none =>
      rw [e] at hP
      unfold optL
      ac_rfl
      exact hP
    | some d =>
      rw [e] at hP
      have L := std_some (cbr_ok n0 hrs) hn e
      have hlen := L.len
      unfold optL
      ac_rfl
      refine ll_ints (fun x => .int (-x)) (fun x hx A hA => ?_) ?_
      · ac_rfl
        exact hA
      · have e3 : List.map (fun x => PyData.int (-x)) d = dInts (d.map fun x => -x) := by
          unfold dInts
          rw [List.map_map]
          rfl
        rw [e3]
        ac_rfl
        exact cl_ok (counts_ok (by simp; omega) (by simp; omega) hP)
theorem gr_has {n : Nat} {rs : List R4} {T : Int} {gs : List Int} (n0 : 0 < n) (hrs : ∀ r ∈ rs, r.Ok (n : Int)) (G : Fit n rs gs) (e : gs.sum = T) : ∃ fs, grP n rs T = some fs ∧ Fit n rs fs ∧ fs.sum = T := by
  have S := gr_ok n0 hrs T
  cases ew : grP n rs T with
  | none =>
    rw [ew] at S
    exact absurd e (S gs G)
  | some fs =>
    rw [ew] at S
    exact ⟨fs, rfl, S.1, S.2.1⟩

/-! ### drawn rings of k19 to k27 -/
structure RE (n : Nat) (fs : List Int) (r : R4) : Prop where
  ok : r.Ok (n : Int)
  l1 : r.l ≤ 150000000
  m1 : ∀ m, r.m = some m → m ≤ 300000000
  ft : fitR fs r
theorem part_ok {fs : List Int} {f s : Int} (h0 : 0 < fs.length) (h1 : fs.length ≤ 1000) (h2 : 0 ≤ s) (h3 : s ≤ 1000) {c : Nat} {P : Vl → Nat → Prop} (hP : P (.dat (.int (psum fs f s.toNat))) c) : sp__law_part [.dat (.tuple (dInts fs)), .dat (.int f), .dat (.int s)] c P := by
  have hdl : (dInts fs).length = fs.length := dInts_len fs
  unfold sp__law_part dt__law_part
  ac_rfl
  refine ll_range (fun k => .int (fs.getD ((f + (k : Int)) % fs.length).toNat 0)) (fun j hj A hA => ?_) ?_
  · have hm0 := Int.emod_nonneg (f + (0 + (j : Int))) (by omega : (fs.length : Int) ≠ 0)
    have hm1 := Int.emod_lt_of_pos (f + (0 + (j : Int))) (by omega : (0 : Int) < (fs.length : Int))
    have ej : ((f + (0 + (j : Int))) % (fs.length : Int)) = ((((f + (0 + (j : Int))) % (fs.length : Int)).toNat : Nat) : Int) := by omega
    have ez : f + (j : Int) = f + (0 + (j : Int)) := by omega
    ac_rfl
    rw [hdl]
    rw [ez] at hA
    generalize (f + (0 + (j : Int))) % (fs.length : Int) = q at ej hm0 hm1 hA ⊢
    rw [ej]
    refine ixk_ok (dInts_at2 (by omega : q.toNat < fs.length)) ?_
    rw [← getD_el (by omega)]
    exact hA
  · have e : (List.range s.toNat).map (fun (k : Nat) => PyData.int (fs.getD ((f + (k : Int)) % fs.length).toNat 0)) = dInts ((List.range s.toNat).map fun (k : Nat) => fs.getD ((f + (k : Int)) % fs.length).toNat 0) := by
      unfold dInts
      rw [List.map_map]
      rfl
    rw [e]
    ac_rfl
    rw [← psum_range]
    exact hP
theorem psum_bd {fs : List Int} {G f : Int} (g0 : 0 ≤ G) (h : ∀ x ∈ fs, 0 ≤ x ∧ x ≤ G) : ∀ k : Nat, 0 ≤ psum fs f k ∧ psum fs f k ≤ G * k
  | 0 => ⟨Int.le_refl _, by show (0 : Int) ≤ _; simp⟩
  | k + 1 => by
    have ih := psum_bd (f := f) g0 h k
    have hx : 0 ≤ fs.getD ((f + (k : Int)) % fs.length).toNat 0 ∧ fs.getD ((f + (k : Int)) % fs.length).toNat 0 ≤ G := by
      rw [List.getD_eq_getElem?_getD]
      cases e : fs[((f + (k : Int)) % fs.length).toNat]? with
      | none => exact ⟨Int.le_refl _, g0⟩
      | some x => exact h x (List.mem_of_getElem? e)
    have e : G * ((k + 1 : Nat) : Int) = G * (k : Int) + G := by rw [Int.natCast_add, Int.mul_add]; simp
    show 0 ≤ psum fs f k + _ ∧ psum fs f k + _ ≤ _
    rw [e]
    omega
theorem mostE {t e i : Int} (h0 : 0 ≤ i) (h1 : i < 4) (e0 : 0 ≤ e) (e1 : e < t + 2) (t0 : 0 ≤ t) : ∃ m : Option Int, atI [PyData.int t, .int (t + 1), .int (t + e), .none] i = some (optD m) ∧ ∀ x, m = some x → t ≤ x ∧ x ≤ 2 * t + 1 := by
  have : i = 0 ∨ i = 1 ∨ i = 2 ∨ i = 3 := by omega
  rcases this with rfl | rfl | rfl | rfl
  · exact ⟨some t, rfl, fun x e => by cases e; omega⟩
  · exact ⟨some (t + 1), rfl, fun x e => by cases e; omega⟩
  · exact ⟨some (t + e), rfl, fun x e => by cases e; omega⟩
  · exact ⟨none, rfl, fun x e => by cases e⟩
theorem lrule_ok {fs : List Int} (n0 : 0 < fs.length) (n1 : fs.length ≤ 12) (hfs : ∀ x ∈ fs, 0 ≤ x ∧ x ≤ 10000000) {c : Nat} (hc : c ≤ 5000000) {P : Vl → Nat → Prop} (hP : ∀ (r : R4) (c' : Nat), RE fs.length fs r → c' ≤ c + 6 → P (.dat (rD r)) c') : sp__law_rule [.deck, .dat (.tuple (dInts fs))] c P := by
  have hdl : (dInts fs).length = fs.length := dInts_len fs
  unfold sp__law_rule dt__law_rule
  ac_rfl
  rw [hdl]
  refine draw_ok (by omega) (by omega) (by omega) fun f f0 f1 => ?_
  ac_rfl
  refine draw_ok (by omega) (by omega) (by omega) fun s s0 s1 => ?_
  ac_rfl
  refine cl_ok (part_ok n0 (by omega) (by omega) (by omega) ?_)
  obtain ⟨ps0, ps1⟩ := psum_bd (f := f) (by decide : (0 : Int) ≤ 10000000) hfs (1 + s).toNat
  have pt : fitR fs ⟨f, 1 + s, psum fs f (1 + s).toNat, some (psum fs f (1 + s).toNat)⟩ := ⟨Int.le_refl _, fun m e => by cases e; exact Int.le_refl _⟩
  have hft : ∀ (l : Int) (m : Option Int), l ≤ psum fs f (1 + s).toNat → (∀ x, m = some x → psum fs f (1 + s).toNat ≤ x) → fitR fs ⟨f, 1 + s, l, m⟩ := fun l m h1 h2 => ⟨h1, h2⟩
  clear pt
  generalize psum fs f (1 + s).toNat = t at ps0 ps1 hft
  ac_rfl
  refine draw_ok (by omega) (by omega) (by omega) fun d d0 d1 => ?_
  ac_rfl
  refine draw_ok (by omega) (by omega) (by omega) fun i i0 i1 => ?_
  ac_rfl
  refine ixk_int [0, 1, t, d] (fun x => 0 ≤ x) i0 i1 (by simp; omega) fun x x0 => ?_
  ac_rfl
  refine draw_ok (by omega) (by omega) (by omega) fun e e0 e1 => ?_
  ac_rfl
  refine draw_ok (by omega) (by omega) (by omega) fun k k0 k1 => ?_
  ac_rfl
  obtain ⟨m, hat, hm⟩ := mostE k0 k1 e0 e1 ps0
  refine ixk_ok hat ?_
  have big : ∀ z : Int, 0 ≤ z → z ≤ 300000000 → z.natAbs < 2 ^ 200 := fun z z0 z1 => Nat.lt_of_le_of_lt (by omega : z.natAbs ≤ 10000000000) (by decide)
  have fin := hP ⟨f, 1 + s, max 0 (t - x), m⟩ (c + 1 + 1 + 1 + 1 + 1 + 1) ⟨⟨f0, f1, by show 1 ≤ 1 + s; omega, by show 1 + s ≤ (fs.length : Int); omega, by show 0 ≤ max 0 (t - x); omega, big _ (by show 0 ≤ max 0 (t - x); omega) (by show max 0 (t - x) ≤ _; omega), fun y ey => ⟨by have := hm y ey; omega, by have := hm y ey; exact big _ (by omega) (by omega)⟩⟩, by show max 0 (t - x) ≤ _; omega, fun y ey => by have := hm y ey; omega, hft _ _ (by omega) (fun y ey => (hm y ey).1)⟩ (by omega)
  cases m with
  | none =>
    unfold optD
    ac_rfl
    exact fin
  | some z =>
    unfold optD
    ac_rfl
    exact fin
theorem RE.fit {n : Nat} {fs : List Int} {rs : List R4} (hl : fs.length = n) {G : Int} (hfs : ∀ x ∈ fs, 0 ≤ x ∧ x ≤ G) (h : ∀ r ∈ rs, RE n fs r) : Fit n rs fs := ⟨hl, fun x hx => (hfs x hx).1, fun r hr => (h r hr).ft⟩
theorem ring_ok {most great many : Nat} (m0 : 1 ≤ most) (m1 : most ≤ 12) (g1 : great ≤ 10000000) (hm : many ≤ 16) {c : Nat} (hc : c ≤ 1000000) {P : Vl → Nat → Prop}
    (hP : ∀ (n : Nat) (rs : List R4) (fs : List Int) (c' : Nat), 1 ≤ n → n ≤ most → rs.length ≤ many → fs.length = n → (∀ x ∈ fs, 0 ≤ x ∧ x ≤ (great : Int)) → (∀ r ∈ rs, RE n fs r) → c' ≤ c + 200 → P (.dat (.tuple [.int (n : Int), rDs rs, .tuple (dInts fs)])) c') :
    sp__law_ring [.deck, .dat (.int (most : Int)), .dat (.int (great : Int)), .dat (.int (many : Int))] c P := by
  unfold sp__law_ring dt__law_ring
  ac_rfl
  refine draw_ok (by omega) (by omega) (by omega) fun a a0 a1 => ?_
  ac_rfl
  refine draw_ok (by omega) (by omega) (by omega) fun b b0 b1 => ?_
  ac_rfl
  obtain ⟨L, hL, l0, l1⟩ : ∃ L : Int, (if decide (b = 0) = true then (1 : Int) else 0) = L ∧ 0 ≤ L ∧ L < 2 := by
    by_cases hq : b = 0
    · exact ⟨1, by simp [hq], by decide, by decide⟩
    · exact ⟨0, by simp [hq], by decide, by decide⟩
  rw [hL]
  refine ixk_int [1 + a, (most : Int)] (fun x => 1 ≤ x ∧ x ≤ (most : Int)) l0 l1 (by simp; omega) fun n hn => ?_
  obtain ⟨n, rfl⟩ := Int.eq_ofNat_of_zero_le (a := n) (by omega)
  obtain ⟨hn0, hn1⟩ := hn
  ac_rfl
  refine ll_inv (fun j acc c' => ∃ fs : List Int, acc = dInts fs ∧ (∀ x ∈ fs, 0 ≤ x ∧ x ≤ (great : Int)) ∧ fs.length = j ∧ j ≤ n ∧ c' = c + 1 + 1 + j) _ 0 _ _ _ _ (fun i d acc c' A hd hI hA => ?_) ⟨[], rfl, fun _ h => (nomatch h), rfl, Nat.zero_le _, rfl⟩ (fun out c' hI => ?_)
  · obtain ⟨fs, rfl, hfs, hlen, hj, rfl⟩ := hI
    obtain ⟨hi, rfl⟩ := rangeD_get hd
    rw [Int.toNat_natCast] at hi
    ac_rfl
    refine draw_ok (by omega) (by omega) (by omega) fun v v0 v1 => ?_
    ac_rfl
    refine hA _ _ ⟨fs ++ [v], by rw [← dInts_app]; rfl, fun x hx => ?_, by simp; omega, by omega, by omega⟩
    rcases List.mem_append.mp hx with h | h
    · exact hfs x h
    · rw [List.mem_singleton.mp h]
      omega
  · obtain ⟨fs, rfl, hfs, hlen, hj, rfl⟩ := hI
    rw [rangeD_len, Int.toNat_natCast] at hlen hj ⊢
    have hlen : fs.length = n := by omega
    ac_rfl
    refine draw_ok (by omega) (by omega) (by omega) fun k k0 k1 => ?_
    ac_rfl
    refine ll_inv (fun j acc c' => ∃ rs : List R4, acc = rs.map rD ∧ (∀ r ∈ rs, RE n fs r) ∧ rs.length = j ∧ j ≤ k.toNat ∧ c' ≤ c + 1 + 1 + (0 + n) + 1 + 6 * j) _ 0 _ _ _ _ (fun i d acc c' A hd hI hA => ?_) ⟨[], rfl, fun _ h => (nomatch h), rfl, Nat.zero_le _, by omega⟩ (fun out c' hI => ?_)
    · obtain ⟨rs, rfl, hrs, hlr, hj, hc'⟩ := hI
      obtain ⟨hi, rfl⟩ := rangeD_get hd
      ac_rfl
      refine cl_ok (lrule_ok (by omega) (by omega) (fun x hx => by have := hfs x hx; omega) (by omega) fun r c2 hr hc2 => ?_)
      rw [hlen] at hr
      unfold rD
      ac_rfl
      refine hA _ _ ⟨rs ++ [r], by rw [List.map_append]; rfl, fun x hx => ?_, by simp; omega, by omega, by omega⟩
      rcases List.mem_append.mp hx with h | h
      · exact hrs x h
      · rw [List.mem_singleton.mp h]
        exact hr
    · obtain ⟨rs, rfl, hrs, hlr, hj, hc'⟩ := hI
      rw [rangeD_len] at hlr hj hc'
      ac_rfl
      exact hP n rs fs c' (by omega) (by omega) (by omega) hlen hfs hrs (by omega)

/-! ### a rule more -/
theorem fit_sub {n : Nat} {rs ss : List R4} {fs : List Int} (F : Fit n rs fs) (h : ∀ r ∈ ss, r ∈ rs) : Fit n ss fs := ⟨F.len, F.nn, fun r hr => F.ft r (h r hr)⟩
theorem fit_snoc {n : Nat} {rs : List R4} {r : R4} {fs : List Int} : Fit n (rs ++ [r]) fs ↔ Fit n rs fs ∧ fitR fs r := by
  constructor
  · intro F
    exact ⟨fit_sub F fun x hx => List.mem_append_left _ hx, F.ft r (List.mem_append_right _ List.mem_cons_self)⟩
  · rintro ⟨F, h⟩
    refine ⟨F.len, F.nn, fun x hx => ?_⟩
    rcases List.mem_append.mp hx with hx | hx
    · exact F.ft x hx
    · rw [List.mem_singleton.mp hx]
      exact h
/-- the whole ring as a window -/
theorem psum_all {fs : List Int} {n f : Nat} (hl : fs.length = n) (n0 : 0 < n) (hf : f < n) : psum fs (f : Int) n = fs.sum := by
  rw [psum_mod hl n0 hf (Nat.le_refl _)]
  have e1 : (f + n) % n = f := by rw [Nat.add_mod_right, Nat.mod_eq_of_lt hf]
  have e2 : (f + n) / n = 1 := by rw [Nat.add_div_right _ n0, Nat.div_eq_of_lt hf]
  rw [e1, e2]
  simp
  omega
section
variable {n : Nat} {rs : List R4}
theorem ok_rule {f s l : Int} {m : Option Int} (f0 : 0 ≤ f) (f1 : f < (n : Int)) (s0 : 1 ≤ s) (s1 : s ≤ (n : Int)) (l0 : 0 ≤ l) (l1 : l ≤ 10000000000) (hm : ∀ x, m = some x → 0 ≤ x ∧ x ≤ 10000000000) : (⟨f, s, l, m⟩ : R4).Ok (n : Int) := by
  have big : ∀ z : Int, 0 ≤ z → z ≤ 10000000000 → z.natAbs < 2 ^ 200 := fun z z0 z1 => Nat.lt_of_le_of_lt (by omega : z.natAbs ≤ 10000000000) (by decide)
  exact ⟨f0, f1, s0, s1, l0, big l l0 l1, fun y e => ⟨(hm y e).1, big y (hm y e).1 (hm y e).2⟩⟩
theorem rDs_snoc (a : List R4) (f s l : Int) (m : Option Int) : PyData.tuple (a.map rD ++ [.tuple [.int f, .int s, .int l, optD m]]) = rDs (a ++ [⟨f, s, l, m⟩]) := by
  unfold rDs
  rw [List.map_append]
  rfl
theorem rDs_snocI (a : List R4) (f s l m : Int) : PyData.tuple (a.map rD ++ [.tuple [.int f, .int s, .int l, .int m]]) = rDs (a ++ [⟨f, s, l, some m⟩]) := rDs_snoc a f s l (some m)
theorem rDs_snocN (a : List R4) (f s l : Int) : PyData.tuple (a.map rD ++ [.tuple [.int f, .int s, .int l, .none]]) = rDs (a ++ [⟨f, s, l, none⟩]) := rDs_snoc a f s l none
theorem psum_in {fs : List Int} {T : Int} {f s : Nat} (F : Fit n rs fs) (n0 : 0 < n) (hf : f < n) (hs : s ≤ n) (e : fs.sum = T) : 0 ≤ psum fs (f : Int) s ∧ psum fs (f : Int) s ≤ T := by
  have hl := F.len
  rw [psum_eq (by omega) (by omega) s (by omega)]
  constructor
  · refine sum_nn fun k _ => ?_
    split
    · by_cases hk : k < fs.length
      · rw [getD_el hk]
        exact F.nn _ (List.getElem_mem hk)
      · have z : fs.getD k 0 = 0 := by simp [List.getD, List.getElem?_eq_none (show fs.length ≤ k by omega)]
        rw [z]
        exact Int.le_refl _
    · exact Int.le_refl _
  · rw [← e, ← range_sum fs]
    refine sum_le fun k hk => ?_
    have hk := List.mem_range.mp hk
    split
    · exact Int.le_refl _
    · rw [getD_el hk]
      exact F.nn _ (List.getElem_mem hk)
end
theorem exact_iff {n : Nat} {rs : List R4} {f s : Nat} {v : Int} {ks : List Int} : Fit n (rs ++ [⟨(f : Int), (s : Int), v, some v⟩]) ks ↔ Fit n rs ks ∧ psum ks (f : Int) s = v := by
  rw [fit_snoc]
  constructor
  · rintro ⟨F, h1, h2⟩
    have h1 : v ≤ psum ks (f : Int) (s : Int).toNat := h1
    have h2 : psum ks (f : Int) (s : Int).toNat ≤ v := h2 v rfl
    rw [Int.toNat_natCast] at h1 h2
    exact ⟨F, by omega⟩
  · rintro ⟨F, e⟩
    have z : psum ks (f : Int) (s : Int).toNat = v := by rw [Int.toNat_natCast, e]
    refine ⟨F, ?_, fun m hm => ?_⟩
    · show v ≤ psum ks (f : Int) (s : Int).toNat
      omega
    · cases hm
      show psum ks (f : Int) (s : Int).toNat ≤ v
      omega
theorem ok_snoc {n : Nat} {rs : List R4} {r : R4} (h : ∀ x ∈ rs, x.Ok (n : Int)) (hr : r.Ok (n : Int)) : ∀ x ∈ rs ++ [r], x.Ok (n : Int) := fun x hx => by
  rcases List.mem_append.mp hx with hx | hx
  · exact h x hx
  · rw [List.mem_singleton.mp hx]
    exact hr
theorem psum_compl {n : Nat} {fs : List Int} (n0 : 0 < n) (hl : fs.length = n) {f s : Nat} (hf : f < n) (hs : s ≤ n) : psum fs (((f + s) % n : Nat) : Int) (n - s) = fs.sum - psum fs (f : Int) s := by
  rw [psum_mod hl n0 hf hs, psum_mod hl n0 (Nat.mod_lt _ n0) (by omega)]
  by_cases h : f + s < n
  · rw [Nat.mod_eq_of_lt h, Nat.div_eq_of_lt h, show f + s + (n - s) = f + n by omega, Nat.add_mod_right, Nat.mod_eq_of_lt hf, Nat.add_div_right _ n0, Nat.div_eq_of_lt hf]
    simp
    omega
  · obtain ⟨g, hg⟩ : ∃ g, f + s = g + n := ⟨f + s - n, by omega⟩
    have hgn : g < n := by omega
    rw [hg, Nat.add_mod_right, Nat.mod_eq_of_lt hgn, Nat.add_div_right _ n0, Nat.div_eq_of_lt hgn, show g + (n - s) = f by omega, Nat.mod_eq_of_lt hf, Nat.div_eq_of_lt hf]
    simp
    omega
/-- the sum of a window once more, by the program's own words -/
theorem wsum_nat {n : Nat} {fs : List Int} (hl : fs.length = n) {f s : Nat} (hf : f < n) (hs : s ≤ n) : wsum fs (f : Int) (s : Int) = psum fs (f : Int) s := by
  rw [← sums_same (by omega) (by omega) (by omega) (by omega), Int.toNat_natCast]

theorem wr_some {n : Nat} {rs : List R4} {T : Int} {f s : Nat} {gs : List Int} (n0 : 0 < n) (hrs : ∀ r ∈ rs, r.Ok (n : Int)) (hf : f < n) (hs : s ≤ n) (G : Fit n rs gs) (e : gs.sum = T) :
    ∃ a b, wrP n rs T f s = some (a, b) ∧ (∃ fs, Fit n rs fs ∧ fs.sum = T ∧ psum fs (f : Int) s = a) ∧ (∃ fs, Fit n rs fs ∧ fs.sum = T ∧ psum fs (f : Int) s = b) ∧ ∀ fs, Fit n rs fs → fs.sum = T → a ≤ psum fs (f : Int) s ∧ psum fs (f : Int) s ≤ b := by
  have W := wr_ok (T := T) n0 hrs hf hs
  cases ew : wrP n rs T f s with
  | none =>
    rw [ew] at W
    exact absurd e (W gs G)
  | some ab =>
    obtain ⟨a, b⟩ := ab
    rw [ew] at W
    exact ⟨a, b, rfl, W.1, W.2.1, W.2.2⟩
theorem sum_bd {n : Nat} {fs : List Int} (n0 : 0 < n) (hl : fs.length = n) {G : Int} (g0 : 0 ≤ G) (h : ∀ x ∈ fs, 0 ≤ x ∧ x ≤ G) : 0 ≤ fs.sum ∧ fs.sum ≤ G * n := by
  have := psum_bd (f := ((0 : Nat) : Int)) g0 h n
  rw [psum_all hl n0 n0] at this
  exact this
theorem time_ok {n : Nat} {rs : List R4} {fs : List Int} {f s : Nat} (n0 : 0 < n) (n1 : n ≤ 12) (hl : rs.length ≤ 8) (oks : ∀ r ∈ rs, r.Ok (n : Int)) (F : Fit n rs fs) (hT : fs.sum ≤ 200000000) (hf : f < n) (hs0 : 1 ≤ s) (hs : s ≤ n) :
    ∃ a b, wrP n rs fs.sum f s = some (a, b) ∧ 0 ≤ a ∧ a ≤ psum fs (f : Int) s ∧ psum fs (f : Int) s ≤ b ∧ b ≤ fs.sum ∧ (∃ gs, Fit n rs gs ∧ gs.sum = fs.sum ∧ psum gs (f : Int) s = a) ∧ (∃ gs, Fit n rs gs ∧ gs.sum = fs.sum ∧ psum gs (f : Int) s = b) ∧ (∀ gs, Fit n rs gs → gs.sum = fs.sum → a ≤ psum gs (f : Int) s ∧ psum gs (f : Int) s ≤ b) ∧ ∀ v, a ≤ v → v ≤ b → ∃ gs, Fit n rs gs ∧ gs.sum = fs.sum ∧ psum gs (f : Int) s = v := by
  obtain ⟨a, b, ew, ⟨ga, A, ea, pa⟩, ⟨gb, B, eb, pb⟩, hab⟩ := wr_some n0 oks hf hs F rfl
  have h1 := hab fs F rfl
  have h2 := psum_in A n0 hf hs ea
  have h3 := psum_in B n0 hf hs eb
  refine ⟨a, b, ew, by omega, h1.1, h1.2, by omega, ⟨ga, A, ea, pa⟩, ⟨gb, B, eb, pb⟩, hab, fun v v0 v1 => ?_⟩
  exact mid_fit n0 oks hf hs A B ea eb (by omega) (by omega)

end RW
namespace RW
open PySem PySem.Spec PyProof.Rows L2 DL
/-! ### heights, leads, least_steps -/
def hts (fs : List Int) : List Int := (List.range fs.length).map fun k => (fs.take k).sum
theorem hts_len (fs : List Int) : (hts fs).length = fs.length := by simp [hts]
theorem hts_get {fs : List Int} {k : Nat} (h : k < fs.length) : (hts fs)[k]? = some (fs.take k).sum := by
  unfold hts
  rw [List.getElem?_map, List.getElem?_range h]
  rfl
theorem heights_ok {fs : List Int} (hl : fs.length ≤ 1000) {c : Nat} {P : Vl → Nat → Prop} (hP : P (.dat (.list (dInts (hts fs)))) c) : sp_heights_of [.dat (.tuple (dInts fs))] c P := by
  have e0 : (dInts fs).length = fs.length := dInts_len fs
  refine ⟨by rw [e0]; omega, by rw [e0]; omega, by rw [rangeD_len, e0]; exact small_len (by omega), lcL_pure (fun _ => true) (fun d => match d with | .int k => .int (fs.take k.toNat).sum | _ => .none) _ _ _ _ (fun d hd P hP => hP) (fun d hd hf P hP => ?_) ?_⟩
  · obtain ⟨k, hk, rfl⟩ := rangeD_mem hd
    show rdSumA [.tuple (cutD (dInts fs) none (some (0 + (k : Int))))] fun z => P (.dat z) c
    rw [Int.zero_add, cut_take, dInts_take]
    refine sum_okT ?_
    have hP : P (.dat (.int (fs.take (0 + (k : Int)).toNat).sum)) c := hP
    rw [Int.zero_add, Int.toNat_natCast] at hP
    exact hP
  · rw [List.filter_eq_self.mpr (fun _ _ => rfl), List.nil_append, e0]
    have e : List.map (fun d => match d with | PyData.int k => PyData.int (fs.take k.toNat).sum | _ => PyData.none) (rangeD 0 ((fs.length : Int)).toNat) = dInts (hts fs) := by
      unfold rangeD hts dInts
      rw [Int.toNat_natCast, List.map_map, List.map_map]
      refine List.map_congr_left fun k _ => ?_
      show PyData.int (fs.take (0 + (k : Int)).toNat).sum = PyData.int (fs.take k).sum
      rw [Int.zero_add, Int.toNat_natCast]
    rw [e]
    exact hP
/-! ### which places can rise while all places before stay; the next filling -/
def CanR (cs : List Cb) (h : Nat → Int) (q : Nat) : Prop := ∃ G : Nat → Int, Fe cs G ∧ (∀ v, v < q → G v = h v) ∧ h q < G q
inductive Rch (ts : List Cb) : Nat → Nat → Prop
  | refl (v : Nat) : Rch ts v v
  | step {l : Cb} {w : Nat} : l ∈ ts → Rch ts l.e w → Rch ts l.s w
theorem rch_up {cs ts : List Cb} {h G : Nat → Int} (hG : Fe cs G) (ht : ∀ l ∈ ts, l ∈ cs ∧ h l.s + l.c = h l.e) {a b : Nat} (r : Rch ts a b) : G a - h a ≤ G b - h b := by
  induction r with
  | refl v => exact Int.le_refl _
  | @step l w hl r ih =>
    obtain ⟨h1, h2⟩ := ht l hl
    have := hG l h1
    omega
theorem no_rise {cs ts : List Cb} {h : Nat → Int} (ht : ∀ l ∈ ts, l ∈ cs ∧ h l.s + l.c = h l.e) {q p : Nat} (r : Rch ts q p) (hp : p < q) : ¬ CanR cs h q := by
  rintro ⟨G, hG, e, lt⟩
  have := rch_up hG ht r
  have := e p hp
  omega
theorem can_rise {cs : List Cb} {h : Nat → Int} (hF : Fe cs h) (f : Nat → Nat) {p : Nat} (hp : f p = p) (hle : ∀ v, v < p → f v ≤ v) (hfix : ∀ l ∈ cs, h l.s + l.c = h l.e → f l.s ≤ f l.e) : CanR cs h p := by
  refine ⟨fun v => h v + if p ≤ f v then 1 else 0, fun l hl => ?_, fun v hv => ?_, ?_⟩
  · show (h l.s + if p ≤ f l.s then 1 else 0) + l.c ≤ h l.e + if p ≤ f l.e then 1 else 0
    have h1 := hF l hl
    have h2 := hfix l hl
    by_cases e : h l.s + l.c = h l.e
    · have := h2 e
      by_cases a : p ≤ f l.s
      · rw [if_pos a, if_pos (by omega)]
        omega
      · rw [if_neg a]
        split <;> omega
    · have h1 : h l.s + l.c ≤ h l.e := h1
      split <;> split <;> omega
  · show (h v + if p ≤ f v then 1 else 0) = h v
    have := hle v hv
    rw [if_neg (by omega)]
    omega
  · show h p < h p + if p ≤ f p then 1 else 0
    rw [if_pos (by omega)]
    omega
/-- the first places that have to rise, one pass -/
def fs1 (F : List Nat) (l : Cb) : List Nat := if F.getD l.e 0 < F.getD l.s 0 then F.set l.s (F.getD l.e 0) else F
def fsr (ts : List Cb) (F : List Nat) : List Nat := ts.foldl fs1 F
structure FOk (ts : List Cb) (n : Nat) (F : List Nat) : Prop where
  len : F.length = n
  le : ∀ v, v < n → F.getD v 0 ≤ v
  rch : ∀ v, v < n → Rch ts v (F.getD v 0)
theorem getD_setN {F : List Nat} {i v : Nat} {x : Nat} (hi : i < F.length) : (F.set i x).getD v 0 = if v = i then x else F.getD v 0 := by
  simp only [List.getD, List.getElem?_set]
  by_cases e : i = v
  · subst e
    simp [hi]
  · simp [e, Ne.symm e]
theorem sum_setN : ∀ {F : List Nat} {i : Nat} {x : Nat}, i < F.length → x < F.getD i 0 → (F.set i x).sum < F.sum
  | [], _, _, h, _ => by simp at h
  | a :: F, 0, x, _, h => by
    have h : x < a := h
    simp
    omega
  | a :: F, i + 1, x, h, h2 => by
    have := sum_setN (F := F) (i := i) (x := x) (by simpa using h) h2
    simp
    omega
theorem fs1_ok {ts : List Cb} {n : Nat} {F : List Nat} (h : FOk ts n F) {l : Cb} (hl : l ∈ ts) (hs : l.s < n) (he : l.e < n) : FOk ts n (fs1 F l) ∧ ((fs1 F l).sum < F.sum ∨ (fs1 F l = F ∧ F.getD l.s 0 ≤ F.getD l.e 0)) := by
  unfold fs1
  have hlen := h.len
  by_cases e : F.getD l.e 0 < F.getD l.s 0
  · rw [if_pos e]
    refine ⟨⟨by simp [hlen], fun v hv => ?_, fun v hv => ?_⟩, .inl (sum_setN (by omega) e)⟩
    · rw [getD_setN (by omega)]
      split
      · rename_i hv2
        have := h.le l.s hs
        omega
      · exact h.le v hv
    · rw [getD_setN (by omega)]
      split
      · rename_i hv2
        rw [hv2]
        exact .step hl (h.rch l.e he)
      · exact h.rch v hv
  · rw [if_neg e]
    exact ⟨h, .inr ⟨rfl, by omega⟩⟩
theorem fsr_ok {ts : List Cb} {n : Nat} (hts : ∀ l ∈ ts, l.s < n ∧ l.e < n) : ∀ {us : List Cb} {F : List Nat}, (∀ l ∈ us, l ∈ ts) → FOk ts n F → FOk ts n (fsr us F) ∧ ((fsr us F).sum < F.sum ∨ (fsr us F = F ∧ ∀ l ∈ us, F.getD l.s 0 ≤ F.getD l.e 0))
  | [], F, _, h => ⟨h, .inr ⟨rfl, fun l hl => by simp at hl⟩⟩
  | l :: us, F, hu, h => by
    obtain ⟨x1, x2⟩ := hts l (hu l List.mem_cons_self)
    obtain ⟨a, b⟩ := fs1_ok h (hu l List.mem_cons_self) x1 x2
    obtain ⟨c, d⟩ := fsr_ok hts (us := us) (F := fs1 F l) (fun y hy => hu y (List.mem_cons_of_mem _ hy)) a
    refine ⟨c, ?_⟩
    have e : fsr (l :: us) F = fsr us (fs1 F l) := rfl
    rw [e]
    rcases b with b | ⟨b, b2⟩
    · rcases d with d | ⟨d, _⟩
      · exact .inl (by omega)
      · exact .inl (by rw [d]; exact b)
    · rw [b] at d ⊢
      rcases d with d | ⟨d, d2⟩
      · exact .inl d
      · refine .inr ⟨d, fun y hy => ?_⟩
        rcases List.mem_cons.mp hy with rfl | hy
        · exact b2
        · exact d2 y hy
/-- a list of counts comes before another one -/
def LexLt (a b : List Int) : Prop := ∃ i, (∀ v, v < i → a.getD v 0 = b.getD v 0) ∧ a.getD i 0 < b.getD i 0
theorem take_succ_getD (fs : List Int) (v : Nat) : (fs.take (v + 1)).sum = (fs.take v).sum + fs.getD v 0 := by
  rw [List.take_add_one, List.sum_append, List.getD_eq_getElem?_getD]
  cases fs[v]? <;> simp
theorem take_same {a b : List Int} : ∀ {i : Nat}, (∀ v, v < i → a.getD v 0 = b.getD v 0) → (a.take i).sum = (b.take i).sum
  | 0, _ => by simp
  | i + 1, h => by
    rw [take_succ_getD, take_succ_getD, take_same fun v hv => h v (by omega), h i (by omega)]
/-- in terms of the heights -/
theorem lex_heights {a b : List Int} : LexLt a b ↔ ∃ q, (∀ v, v < q → (a.take v).sum = (b.take v).sum) ∧ (a.take q).sum < (b.take q).sum := by
  constructor
  · rintro ⟨i, h1, h2⟩
    refine ⟨i + 1, fun v hv => take_same fun w hw => h1 w (by omega), ?_⟩
    rw [take_succ_getD, take_succ_getD, take_same h1]
    omega
  · rintro ⟨q, h1, h2⟩
    cases q with
    | zero => simp at h2
    | succ i =>
      refine ⟨i, fun v hv => ?_, ?_⟩
      · have x1 := h1 (v + 1) (by omega)
        have x2 := h1 v (by omega)
        rw [take_succ_getD, take_succ_getD] at x1
        omega
      · have x2 := h1 i (by omega)
        rw [take_succ_getD, take_succ_getD] at h2
        omega
def IsNx (n : Nat) (rs : List R4) (fs : List Int) : Option (List Int) → Prop
  | none => ∀ gs, Fit n rs gs → gs.sum = fs.sum → ¬ LexLt fs gs
  | some gs => Fit n rs gs ∧ gs.sum = fs.sum ∧ LexLt fs gs ∧ ∀ ks, Fit n rs ks → ks.sum = fs.sum → LexLt fs ks → ks = gs ∨ LexLt gs ks
theorem first_diff {a b : Nat → Int} : ∀ {n : Nat}, (∀ v, v < n → a v ≤ b v) → (∀ v, v < n → a v = b v) ∨ ∃ q, q < n ∧ (∀ v, v < q → a v = b v) ∧ a q < b q
  | 0, _ => .inl fun v hv => by omega
  | n + 1, h => by
    rcases first_diff (n := n) (a := a) (b := b) (fun v hv => h v (by omega)) with e | ⟨q, q1, q2, q3⟩
    · by_cases z : a n = b n
      · refine .inl fun v hv => ?_
        by_cases y : v = n
        · rw [y, z]
        · exact e v (by omega)
      · have := h n (by omega)
        exact .inr ⟨n, by omega, e, by omega⟩
    · exact .inr ⟨q, by omega, q2, q3⟩
theorem all_take {n : Nat} {fs : List Int} (h : fs.length = n) : (fs.take n).sum = fs.sum := by rw [List.take_of_length_le (by omega)]
/-- a greater filling rises at a place that can rise -/
theorem lex_can {n : Nat} {rs : List R4} {fs ks : List Int} (n0 : 0 < n) (hrs : ∀ r ∈ rs, r.Ok (n : Int)) (F : Fit n rs fs) (K : Fit n rs ks) (e : ks.sum = fs.sum) {q : Nat} (h1 : ∀ v, v < q → (fs.take v).sum = (ks.take v).sum) (h2 : (fs.take q).sum < (ks.take q).sum) :
    0 < q ∧ q < n ∧ CanR (cbs n rs fs.sum) (fun v => (fs.take v).sum) q := by
  have hF := F.len
  have hK := K.len
  have q0 : 0 < q := by
    cases q with
    | zero => simp at h2
    | succ i => omega
  have qn : q < n := by
    refine Nat.lt_of_not_le fun hq => ?_
    rw [List.take_of_length_le (by omega), List.take_of_length_le (by omega)] at h2
    omega
  refine ⟨q0, qn, fun v => (ks.take v).sum, ?_, fun v hv => (h1 v hv).symm, h2⟩
  rw [← e]
  exact fe_fit n0 hrs K
theorem nx_none {n : Nat} {rs : List R4} {fs : List Int} (n0 : 0 < n) (hrs : ∀ r ∈ rs, r.Ok (n : Int)) (F : Fit n rs fs) (h : ∀ q, 0 < q → q < n → ¬ CanR (cbs n rs fs.sum) (fun v => (fs.take v).sum) q) : IsNx n rs fs none := by
  intro gs G e hl
  obtain ⟨q, h1, h2⟩ := lex_heights.mp hl
  obtain ⟨a, b, c⟩ := lex_can n0 hrs F G e h1 h2
  exact h q a b c
def rsd (n : Nat) (fs : List Int) (p : Nat) : List Int := (hts fs).take p ++ List.replicate (n - p) ((fs.take p).sum + 1)
theorem rsd_len {n : Nat} {fs : List Int} {p : Nat} (hl : fs.length = n) (hp : p < n) : (rsd n fs p).length = n := by
  unfold rsd
  simp [hts, hl]
  omega
theorem rsd_get {n : Nat} {fs : List Int} {p v : Nat} (hl : fs.length = n) (hp : p < n) (hv : v < n) : (rsd n fs p).getD v 0 = if v < p then (fs.take v).sum else (fs.take p).sum + 1 := by
  unfold rsd
  simp only [List.getD]
  by_cases h : v < p
  · rw [List.getElem?_append_left (by simp [hts, hl]; omega), List.getElem?_take_of_lt h, hts_get (by omega), if_pos h]
    rfl
  · rw [List.getElem?_append_right (by simp [hts, hl]; omega), if_neg h]
    have : (List.take p (hts fs)).length = p := by simp [hts, hl]; omega
    rw [this, List.getElem?_replicate, if_pos (by omega)]
    rfl
theorem nx_some {n : Nat} {rs : List R4} {fs L : List Int} {p : Nat} (n0 : 0 < n) (hrs : ∀ r ∈ rs, r.Ok (n : Int)) (F : Fit n rs fs) (p0 : 0 < p) (pn : p < n) (hc : CanR (cbs n rs fs.sum) (fun v => (fs.take v).sum) p)
    (hno : ∀ q, p < q → q < n → ¬ CanR (cbs n rs fs.sum) (fun v => (fs.take v).sum) q) (hL : Least (cbs n rs fs.sum) n (rsd n fs p) L) : IsNx n rs fs (some (cof L fs.sum)) := by
  have hlen := F.len
  have hLl := hL.len
  obtain ⟨G, s⟩ := fit_fe n0 hrs hLl hL.fe
  have mono : ∀ (ks : List Int) (K : Fit n rs ks) (v : Nat), p ≤ v → (ks.take p).sum ≤ (ks.take v).sum := fun ks K v hv => by
    have := (take_nn (fs := ks.take v) (fun x hx => K.nn x (List.mem_of_mem_take hx)) p).2
    rw [List.take_take, Nat.min_eq_left hv] at this
    exact this
  -- L keeps the heights ahead of p
  have keep : ∀ v, v < p → L.getD v 0 = (fs.take v).sum := fun v hv => by
    have h1 := hL.ge v (by omega)
    rw [rsd_get hlen pn (by omega), if_pos hv] at h1
    obtain ⟨M, hM, m1, m2⟩ := hc
    have m3 : (fs.take p).sum + 1 ≤ M p := by
      have m2 : (fs.take p).sum < M p := m2
      omega
    -- the greater one of M and its height at p, from p on: M is not known to grow onward by itself, but the rule of no negative count is among the climbs
    have up : ∀ w, p ≤ w → w < n → M p ≤ M w := fun w => by
      induction w with
      | zero => intro a; omega
      | succ w ih =>
        intro a b
        by_cases z : p = w + 1
        · rw [z]
          exact Int.le_refl _
        · have := ih (by omega) (by omega)
          have q := (fe_lks.mp hM) (bl n w) (lks_mem.mpr (.inl ⟨w, by omega, rfl⟩))
          have e1 : (bl n w).e = w + 1 := by
            show (w + 1) % n = w + 1
            exact Nat.mod_eq_of_lt b
          have e2 : cl fs.sum (bl n w) = 0 := by
            show (0 : Int) - (((w + 1) / n : Nat) : Int) * fs.sum = 0
            rw [Nat.div_eq_of_lt b]
            simp
          have e3 : (bl n w).s = w := rfl
          rw [e1, e2, e3] at q
          omega
    have h2 := hL.le M hM (fun w hw => by
      rw [rsd_get hlen pn hw]
      split
      · rename_i a
        rw [m1 w a]
        exact Int.le_refl _
      · have := up w (by omega) hw
        omega) v (by omega)
    have h3 := m1 v hv
    have h3 : M v = (fs.take v).sum := h3
    omega
  have L0 : L.getD 0 0 = 0 := by rw [keep 0 p0]; simp
  have hts' : ∀ v, v < n → ((cof L fs.sum).take v).sum = L.getD v 0 := fun v hv => by rw [take_cof n0 hLl hv, L0]; omega
  have hp : (fs.take p).sum + 1 ≤ L.getD p 0 := by
    have := hL.ge p pn
    rw [rsd_get hlen pn pn, if_neg (by omega)] at this
    exact this
  refine ⟨G, s, lex_heights.mpr ⟨p, fun v hv => ?_, ?_⟩, fun ks K ek hlt => ?_⟩
  · rw [hts' v (by omega), keep v hv]
  · rw [hts' p pn]
    omega
  · obtain ⟨q, h1, h2⟩ := lex_heights.mp hlt
    obtain ⟨a, b, c⟩ := lex_can n0 hrs F K ek h1 h2
    have hqp : q ≤ p := Nat.le_of_not_lt fun z => hno q z b c
    by_cases z : q < p
    · refine .inr (lex_heights.mpr ⟨q, fun v hv => ?_, ?_⟩)
      · rw [hts' v (by omega), keep v (by omega), h1 v hv]
      · rw [hts' q b, keep q z]
        exact h2
    · have z : q = p := by omega
      subst z
      have fk := fe_fit n0 hrs K
      rw [ek] at fk
      have le := hL.le _ fk (fun v hv => by
        rw [rsd_get hlen b hv]
        split
        · rename_i y
          exact Int.le_of_eq (h1 v y)
        · have := mono ks K v (by omega)
          omega)
      rcases first_diff le with e | ⟨w, w1, w2, w3⟩
      · refine .inl ?_
        have hK := K.len
        have hG := G.len
        have tk : ∀ v, v ≤ n → (ks.take v).sum = ((cof L fs.sum).take v).sum := fun v hv => by
          by_cases y : v = n
          · rw [y, all_take hK, all_take hG, ek, s]
          · rw [hts' v (by omega)]
            exact (e v (by omega)).symm
        refine list_ext0 hK hG fun v hv => ?_
        have x1 := tk (v + 1) (by omega)
        have x2 := tk v (by omega)
        rw [take_succ_getD, take_succ_getD] at x1
        omega
      · refine .inr (lex_heights.mpr ⟨w, fun v hv => ?_, ?_⟩)
        · rw [hts' v (by omega)]
          exact w2 v hv
        · rw [hts' w w1]
          exact w3
end RW
namespace RW
open PySem PySem.Spec PyProof.Rows L2 DL
local macro_rules | `(tactic| array_mem_dec) => `(tactic| first | assumption | omega | (refine small_le ?_; omega) | (refine small_len ?_; omega) | (refine cmul_l ?_ ?_ <;> omega) | (refine cmul_r ?_ ?_ <;> omega) | (refine cdiv_ok ?_ ?_ <;> omega) | (refine small_le ?_; simp only [List.length_cons, List.length_nil, List.length_append, List.length_map, dInts_len, rangeD_len, List.length_replicate, List.length_take, List.length_drop, List.length_reverse, List.length_range, rep_len] <;> omega) | (refine small_len ?_; simp only [List.length_cons, List.length_nil, List.length_append, List.length_map, dInts_len, rangeD_len, List.length_replicate, List.length_take, List.length_drop, List.length_reverse, List.length_range, rep_len] <;> omega) | (refine ⟨?_, ?_⟩ <;> omega) | (refine ⟨?_, ?_, ?_⟩ <;> omega) | (refine ⟨?_, ?_, ?_, ?_⟩ <;> omega) | (simp only [List.length_cons, List.length_nil, List.length_append, List.length_map, dInts_len, rangeD_len, List.length_replicate, List.length_take, List.length_drop, List.length_reverse, List.length_range, rep_len] <;> omega) | (refine ⟨?_, ?_, small_le ?_⟩ <;> (try simp only [List.length_cons, List.length_nil, List.length_append, List.length_map, dInts_len, rangeD_len, List.length_replicate, List.length_take, List.length_drop, List.length_reverse, List.length_range, rep_len]) <;> omega) | (refine cpow_ok ?_ ?_ ?_ <;> omega) | (with_unfolding_all decide) | (simp [SeqAt.shaped, PyData.canLay0, PyData.canLayAll0, PyData.depth, PyData.depthAll]; done) | fail)
local macro_rules | `(tactic| ac_rfl) => `(tactic| simp (config := { dsimp := false, implicitDefEqProofs := false, failIfUnchanged := false }) (disch := array_mem_dec) only [↓x_set0, ↓x_setS, ↓x_own0, ↓x_ownS, ↓x_st0, ↓x_stS, ↓x_stN, ↓x_wm0, ↓x_wmS, ↓x_seq, ↓x_nx, ↓x_ret, ↓x_retN, ↓x_asg, ↓x_if, ↓x_drop, ↓x_brk, ↓x_cnt, ↓x_par, ↓x_par3, ↓x_for, ↓x_new, ↓x_app, ↓x_frz, ↓x_ownSet, ↓x_own, ↓x_parF, ↓x_parFF, ↓x_parEF, ↓x_par3F, ↓x_newLst, ↓x_dat, ↓x_int, ↓x_bool, ↓x_tru0, ↓x_truB, ↓x_truI, ↓x_truL, ↓x_truT, ↓x_v0, ↓x_v0k, ↓x_v0e, ↓x_vS, ↓x_c, ↓x_op, ↓x_un, ↓x_anil, ↓x_acons, ↓x_call, ↓x_callX, ↓x_callV, ↓x_callVX, ↓x_dats0, ↓x_datsS, ↓x_cb, ↓x_rdI, ↓x_rdIc, ↓x_neg, ↓x_eqS, ↓x_eqI, ↓x_eqB, ↓x_eqL, ↓x_eqT, ↓x_eqNT, ↓x_eqTN, ↓x_eqNN, ↓x_ne, ↓x_isN0, ↓x_isNI, ↓x_isNB, ↓x_isNS, ↓x_isNT, ↓x_isNL, ↓x_ntN0, ↓x_ntNI, ↓x_ntNB, ↓x_ntNS, ↓x_ntNT, ↓x_ntNL, ↓x_ixL, ↓x_ixT, ↓x_ixO, ↓x_ix0, ↓x_ix1, ↓x_ix2, ↓x_ix3, ↓x_inTt, ↓x_inTf, ↓x_inLt, ↓x_inLf, ↓x_tup, ↓x_lst, ↓x_lenL, ↓x_lenT, ↓x_tupL, ↓x_tupT, ↓x_lstL, ↓x_lstT, ↓x_sumL, ↓x_sumT, ↓x_max, ↓x_min, ↓x_abs, ↓x_intI, ↓x_intB, x_if1, x_if0, ↓x_repr, ↓x_ty, ↓x_addUI, ↓x_addUT, ↓x_addRT, ↓x_addRR, ↓x_lenR, ↓x_revR, ↓x_isNR, ↓x_addXL, ↓x_addXT, ↓x_addXI, ↓x_revT, ↓x_isB, ↓x_ntB, ↓x_neNil, ↓x_eqNil, ↓x_neNilT, ↓x_eqNilT, ↓x_mulUI, ↓x_tupRg, ↓x_lstRg, ↓x_slT, x_cut1, x_evTC, x_evTN, x_evLC, x_evLN, x_evI, x_evS, x_evB, x_evNN, x_evNI, x_evIN, x_evNT, x_evTNo, ↓x_oNo, ↓x_oSome, ↓x_chain, ↓x_val, ↓x_tnt, ↓x_tan, ↓x_too, ↓x_dnt, ↓x_dan, ↓x_doo, ↓x_dorT, ↓x_ife, ↓x_lc, ↓x_flc, ↓x_ton, ↓x_flst, ↓x_flist, ↓x_fcat, ↓x_fsl, ↓x_frev, ↓x_frep, ↓x_df, ↓x_ownIx, ↓x_ownLen, ↓x_repL, ↓x_wl, ↓x_wt, ↓x_wr1, ↓x_wr2, ↓x_wzT, ↓x_wzL, ↓x_weT, ↓x_weL, ↓x_gnm, ↓x_gs0, ↓x_gsS, ↓x_gtu, ↓x_gli, x_wipe0, x_wipeS, ↓x_sd, ↓x_sdY, x_flI, x_flS', x_flN, x_flB, x_all0, x_allS, x_andT, ↓x_brT, ↓x_brF, ↓x_brN, ↓x_brO, ↓x_brA, x_eqPI, x_any0, x_anyS, ↓x_brP, ↓x_brQ, ↓x_brB, ↓x_brC, x_s0, x_sS, x_g0, x_gS, ↓x_body, ↓x_bodyX, ↓x_frg, ↓x_ownLst, ↓x_ownNe, ↓x_ownEq, ↓x_ext, ↓x_wr3, ↓x_lstZip, ↓x_lstZipL, DL.isTup, DL.isInt, DL.isBool, DL.isStr, Int.reduceToNat, Int.reducePow, List.nil_append, List.cons_append])
local macro_rules | `(tactic| array_get_dec) => `(tactic| simp (config := { dsimp := false, implicitDefEqProofs := false, failIfUnchanged := false }) (disch := array_mem_dec) only [↓x_set0, ↓x_setS, ↓x_own0, ↓x_ownS, ↓x_st0, ↓x_stS, ↓x_stN, ↓x_wm0, ↓x_wmS, ↓x_seq, ↓x_nx, ↓x_ret, ↓x_retN, ↓x_asg, ↓x_if, ↓x_drop, ↓x_brk, ↓x_cnt, ↓x_par, ↓x_par3, ↓x_for, ↓x_new, ↓x_app, ↓x_frz, ↓x_ownSet, ↓x_own, ↓x_parF, ↓x_parFF, ↓x_parEF, ↓x_par3F, ↓x_newLst, ↓x_dat, ↓x_int, ↓x_bool, ↓x_tru0, ↓x_truB, ↓x_truI, ↓x_truL, ↓x_truT, ↓x_v0, ↓x_v0k, ↓x_v0e, ↓x_vS, ↓x_c, ↓x_op, ↓x_un, ↓x_anil, ↓x_acons, ↓x_call, ↓x_callX, ↓x_callV, ↓x_callVX, ↓x_dats0, ↓x_datsS, ↓x_cb, ↓x_rdI, ↓x_rdIc, ↓x_neg, ↓x_eqS, ↓x_eqI, ↓x_eqB, ↓x_eqL, ↓x_eqT, ↓x_eqNT, ↓x_eqTN, ↓x_eqNN, ↓x_ne, ↓x_isN0, ↓x_isNI, ↓x_isNB, ↓x_isNS, ↓x_isNT, ↓x_isNL, ↓x_ntN0, ↓x_ntNI, ↓x_ntNB, ↓x_ntNS, ↓x_ntNT, ↓x_ntNL, ↓x_ixL, ↓x_ixT, ↓x_ixO, ↓x_ix0, ↓x_ix1, ↓x_ix2, ↓x_ix3, ↓x_inTt, ↓x_inTf, ↓x_inLt, ↓x_inLf, ↓x_tup, ↓x_lst, ↓x_lenL, ↓x_lenT, ↓x_tupL, ↓x_tupT, ↓x_lstL, ↓x_lstT, ↓x_sumL, ↓x_sumT, ↓x_max, ↓x_min, ↓x_abs, ↓x_intI, ↓x_intB, x_if1, x_if0, ↓x_repr, ↓x_ty, ↓x_addUI, ↓x_addUT, ↓x_addRT, ↓x_addRR, ↓x_lenR, ↓x_revR, ↓x_isNR, ↓x_addXL, ↓x_addXT, ↓x_addXI, ↓x_revT, ↓x_isB, ↓x_ntB, ↓x_neNil, ↓x_eqNil, ↓x_neNilT, ↓x_eqNilT, ↓x_mulUI, ↓x_tupRg, ↓x_lstRg, ↓x_slT, x_cut1, x_evTC, x_evTN, x_evLC, x_evLN, x_evI, x_evS, x_evB, x_evNN, x_evNI, x_evIN, x_evNT, x_evTNo, ↓x_oNo, ↓x_oSome, ↓x_chain, ↓x_val, ↓x_tnt, ↓x_tan, ↓x_too, ↓x_dnt, ↓x_dan, ↓x_doo, ↓x_dorT, ↓x_ife, ↓x_lc, ↓x_flc, ↓x_ton, ↓x_flst, ↓x_flist, ↓x_fcat, ↓x_fsl, ↓x_frev, ↓x_frep, ↓x_df, ↓x_ownIx, ↓x_ownLen, ↓x_repL, ↓x_wl, ↓x_wt, ↓x_wr1, ↓x_wr2, ↓x_wzT, ↓x_wzL, ↓x_weT, ↓x_weL, ↓x_gnm, ↓x_gs0, ↓x_gsS, ↓x_gtu, ↓x_gli, x_wipe0, x_wipeS, ↓x_sd, ↓x_sdY, x_flI, x_flS', x_flN, x_flB, x_all0, x_allS, x_andT, ↓x_brT, ↓x_brF, ↓x_brN, ↓x_brO, ↓x_brA, x_eqPI, x_any0, x_anyS, ↓x_brP, ↓x_brQ, ↓x_brB, ↓x_brC, x_s0, x_sS, x_g0, x_gS, ↓x_body, ↓x_bodyX, ↓x_frg, ↓x_ownLst, ↓x_ownNe, ↓x_ownEq, ↓x_ext, ↓x_wr3, ↓x_lstZip, ↓x_lstZipL, DL.isTup, DL.isInt, DL.isBool, DL.isStr, Int.reduceToNat, Int.reducePow, List.nil_append, List.cons_append, ↓x_fl0, ↓x_flS, ↓x_fl, ↓x_ll0, ↓x_llS])
/-! ### last_to_rise, next_filling -/
theorem wh_ok {t : DT} {db : DS} {a : Ev → Nat → Prop} {b : Vl → Nat → Prop} {e f : Ev → Nat → Prop} {env : Ev} {c : Nat} (W : Nat → Ev → Nat → Prop) (m0 : Nat) (h0 : W m0 env c)
    (step : ∀ m env c, W m env c → t env c fun z c1 => Br z (db (DEnds.mk (fun e c' => ∃ m', m' < m ∧ W m' e c') b a (fun e c' => ∃ m', m' < m ∧ W m' e c')) env c1) (a env c1) {} {}) : sWhile t db (DEnds.mk a b e f) env c := ⟨W, ⟨m0, h0⟩, step⟩
def nI (F : List Nat) : List Int := F.map fun (x : Nat) => (x : Int)
theorem nI_len (F : List Nat) : (nI F).length = F.length := by simp [nI]
theorem nI_getD (F : List Nat) (v : Nat) : (nI F).getD v 0 = ((F.getD v 0 : Nat) : Int) := by
  unfold nI
  simp only [List.getD, List.getElem?_map]
  cases F[v]? <;> simp
theorem nI_set (F : List Nat) (i x : Nat) : (nI F).set i (x : Int) = nI (F.set i x) := by
  unfold nI
  rw [List.map_set]
theorem nI_inj {F G : List Nat} (h : nI F = nI G) : F = G := by
  refine List.ext_getElem? fun i => ?_
  have := congrArg (fun l => l[i]?) h
  simp only [nI, List.getElem?_map] at this
  cases a : F[i]? <;> cases b : G[i]? <;> simp [a, b] at this ⊢
  omega
theorem nI_at {F : List Nat} {v : Nat} (h : v < F.length) : atI (dInts (nI F)) (v : Int) = some (.int ((F.getD v 0 : Nat) : Int)) := by
  rw [dInts_at2 (by rw [nI_len]; exact h), ← getD_el (by rw [nI_len]; exact h), nI_getD]
theorem rangeD_nI (n : Nat) : rangeD 0 n = dInts (nI (List.range n)) := by
  unfold rangeD nI dInts
  rw [List.map_map]
  refine List.map_congr_left fun k _ => ?_
  show PyData.int (0 + (k : Int)) = PyData.int (k : Int)
  rw [Int.zero_add]
theorem rise_ok {n : Nat} {cs : List Cb} {h : List Int} (n0 : 0 < n) (n1 : n ≤ 1000) (hn : h.length = n) (hcs : cs.length ≤ 5000) (hl : ∀ l ∈ cs, l.s < n ∧ l.e < n) (hF : Fe cs fun v => h.getD v 0) {c : Nat} {P : Vl → Nat → Prop}
    (hP : ∀ p : Nat, p < n → CanR cs (fun v => h.getD v 0) p → (∀ q, p < q → q < n → ¬ CanR cs (fun v => h.getD v 0) q) → P (.dat (.int (p : Int))) c) : sp_last_to_rise [.dat (.int (n : Int)), .dat (cbsD cs), .dat (.list (dInts h))] c P := by
  have hdl : (dInts h).length = n := by rw [dInts_len, hn]
  unfold sp_last_to_rise dt_last_to_rise cbsD
  ac_rfl
  refine ll_gen cbD (fun l => decide (h.getD l.s 0 + l.c = h.getD l.e 0)) (fun l => .tuple [.int (l.s : Int), .int (l.e : Int)]) cs [] c _ _ (fun l hm A B ha hb => ?_) ?_
  · obtain ⟨b1, b2⟩ := hl l hm
    unfold cbD
    ac_rfl
    refine ixk_ok (dInts_at2 (by omega)) ?_
    ac_rfl
    refine ixk_ok (dInts_at2 (by omega)) ?_
    ac_rfl
    rw [← getD_el (by omega), ← getD_el (by omega)]
    refine br_dec (fun hx => ?_) (fun hx => ?_)
    · ac_rfl
      refine sd_ok (by array_mem_dec) ?_
      ac_rfl
      exact ha (decide_eq_true hx)
    · exact hb (decide_eq_false hx)
  · rw [List.nil_append]
    have ht : ∀ l ∈ cs.filter (fun l => decide (h.getD l.s 0 + l.c = h.getD l.e 0)), l ∈ cs ∧ (fun v => h.getD v 0) l.s + l.c = (fun v => h.getD v 0) l.e := fun l hm => ⟨(List.mem_filter.mp hm).1, of_decide_eq_true (List.mem_filter.mp hm).2⟩
    have ht2 : ∀ l ∈ cs, (fun v => h.getD v 0) l.s + l.c = (fun v => h.getD v 0) l.e → l ∈ cs.filter (fun l => decide (h.getD l.s 0 + l.c = h.getD l.e 0)) := fun l hm e => List.mem_filter.mpr ⟨hm, decide_eq_true e⟩
    generalize cs.filter (fun l => decide (h.getD l.s 0 + l.c = h.getD l.e 0)) = ts at ht ht2 ⊢
    have hts : ∀ l ∈ ts, l.s < n ∧ l.e < n := fun l hm => hl l (ht l hm).1
    ac_rfl
    rw [Int.toNat_natCast, rangeD_nI]
    refine wh_ok (fun m env c' => c = c' ∧ ∃ (F Bf : List Nat) (x6 x7 x8 x9 : Option Vl), FOk ts n F ∧ m = (if Bf = F then 0 else 1 + F.sum) ∧ (Bf = F → ∀ l ∈ ts, F.getD l.s 0 ≤ F.getD l.e 0) ∧
        env = [some (.dat (.int (n : Int))), some (.dat (.list (cs.map cbD))), some (.dat (.list (dInts h))), some (.dat (.list (ts.map fun l => .tuple [.int (l.s : Int), .int (l.e : Int)]))), some (.own (dInts (nI F))), some (.dat (.list (dInts (nI Bf)))), x6, x7, x8, x9]) _
      ⟨rfl, List.range n, [], none, none, none, none, ⟨by simp, fun v hv => by simp [List.getD, hv], fun v hv => by simp [List.getD, hv]; exact .refl v⟩, rfl, fun e => by have := congrArg List.length e; simp at this; omega, rfl⟩ (fun m env c' hW => ?_)
    obtain ⟨rfl, F, Bf, x6, x7, x8, x9, ok, rfl, hfix, rfl⟩ := hW
    have hlF := ok.len
    have s1 := shaped_lst (nI F)
    have s2 := shaped_lst (nI Bf)
    ac_rfl
    rw [eqv_lst]
    refine br_dec (fun hx => ?_) (fun hx => ?_)
    · have e := nI_inj hx
      subst e
      have hfix := hfix rfl
      have hdl2 : (dInts (nI F)).length = n := by rw [dInts_len, nI_len, hlF]
      ac_rfl
      refine ll_rangeF (fun j => decide (F.getD j 0 = j)) (fun j => .int ((j : Nat) : Int)) (fun j hj A B ha hb => ?_) ?_
      · rw [Int.toNat_natCast] at hj
        rw [Int.zero_add]
        ac_rfl
        refine ixk_ok (nI_at (by omega)) ?_
        ac_rfl
        refine br_dec (fun hx => ?_) (fun hx => ?_)
        · ac_rfl
          exact ha (decide_eq_true (by omega))
        · exact hb (decide_eq_false (by omega))
      · rw [Int.toNat_natCast]
        have e : ((List.range n).filter fun j => decide (F.getD j 0 = j)).map (fun j => PyData.int ((j : Nat) : Int)) = dInts (nI ((List.range n).filter fun j => decide (F.getD j 0 = j))) := by
          unfold dInts nI
          rw [List.map_map]
          rfl
        rw [e]
        have mem : ∀ j, j ∈ (List.range n).filter (fun j => decide (F.getD j 0 = j)) ↔ j < n ∧ F.getD j 0 = j := fun j => by simp [List.mem_filter]
        have z0 : 0 ∈ (List.range n).filter (fun j => decide (F.getD j 0 = j)) := (mem 0).mpr ⟨n0, by have := ok.le 0 n0; omega⟩
        generalize (List.range n).filter (fun j => decide (F.getD j 0 = j)) = js at mem z0
        have hpos : 0 < (nI js).length := by rw [nI_len]; exact List.length_pos_of_mem z0
        have q1 := mxL_mem hpos
        have q2 : ∀ j ∈ js, (j : Int) ≤ mxL (nI js) := fun j hj => mxL_ge (List.mem_map_of_mem (f := fun x : Nat => (x : Int)) hj)
        ac_rfl
        refine max_ok hpos ?_
        obtain ⟨p, hp, ep⟩ := List.mem_map.mp q1
        rw [← ep] at q2 ⊢
        obtain ⟨p1, p2⟩ := (mem p).mp hp
        refine hP p p1 (can_rise hF (fun v => F.getD v 0) p2 (fun v hv => ok.le v (by omega)) (fun l hm e => hfix l (ht2 l hm e))) fun q hq qn => ?_
        have r := ok.rch q qn
        have le := ok.le q qn
        by_cases z : F.getD q 0 = q
        · have := q2 q ((mem q).mpr ⟨qn, z⟩)
          omega
        · exact no_rise ht r (by omega)
    · have hx : Bf ≠ F := fun e => hx (by rw [e])
      have hm : (ts.map fun l => PyData.tuple [.int (l.s : Int), .int (l.e : Int)]).length = ts.length := by simp
      ac_rfl
      refine fl_inv (fun i env c' => c = c' ∧ ∃ x6 x7, env = [some (.dat (.int (n : Int))), some (.dat (.list (cs.map cbD))), some (.dat (.list (dInts h))), some (.dat (.list (ts.map fun l => .tuple [.int (l.s : Int), .int (l.e : Int)]))), some (.own (dInts (nI (fsr (ts.take i) F)))), some (.dat (.list (dInts (nI F)))), x6, x7, x8, x9]) (fun i d env c' k hd hI hk => ?_) ⟨rfl, _, _, rfl⟩ (fun env c' hI => ?_)
      · obtain ⟨rfl, x6, x7, rfl⟩ := hI
        rw [List.getElem?_map] at hd
        obtain ⟨l, hlk, rfl⟩ := Option.map_eq_some_iff.mp hd
        have hm : l ∈ ts := List.mem_of_getElem? hlk
        obtain ⟨b1, b2⟩ := hts l hm
        obtain ⟨okq, _⟩ := fsr_ok hts (us := ts.take i) (fun y hy => List.mem_of_mem_take hy) ok
        have e : fsr (ts.take (i + 1)) F = fs1 (fsr (ts.take i) F) l := fold_take hlk
        have ql := okq.len
        generalize fsr (ts.take i) F = q at e ql
        unfold fs1 at e
        ac_rfl
        refine ixk_ok (nI_at (by omega)) ?_
        ac_rfl
        refine ixk_ok (nI_at (by omega)) ?_
        ac_rfl
        refine br_dec (fun hy => ?_) (fun hy => ?_)
        · rw [if_pos (by omega)] at e
          ac_rfl
          refine ixk_ok (nI_at (by omega)) ?_
          ac_rfl
          refine ixn_ok (ixN_nat (by rw [dInts_len, nI_len]; omega)) ?_
          ac_rfl
          rw [dInts_set, nI_set, ← e]
          exact hk _ _ ⟨rfl, _, _, rfl⟩
        · rw [if_neg (by omega)] at e
          ac_rfl
          rw [← e]
          exact hk _ _ ⟨rfl, _, _, rfl⟩
      · obtain ⟨rfl, x6, x7, rfl⟩ := hI
        rw [hm, List.take_length]
        obtain ⟨okq, hd⟩ := fsr_ok hts (us := ts) (fun y hy => hy) ok
        refine ⟨_, ?_, rfl, fsr ts F, F, x6, x7, x8, x9, okq, rfl, fun e l hl => ?_, rfl⟩
        · rw [if_neg hx]
          rcases hd with hd | ⟨hd, _⟩
          · split
            · omega
            · omega
          · rw [if_pos hd.symm]
            omega
        · rcases hd with hd | ⟨hd, hd2⟩
          · rw [← e] at hd
            omega
          · rw [hd]
            exact hd2 l hl
end RW
namespace RW
open PySem PySem.Spec PyProof.Rows L2 DL
local macro_rules | `(tactic| array_mem_dec) => `(tactic| first | assumption | omega | (refine small_le ?_; omega) | (refine small_len ?_; omega) | (refine cmul_l ?_ ?_ <;> omega) | (refine cmul_r ?_ ?_ <;> omega) | (refine cdiv_ok ?_ ?_ <;> omega) | (refine small_le ?_; simp only [List.length_cons, List.length_nil, List.length_append, List.length_map, dInts_len, rangeD_len, List.length_replicate, List.length_take, List.length_drop, List.length_reverse, List.length_range, rep_len] <;> omega) | (refine small_len ?_; simp only [List.length_cons, List.length_nil, List.length_append, List.length_map, dInts_len, rangeD_len, List.length_replicate, List.length_take, List.length_drop, List.length_reverse, List.length_range, rep_len] <;> omega) | (refine ⟨?_, ?_⟩ <;> omega) | (refine ⟨?_, ?_, ?_⟩ <;> omega) | (refine ⟨?_, ?_, ?_, ?_⟩ <;> omega) | (simp only [List.length_cons, List.length_nil, List.length_append, List.length_map, dInts_len, rangeD_len, List.length_replicate, List.length_take, List.length_drop, List.length_reverse, List.length_range, rep_len] <;> omega) | (refine ⟨?_, ?_, small_le ?_⟩ <;> (try simp only [List.length_cons, List.length_nil, List.length_append, List.length_map, dInts_len, rangeD_len, List.length_replicate, List.length_take, List.length_drop, List.length_reverse, List.length_range, rep_len]) <;> omega) | (refine cpow_ok ?_ ?_ ?_ <;> omega) | (with_unfolding_all decide) | (simp [SeqAt.shaped, PyData.canLay0, PyData.canLayAll0, PyData.depth, PyData.depthAll]; done) | fail)
local macro_rules | `(tactic| ac_rfl) => `(tactic| simp (config := { dsimp := false, implicitDefEqProofs := false, failIfUnchanged := false }) (disch := array_mem_dec) only [↓x_set0, ↓x_setS, ↓x_own0, ↓x_ownS, ↓x_st0, ↓x_stS, ↓x_stN, ↓x_wm0, ↓x_wmS, ↓x_seq, ↓x_nx, ↓x_ret, ↓x_retN, ↓x_asg, ↓x_if, ↓x_drop, ↓x_brk, ↓x_cnt, ↓x_par, ↓x_par3, ↓x_for, ↓x_new, ↓x_app, ↓x_frz, ↓x_ownSet, ↓x_own, ↓x_parF, ↓x_parFF, ↓x_parEF, ↓x_par3F, ↓x_newLst, ↓x_dat, ↓x_int, ↓x_bool, ↓x_tru0, ↓x_truB, ↓x_truI, ↓x_truL, ↓x_truT, ↓x_v0, ↓x_v0k, ↓x_v0e, ↓x_vS, ↓x_c, ↓x_op, ↓x_un, ↓x_anil, ↓x_acons, ↓x_call, ↓x_callX, ↓x_callV, ↓x_callVX, ↓x_dats0, ↓x_datsS, ↓x_cb, ↓x_rdI, ↓x_rdIc, ↓x_neg, ↓x_eqS, ↓x_eqI, ↓x_eqB, ↓x_eqL, ↓x_eqT, ↓x_eqNT, ↓x_eqTN, ↓x_eqNN, ↓x_ne, ↓x_isN0, ↓x_isNI, ↓x_isNB, ↓x_isNS, ↓x_isNT, ↓x_isNL, ↓x_ntN0, ↓x_ntNI, ↓x_ntNB, ↓x_ntNS, ↓x_ntNT, ↓x_ntNL, ↓x_ixL, ↓x_ixT, ↓x_ixO, ↓x_ix0, ↓x_ix1, ↓x_ix2, ↓x_ix3, ↓x_inTt, ↓x_inTf, ↓x_inLt, ↓x_inLf, ↓x_tup, ↓x_lst, ↓x_lenL, ↓x_lenT, ↓x_tupL, ↓x_tupT, ↓x_lstL, ↓x_lstT, ↓x_sumL, ↓x_sumT, ↓x_max, ↓x_min, ↓x_abs, ↓x_intI, ↓x_intB, x_if1, x_if0, ↓x_repr, ↓x_ty, ↓x_addUI, ↓x_addUT, ↓x_addRT, ↓x_addRR, ↓x_lenR, ↓x_revR, ↓x_isNR, ↓x_addXL, ↓x_addXT, ↓x_addXI, ↓x_revT, ↓x_isB, ↓x_ntB, ↓x_neNil, ↓x_eqNil, ↓x_neNilT, ↓x_eqNilT, ↓x_mulUI, ↓x_tupRg, ↓x_lstRg, ↓x_slT, x_cut1, x_evTC, x_evTN, x_evLC, x_evLN, x_evI, x_evS, x_evB, x_evNN, x_evNI, x_evIN, x_evNT, x_evTNo, ↓x_oNo, ↓x_oSome, ↓x_chain, ↓x_val, ↓x_tnt, ↓x_tan, ↓x_too, ↓x_dnt, ↓x_dan, ↓x_doo, ↓x_dorT, ↓x_ife, ↓x_lc, ↓x_flc, ↓x_ton, ↓x_flst, ↓x_flist, ↓x_fcat, ↓x_fsl, ↓x_frev, ↓x_frep, ↓x_df, ↓x_ownIx, ↓x_ownLen, ↓x_repL, ↓x_wl, ↓x_wt, ↓x_wr1, ↓x_wr2, ↓x_wzT, ↓x_wzL, ↓x_weT, ↓x_weL, ↓x_gnm, ↓x_gs0, ↓x_gsS, ↓x_gtu, ↓x_gli, x_wipe0, x_wipeS, ↓x_sd, ↓x_sdY, x_flI, x_flS', x_flN, x_flB, x_all0, x_allS, x_andT, ↓x_brT, ↓x_brF, ↓x_brN, ↓x_brO, ↓x_brA, x_eqPI, x_any0, x_anyS, ↓x_brP, ↓x_brQ, ↓x_brB, ↓x_brC, x_s0, x_sS, x_g0, x_gS, ↓x_body, ↓x_bodyX, ↓x_frg, ↓x_ownLst, ↓x_ownNe, ↓x_ownEq, ↓x_ext, ↓x_wr3, ↓x_lstZip, ↓x_lstZipL, DL.isTup, DL.isInt, DL.isBool, DL.isStr, Int.reduceToNat, Int.reducePow, List.nil_append, List.cons_append])
local macro_rules | `(tactic| array_get_dec) => `(tactic| simp (config := { dsimp := false, implicitDefEqProofs := false, failIfUnchanged := false }) (disch := array_mem_dec) only [↓x_set0, ↓x_setS, ↓x_own0, ↓x_ownS, ↓x_st0, ↓x_stS, ↓x_stN, ↓x_wm0, ↓x_wmS, ↓x_seq, ↓x_nx, ↓x_ret, ↓x_retN, ↓x_asg, ↓x_if, ↓x_drop, ↓x_brk, ↓x_cnt, ↓x_par, ↓x_par3, ↓x_for, ↓x_new, ↓x_app, ↓x_frz, ↓x_ownSet, ↓x_own, ↓x_parF, ↓x_parFF, ↓x_parEF, ↓x_par3F, ↓x_newLst, ↓x_dat, ↓x_int, ↓x_bool, ↓x_tru0, ↓x_truB, ↓x_truI, ↓x_truL, ↓x_truT, ↓x_v0, ↓x_v0k, ↓x_v0e, ↓x_vS, ↓x_c, ↓x_op, ↓x_un, ↓x_anil, ↓x_acons, ↓x_call, ↓x_callX, ↓x_callV, ↓x_callVX, ↓x_dats0, ↓x_datsS, ↓x_cb, ↓x_rdI, ↓x_rdIc, ↓x_neg, ↓x_eqS, ↓x_eqI, ↓x_eqB, ↓x_eqL, ↓x_eqT, ↓x_eqNT, ↓x_eqTN, ↓x_eqNN, ↓x_ne, ↓x_isN0, ↓x_isNI, ↓x_isNB, ↓x_isNS, ↓x_isNT, ↓x_isNL, ↓x_ntN0, ↓x_ntNI, ↓x_ntNB, ↓x_ntNS, ↓x_ntNT, ↓x_ntNL, ↓x_ixL, ↓x_ixT, ↓x_ixO, ↓x_ix0, ↓x_ix1, ↓x_ix2, ↓x_ix3, ↓x_inTt, ↓x_inTf, ↓x_inLt, ↓x_inLf, ↓x_tup, ↓x_lst, ↓x_lenL, ↓x_lenT, ↓x_tupL, ↓x_tupT, ↓x_lstL, ↓x_lstT, ↓x_sumL, ↓x_sumT, ↓x_max, ↓x_min, ↓x_abs, ↓x_intI, ↓x_intB, x_if1, x_if0, ↓x_repr, ↓x_ty, ↓x_addUI, ↓x_addUT, ↓x_addRT, ↓x_addRR, ↓x_lenR, ↓x_revR, ↓x_isNR, ↓x_addXL, ↓x_addXT, ↓x_addXI, ↓x_revT, ↓x_isB, ↓x_ntB, ↓x_neNil, ↓x_eqNil, ↓x_neNilT, ↓x_eqNilT, ↓x_mulUI, ↓x_tupRg, ↓x_lstRg, ↓x_slT, x_cut1, x_evTC, x_evTN, x_evLC, x_evLN, x_evI, x_evS, x_evB, x_evNN, x_evNI, x_evIN, x_evNT, x_evTNo, ↓x_oNo, ↓x_oSome, ↓x_chain, ↓x_val, ↓x_tnt, ↓x_tan, ↓x_too, ↓x_dnt, ↓x_dan, ↓x_doo, ↓x_dorT, ↓x_ife, ↓x_lc, ↓x_flc, ↓x_ton, ↓x_flst, ↓x_flist, ↓x_fcat, ↓x_fsl, ↓x_frev, ↓x_frep, ↓x_df, ↓x_ownIx, ↓x_ownLen, ↓x_repL, ↓x_wl, ↓x_wt, ↓x_wr1, ↓x_wr2, ↓x_wzT, ↓x_wzL, ↓x_weT, ↓x_weL, ↓x_gnm, ↓x_gs0, ↓x_gsS, ↓x_gtu, ↓x_gli, x_wipe0, x_wipeS, ↓x_sd, ↓x_sdY, x_flI, x_flS', x_flN, x_flB, x_all0, x_allS, x_andT, ↓x_brT, ↓x_brF, ↓x_brN, ↓x_brO, ↓x_brA, x_eqPI, x_any0, x_anyS, ↓x_brP, ↓x_brQ, ↓x_brB, ↓x_brC, x_s0, x_sS, x_g0, x_gS, ↓x_body, ↓x_bodyX, ↓x_frg, ↓x_ownLst, ↓x_ownNe, ↓x_ownEq, ↓x_ext, ↓x_wr3, ↓x_lstZip, ↓x_lstZipL, DL.isTup, DL.isInt, DL.isBool, DL.isStr, Int.reduceToNat, Int.reducePow, List.nil_append, List.cons_append, ↓x_fl0, ↓x_flS, ↓x_fl, ↓x_ll0, ↓x_llS])
theorem canR_congr {cs : List Cb} {h g : Nat → Int} {n q : Nat} (e : ∀ v, v < n → h v = g v) (hq : q < n) (x : CanR cs h q) : CanR cs g q := by
  obtain ⟨M, a, b, c⟩ := x
  refine ⟨M, a, fun v hv => by rw [b v hv, e v (by omega)], ?_⟩
  rw [← e q hq]
  exact c
theorem hts_getD {fs : List Int} {v : Nat} (h : v < fs.length) : (hts fs).getD v 0 = (fs.take v).sum := by
  rw [List.getD_eq_getElem?_getD, hts_get h]
  rfl
theorem fe_congr {cs : List Cb} {h g : Nat → Int} {n : Nat} (hl : ∀ l ∈ cs, l.s < n ∧ l.e < n) (e : ∀ v, v < n → h v = g v) (x : Fe cs h) : Fe cs g := fun l hm => by
  obtain ⟨a, b⟩ := hl l hm
  rw [← e _ a, ← e _ b]
  exact x l hm
theorem next_ok {n : Nat} {rs : List R4} {fs : List Int} (n0 : 0 < n) (n1 : n ≤ 12) (hl : rs.length ≤ 1000) (hrs : ∀ r ∈ rs, r.Ok (n : Int)) (F : Fit n rs fs) {c : Nat} {P : Vl → Nat → Prop}
    (hP : ∀ r, IsNx n rs fs r → P (.dat (optF r)) c) : sp_next_filling [.dat (.int (n : Int)), .dat (rDs rs), .dat (.tuple (dInts fs))] c P := by
  have hlen := F.len
  have hh : ∀ v, v < n → (hts fs).getD v 0 = (fs.take v).sum := fun v hv => hts_getD (by omega)
  have fe := fe_fit n0 hrs F
  have hcs := cbs_len n rs fs.sum
  have hhl : (hts fs).length = n := by rw [hts_len, hlen]
  unfold sp_next_filling dt_next_filling
  ac_rfl
  refine cl_ok (climbs_ok n0 n1 hl hrs ?_)
  ac_rfl
  refine cl_ok (heights_ok (by omega) ?_)
  ac_rfl
  refine cl_ok (rise_ok n0 (by omega) hhl (by omega) (cbs_ok n0 hrs) (fe_congr (n := n) (cbs_ok n0 hrs) (fun v hv => (hh v hv).symm) fe) fun p hp hc hno => ?_)
  have hc := canR_congr (n := n) hh hp hc
  have hno : ∀ q, p < q → q < n → ¬ CanR (cbs n rs fs.sum) (fun v => (fs.take v).sum) q := fun q a b x => hno q a b (canR_congr (n := n) (fun v hv => (hh v hv).symm) b x)
  ac_rfl
  refine br_dec (fun hx => ?_) (fun hx => ?_)
  · have hx : p = 0 := by omega
    subst hx
    ac_rfl
    exact hP none (nx_none n0 hrs F hno)
  · ac_rfl
    rw [cut_take, dInts_take]
    refine ixk_ok (dInts_at2 (by omega)) ?_
    ac_rfl
    rw [← getD_el (by omega), hh p hp]
    have e : dInts ((hts fs).take p) ++ (List.replicate ((n : Int) - (p : Int)).toNat [PyData.int ((fs.take p).sum + 1)]).flatten = dInts (rsd n fs p) := by
      have : ((n : Int) - (p : Int)).toNat = n - p := by omega
      rw [this]
      unfold rsd
      rw [← dInts_app]
      unfold dInts
      simp
    rw [e]
    refine cl_ok (settled_ok (rsd_len hlen hp) (by omega) (cbs_ok n0 hrs) ?_)
    cases es : stdP (cbs n rs fs.sum) (rsd n fs p) with
    | none => exact (std_none n0 (cbs_ok n0 hrs) (rsd_len hlen hp) es _ fe).elim
    | some L =>
      have hL := std_some (cbs_ok n0 hrs) (rsd_len hlen hp) es
      have hLl := hL.len
      unfold optL
      ac_rfl
      exact cl_ok (counts_ok (by omega) (by omega) (hP (some (cof L fs.sum)) (nx_some n0 hrs F (by omega) hp hc hno hL)))
end RW
namespace RW
open PySem PySem.Spec PyProof.Rows L2 DL
local macro_rules | `(tactic| array_mem_dec) => `(tactic| first | assumption | omega | (refine small_le ?_; omega) | (refine small_len ?_; omega) | (refine cmul_l ?_ ?_ <;> omega) | (refine cmul_r ?_ ?_ <;> omega) | (refine cdiv_ok ?_ ?_ <;> omega) | (refine small_le ?_; simp only [List.length_cons, List.length_nil, List.length_append, List.length_map, dInts_len, rangeD_len, List.length_replicate, List.length_take, List.length_drop, List.length_reverse, List.length_range, rep_len] <;> omega) | (refine small_len ?_; simp only [List.length_cons, List.length_nil, List.length_append, List.length_map, dInts_len, rangeD_len, List.length_replicate, List.length_take, List.length_drop, List.length_reverse, List.length_range, rep_len] <;> omega) | (refine ⟨?_, ?_⟩ <;> omega) | (refine ⟨?_, ?_, ?_⟩ <;> omega) | (refine ⟨?_, ?_, ?_, ?_⟩ <;> omega) | (simp only [List.length_cons, List.length_nil, List.length_append, List.length_map, dInts_len, rangeD_len, List.length_replicate, List.length_take, List.length_drop, List.length_reverse, List.length_range, rep_len] <;> omega) | (refine ⟨?_, ?_, small_le ?_⟩ <;> (try simp only [List.length_cons, List.length_nil, List.length_append, List.length_map, dInts_len, rangeD_len, List.length_replicate, List.length_take, List.length_drop, List.length_reverse, List.length_range, rep_len]) <;> omega) | (refine cpow_ok ?_ ?_ ?_ <;> omega) | (with_unfolding_all decide) | (simp [SeqAt.shaped, PyData.canLay0, PyData.canLayAll0, PyData.depth, PyData.depthAll]; done) | fail)
local macro_rules | `(tactic| ac_rfl) => `(tactic| simp (config := { dsimp := false, implicitDefEqProofs := false, failIfUnchanged := false }) (disch := array_mem_dec) only [↓x_set0, ↓x_setS, ↓x_own0, ↓x_ownS, ↓x_st0, ↓x_stS, ↓x_stN, ↓x_wm0, ↓x_wmS, ↓x_seq, ↓x_nx, ↓x_ret, ↓x_retN, ↓x_asg, ↓x_if, ↓x_drop, ↓x_brk, ↓x_cnt, ↓x_par, ↓x_par3, ↓x_for, ↓x_new, ↓x_app, ↓x_frz, ↓x_ownSet, ↓x_own, ↓x_parF, ↓x_parFF, ↓x_parEF, ↓x_par3F, ↓x_newLst, ↓x_dat, ↓x_int, ↓x_bool, ↓x_tru0, ↓x_truB, ↓x_truI, ↓x_truL, ↓x_truT, ↓x_v0, ↓x_v0k, ↓x_v0e, ↓x_vS, ↓x_c, ↓x_op, ↓x_un, ↓x_anil, ↓x_acons, ↓x_call, ↓x_callX, ↓x_callV, ↓x_callVX, ↓x_dats0, ↓x_datsS, ↓x_cb, ↓x_rdI, ↓x_rdIc, ↓x_neg, ↓x_eqS, ↓x_eqI, ↓x_eqB, ↓x_eqL, ↓x_eqT, ↓x_eqNT, ↓x_eqTN, ↓x_eqNN, ↓x_ne, ↓x_isN0, ↓x_isNI, ↓x_isNB, ↓x_isNS, ↓x_isNT, ↓x_isNL, ↓x_ntN0, ↓x_ntNI, ↓x_ntNB, ↓x_ntNS, ↓x_ntNT, ↓x_ntNL, ↓x_ixL, ↓x_ixT, ↓x_ixO, ↓x_ix0, ↓x_ix1, ↓x_ix2, ↓x_ix3, ↓x_inTt, ↓x_inTf, ↓x_inLt, ↓x_inLf, ↓x_tup, ↓x_lst, ↓x_lenL, ↓x_lenT, ↓x_tupL, ↓x_tupT, ↓x_lstL, ↓x_lstT, ↓x_sumL, ↓x_sumT, ↓x_max, ↓x_min, ↓x_abs, ↓x_intI, ↓x_intB, x_if1, x_if0, ↓x_repr, ↓x_ty, ↓x_addUI, ↓x_addUT, ↓x_addRT, ↓x_addRR, ↓x_lenR, ↓x_revR, ↓x_isNR, ↓x_addXL, ↓x_addXT, ↓x_addXI, ↓x_revT, ↓x_isB, ↓x_ntB, ↓x_neNil, ↓x_eqNil, ↓x_neNilT, ↓x_eqNilT, ↓x_mulUI, ↓x_tupRg, ↓x_lstRg, ↓x_slT, x_cut1, x_evTC, x_evTN, x_evLC, x_evLN, x_evI, x_evS, x_evB, x_evNN, x_evNI, x_evIN, x_evNT, x_evTNo, ↓x_oNo, ↓x_oSome, ↓x_chain, ↓x_val, ↓x_tnt, ↓x_tan, ↓x_too, ↓x_dnt, ↓x_dan, ↓x_doo, ↓x_dorT, ↓x_ife, ↓x_lc, ↓x_flc, ↓x_ton, ↓x_flst, ↓x_flist, ↓x_fcat, ↓x_fsl, ↓x_frev, ↓x_frep, ↓x_df, ↓x_ownIx, ↓x_ownLen, ↓x_repL, ↓x_wl, ↓x_wt, ↓x_wr1, ↓x_wr2, ↓x_wzT, ↓x_wzL, ↓x_weT, ↓x_weL, ↓x_gnm, ↓x_gs0, ↓x_gsS, ↓x_gtu, ↓x_gli, x_wipe0, x_wipeS, ↓x_sd, ↓x_sdY, x_flI, x_flS', x_flN, x_flB, x_all0, x_allS, x_andT, ↓x_brT, ↓x_brF, ↓x_brN, ↓x_brO, ↓x_brA, x_eqPI, x_any0, x_anyS, ↓x_brP, ↓x_brQ, ↓x_brB, ↓x_brC, x_s0, x_sS, x_g0, x_gS, ↓x_body, ↓x_bodyX, ↓x_frg, ↓x_ownLst, ↓x_ownNe, ↓x_ownEq, ↓x_ext, ↓x_wr3, ↓x_lstZip, ↓x_lstZipL, DL.isTup, DL.isInt, DL.isBool, DL.isStr, Int.reduceToNat, Int.reducePow, List.nil_append, List.cons_append])
local macro_rules | `(tactic| array_get_dec) => `(tactic| simp (config := { dsimp := false, implicitDefEqProofs := false, failIfUnchanged := false }) (disch := array_mem_dec) only [↓x_set0, ↓x_setS, ↓x_own0, ↓x_ownS, ↓x_st0, ↓x_stS, ↓x_stN, ↓x_wm0, ↓x_wmS, ↓x_seq, ↓x_nx, ↓x_ret, ↓x_retN, ↓x_asg, ↓x_if, ↓x_drop, ↓x_brk, ↓x_cnt, ↓x_par, ↓x_par3, ↓x_for, ↓x_new, ↓x_app, ↓x_frz, ↓x_ownSet, ↓x_own, ↓x_parF, ↓x_parFF, ↓x_parEF, ↓x_par3F, ↓x_newLst, ↓x_dat, ↓x_int, ↓x_bool, ↓x_tru0, ↓x_truB, ↓x_truI, ↓x_truL, ↓x_truT, ↓x_v0, ↓x_v0k, ↓x_v0e, ↓x_vS, ↓x_c, ↓x_op, ↓x_un, ↓x_anil, ↓x_acons, ↓x_call, ↓x_callX, ↓x_callV, ↓x_callVX, ↓x_dats0, ↓x_datsS, ↓x_cb, ↓x_rdI, ↓x_rdIc, ↓x_neg, ↓x_eqS, ↓x_eqI, ↓x_eqB, ↓x_eqL, ↓x_eqT, ↓x_eqNT, ↓x_eqTN, ↓x_eqNN, ↓x_ne, ↓x_isN0, ↓x_isNI, ↓x_isNB, ↓x_isNS, ↓x_isNT, ↓x_isNL, ↓x_ntN0, ↓x_ntNI, ↓x_ntNB, ↓x_ntNS, ↓x_ntNT, ↓x_ntNL, ↓x_ixL, ↓x_ixT, ↓x_ixO, ↓x_ix0, ↓x_ix1, ↓x_ix2, ↓x_ix3, ↓x_inTt, ↓x_inTf, ↓x_inLt, ↓x_inLf, ↓x_tup, ↓x_lst, ↓x_lenL, ↓x_lenT, ↓x_tupL, ↓x_tupT, ↓x_lstL, ↓x_lstT, ↓x_sumL, ↓x_sumT, ↓x_max, ↓x_min, ↓x_abs, ↓x_intI, ↓x_intB, x_if1, x_if0, ↓x_repr, ↓x_ty, ↓x_addUI, ↓x_addUT, ↓x_addRT, ↓x_addRR, ↓x_lenR, ↓x_revR, ↓x_isNR, ↓x_addXL, ↓x_addXT, ↓x_addXI, ↓x_revT, ↓x_isB, ↓x_ntB, ↓x_neNil, ↓x_eqNil, ↓x_neNilT, ↓x_eqNilT, ↓x_mulUI, ↓x_tupRg, ↓x_lstRg, ↓x_slT, x_cut1, x_evTC, x_evTN, x_evLC, x_evLN, x_evI, x_evS, x_evB, x_evNN, x_evNI, x_evIN, x_evNT, x_evTNo, ↓x_oNo, ↓x_oSome, ↓x_chain, ↓x_val, ↓x_tnt, ↓x_tan, ↓x_too, ↓x_dnt, ↓x_dan, ↓x_doo, ↓x_dorT, ↓x_ife, ↓x_lc, ↓x_flc, ↓x_ton, ↓x_flst, ↓x_flist, ↓x_fcat, ↓x_fsl, ↓x_frev, ↓x_frep, ↓x_df, ↓x_ownIx, ↓x_ownLen, ↓x_repL, ↓x_wl, ↓x_wt, ↓x_wr1, ↓x_wr2, ↓x_wzT, ↓x_wzL, ↓x_weT, ↓x_weL, ↓x_gnm, ↓x_gs0, ↓x_gsS, ↓x_gtu, ↓x_gli, x_wipe0, x_wipeS, ↓x_sd, ↓x_sdY, x_flI, x_flS', x_flN, x_flB, x_all0, x_allS, x_andT, ↓x_brT, ↓x_brF, ↓x_brN, ↓x_brO, ↓x_brA, x_eqPI, x_any0, x_anyS, ↓x_brP, ↓x_brQ, ↓x_brB, ↓x_brC, x_s0, x_sS, x_g0, x_gS, ↓x_body, ↓x_bodyX, ↓x_frg, ↓x_ownLst, ↓x_ownNe, ↓x_ownEq, ↓x_ext, ↓x_wr3, ↓x_lstZip, ↓x_lstZipL, DL.isTup, DL.isInt, DL.isBool, DL.isStr, Int.reduceToNat, Int.reducePow, List.nil_append, List.cons_append, ↓x_fl0, ↓x_flS, ↓x_fl, ↓x_ll0, ↓x_llS])
/-! ### two fillings of one total, mixed step by step of their running sums -/
def rwD (L : List (List Int)) : List PyData := L.map fun g => .tuple (dInts g)
theorem rwD_len (L : List (List Int)) : (rwD L).length = L.length := by simp [rwD]
def smsL (a : List Int) (s : Int) : List Int := (List.range (a.length + 1)).map fun v => s + (a.take v).sum
theorem sums_ok {a : List Int} {s : Int} (h : a.length ≤ 1000) {c : Nat} {P : Vl → Nat → Prop} (hP : P (.dat (.list (dInts (smsL a s)))) c) : sp__law_sums [.dat (.tuple (dInts a)), .dat (.int s)] c P := by
  unfold sp__law_sums dt__law_sums
  ac_rfl
  refine ll_range (fun j => .int (s + (a.take j).sum)) (fun j hj A hA => ?_) ?_
  · ac_rfl
    rw [Int.zero_add, cut_take, dInts_take]
    ac_rfl
    exact hA
  · unfold smsL at hP
    have e : dInts ((List.range (a.length + 1)).map fun v => s + (a.take v).sum) = (List.range ((((dInts a).length : Nat) : Int) + 1).toNat).map fun j => PyData.int (s + (a.take j).sum) := by
      rw [dInts_len, show (((a.length : Nat) : Int) + 1).toNat = a.length + 1 by omega]
      unfold dInts
      rw [List.map_map]
      rfl
    rw [e] at hP
    ac_rfl
    exact hP
def dif (S : List Int) : List Int := List.zipWith (fun s e => e - s) S (S.drop 1)
theorem dif_cof {h : List Int} {T : Int} (h0 : 0 < h.length) : dif (h ++ [h.headD 0 + T]) = cof h T := by
  unfold dif cof
  obtain ⟨y, t, rfl⟩ : ∃ y t, h = y :: t := by
    cases h with
    | nil => cases h0
    | cons y t => exact ⟨y, t, rfl⟩
  have e := List.zipWith_append (f := fun (s e : Int) => e - s) (l₁ := y :: t) (l₁' := [y + T]) (l₂ := t ++ [y + T]) (l₂' := []) (by simp)
  rw [List.append_nil] at e
  show List.zipWith (fun s e => e - s) (y :: t ++ [y + T]) (t ++ [y + T]) = List.zipWith (fun s e => e - s) (y :: t) (t ++ [y + T])
  rw [e]
  simp
theorem fill_ok {S : List Int} (h : S.length ≤ 1000) {c : Nat} {P : Vl → Nat → Prop} (hP : P (.dat (.tuple (dInts (dif S)))) c) : sp__law_filling [.dat (.list (dInts S))] c P := by
  unfold sp__law_filling dt__law_filling
  ac_rfl
  rw [show (1 : Int) = ((1 : Nat) : Int) from rfl, cut_drop, dInts_drop, zip_tup]
  have hz : ((S.zip (S.drop 1)).map fun z => PyData.tuple [.int z.1, .int z.2]).length ≤ 1000 := by rw [List.length_map, List.length_zip]; omega
  ac_rfl
  refine ll_map (xs := S.zip (S.drop 1)) (fun z => PyData.tuple [.int z.1, .int z.2]) (fun z => .int (z.2 - z.1)) (fun z hz A hA => ?_) ?_
  · ac_rfl
    exact hA
  · have e : (S.zip (S.drop 1)).map (fun z => PyData.int (z.2 - z.1)) = dInts (dif S) := by
      unfold dInts dif
      rw [List.zip_eq_zipWith, List.map_zipWith, List.map_zipWith]
    rw [e]
    ac_rfl
    exact hP
/-- a row of running sums whose steps keep the rules -/
def Good (n : Nat) (rs : List R4) (T : Int) (S : List Int) : Prop := ∃ h : List Int, S = h ++ [h.headD 0 + T] ∧ h.length = n ∧ Fe (cbs n rs T) fun v => h.getD v 0
theorem Good.fit {n : Nat} {rs : List R4} {T : Int} {S : List Int} (n0 : 0 < n) (hrs : ∀ r ∈ rs, r.Ok (n : Int)) (g : Good n rs T S) : S.length = n + 1 ∧ Fit n rs (dif S) ∧ (dif S).sum = T := by
  obtain ⟨h, rfl, hl, hF⟩ := g
  obtain ⟨a, b⟩ := fit_fe n0 hrs hl hF
  rw [dif_cof (by omega)]
  exact ⟨by simp [hl], a, b⟩
theorem mix_good {n : Nat} {rs : List R4} {a b : List Int} {s : Int} (n0 : 0 < n) (hrs : ∀ r ∈ rs, r.Ok (n : Int)) (A : Fit n rs a) (B : Fit n rs b) (e : b.sum = a.sum) (F : Int → Int → Int)
    (mono : ∀ x y x' y' k : Int, x + k ≤ x' → y + k ≤ y' → F x y + k ≤ F x' y') (add : ∀ x y k : Int, F (x + k) (y + k) = F x y + k) :
    Good n rs a.sum ((smsL a 0).zip (smsL b s) |>.map fun z => F z.1 z.2) := by
  have al := A.len
  have bl := B.len
  have fa := fe_fit n0 hrs A
  have fb := fe_fit n0 hrs B
  rw [e] at fb
  have ez : ((smsL a 0).zip (smsL b s)).map (fun z => F z.1 z.2) = (List.range (n + 1)).map fun v => F (0 + (a.take v).sum) (s + (b.take v).sum) := by
    unfold smsL
    rw [al, bl, List.zip_eq_zipWith, List.map_zipWith, List.zipWith_map, List.zipWith_self]
  rw [ez, List.range_succ, List.map_append]
  have hg : ∀ v, v < n → ((List.range n).map fun v => F (0 + (a.take v).sum) (s + (b.take v).sum)).getD v 0 = F (0 + (a.take v).sum) (s + (b.take v).sum) := fun v hv => by
    rw [List.getD_eq_getElem?_getD, List.getElem?_map, List.getElem?_range hv]
    rfl
  have hh : ((List.range n).map fun v => F (0 + (a.take v).sum) (s + (b.take v).sum)).headD 0 = F 0 s := by
    have h0 := hg 0 n0
    generalize (List.range n).map (fun v => F (0 + (a.take v).sum) (s + (b.take v).sum)) = w at h0
    have : w.headD 0 = w.getD 0 0 := by cases w <;> rfl
    rw [this, h0]
    simp
  refine ⟨(List.range n).map fun v => F (0 + (a.take v).sum) (s + (b.take v).sum), ?_, by simp, ?_⟩
  · rw [hh, ← add]
    simp only [List.map_cons, List.map_nil]
    rw [List.take_of_length_le (by omega), List.take_of_length_le (by omega), e]
  · intro l hl
    obtain ⟨l1, l2⟩ := cbs_ok n0 hrs l hl
    have x := fa l hl
    have y := fb l hl
    simp only at x y ⊢
    rw [hg _ l1, hg _ l2]
    exact mono _ _ _ _ _ (by omega) (by omega)
theorem mixed_ok {n : Nat} {rs : List R4} {a b : List Int} {s : Int} (n0 : 0 < n) (n1 : n ≤ 12) (hl : rs.length ≤ 1000) (hrs : ∀ r ∈ rs, r.Ok (n : Int)) (A : Fit n rs a) (B : Fit n rs b) (e : b.sum = a.sum) {c : Nat} {P : Vl → Nat → Prop} (hP : P (.dat (.bool true)) c) :
    sp__law_mixed_right [.dat (.int (n : Int)), .dat (rDs rs), .dat (.tuple (dInts a)), .dat (.tuple (dInts b)), .dat (.int s)] c P := by
  have al := A.len
  have bl := B.len
  have la : (smsL a 0).length = n + 1 := by simp [smsL, al]
  have lb : (smsL b s).length = n + 1 := by simp [smsL, bl]
  have g1 := mix_good (s := s) n0 hrs A B e min (fun x y x' y' k h1 h2 => by omega) (fun x y k => by omega)
  have g2 := mix_good (s := s) n0 hrs A B e max (fun x y x' y' k h1 h2 => by omega) (fun x y k => by omega)
  have g3 := mix_good (s := s) n0 hrs A B e (fun x y => (x + y) / 2) (fun x y x' y' k h1 h2 => by omega) (fun x y k => by omega)
  have g4 := mix_good (s := s) n0 hrs A B e (fun x y => (x + y + 1) / 2) (fun x y x' y' k h1 h2 => by omega) (fun x y k => by omega)
  have zl : ((smsL a 0).zip (smsL b s)).length = n + 1 := by rw [List.length_zip, la, lb, Nat.min_self]
  unfold sp__law_mixed_right dt__law_mixed_right
  ac_rfl
  refine cl_ok (sums_ok (by omega) ?_)
  ac_rfl
  refine cl_ok (sums_ok (by omega) ?_)
  have e1 : (dInts (smsL a 0)).length = (dInts (smsL b s)).length := by rw [dInts_len, dInts_len, la, lb]
  have e2 : (dInts (smsL a 0)).length ≤ sizeLine := by rw [dInts_len, la]; exact small_le (by omega)
  ac_rfl
  rw [zip_tup]
  generalize (smsL a 0).zip (smsL b s) = Z at g1 g2 g3 g4 zl
  have zl2 : (Z.map fun z => PyData.tuple [.int z.1, .int z.2]).length = n + 1 := by rw [List.length_map, zl]
  ac_rfl
  refine ll_map (xs := Z) (fun z => PyData.tuple [.int z.1, .int z.2]) (fun z => .int (min z.1 z.2)) (fun z hz A hA => ?_) ?_
  · ac_rfl
    refine t_minT (ns := [z.1, z.2]) (by simp) fun m hm h => ?_
    have h1 := h z.1 (by simp)
    have h2 := h z.2 (by simp)
    have e : m = min z.1 z.2 := by
      rcases List.mem_cons.mp hm with rfl | hm
      · omega
      · rw [List.mem_singleton.mp hm] at h1 h2 ⊢
        omega
    subst e
    ac_rfl
    exact hA
  ac_rfl
  refine ll_map (xs := Z) (fun z => PyData.tuple [.int z.1, .int z.2]) (fun z => .int (max z.1 z.2)) (fun z hz A hA => ?_) ?_
  · ac_rfl
    refine t_maxT (ns := [z.1, z.2]) (by simp) fun m hm h => ?_
    have h1 := h z.1 (by simp)
    have h2 := h z.2 (by simp)
    have e : m = max z.1 z.2 := by
      rcases List.mem_cons.mp hm with rfl | hm
      · omega
      · rw [List.mem_singleton.mp hm] at h1 h2 ⊢
        omega
    subst e
    ac_rfl
    exact hA
  ac_rfl
  refine ll_map (xs := Z) (fun z => PyData.tuple [.int z.1, .int z.2]) (fun z => .int ((z.1 + z.2) / 2)) (fun z hz A hA => ?_) ?_
  · ac_rfl
    refine ⟨[z.1, z.2], rfl, ?_⟩
    have es : [z.1, z.2].sum = z.1 + z.2 := by simp
    rw [es]
    ac_rfl
    exact hA
  ac_rfl
  refine ll_map (xs := Z) (fun z => PyData.tuple [.int z.1, .int z.2]) (fun z => .int ((z.1 + z.2 + 1) / 2)) (fun z hz A hA => ?_) ?_
  · ac_rfl
    refine ⟨[z.1, z.2], rfl, ?_⟩
    have es : [z.1, z.2].sum = z.1 + z.2 := by simp
    rw [es]
    ac_rfl
    exact hA
  have mp : ∀ F : Int → Int → Int, Z.map (fun z => PyData.int (F z.1 z.2)) = dInts (Z.map fun z => F z.1 z.2) := fun F => by
    unfold dInts
    rw [List.map_map]
    rfl
  rw [mp min, mp max, mp (fun x y => (x + y) / 2), mp (fun x y => (x + y + 1) / 2)]
  ac_rfl
  refine fl_keep2 7 8 (fun d => ∃ S, d = .list (dInts S) ∧ Good n rs a.sum S) (fun c' => c' = c) (lit_cons ⟨_, rfl, g1⟩ (lit_cons ⟨_, rfl, g2⟩ (lit_cons ⟨_, rfl, g3⟩ (lit_cons ⟨_, rfl, g4⟩ lit_nil)))) rfl (fun d x7 x8 c3 k3 hQ hC hk3 => ?_) (fun x7 x8 c3 hC => ?_)
  · obtain ⟨S, rfl, g⟩ := hQ
    subst hC
    obtain ⟨gl, gf, gs⟩ := g.fit n0 hrs
    have fl := gf.len
    ac_rfl
    refine cl_ok (fill_ok (by omega) ?_)
    ac_rfl
    refine cl_ok (fits_ok (by omega) (by omega) (by omega) ?_)
    rw [fitsD_of hrs gf]
    ac_rfl
    exact hk3 _ _ _ rfl
  · subst hC
    ac_rfl
    exact hP
end RW
namespace RW
open PySem PySem.Spec PyProof.Rows L2 DL
local macro_rules | `(tactic| array_mem_dec) => `(tactic| first | assumption | omega | (refine small_le ?_; omega) | (refine small_len ?_; omega) | (refine cmul_l ?_ ?_ <;> omega) | (refine cmul_r ?_ ?_ <;> omega) | (refine cdiv_ok ?_ ?_ <;> omega) | (refine small_le ?_; simp only [List.length_cons, List.length_nil, List.length_append, List.length_map, dInts_len, rangeD_len, List.length_replicate, List.length_take, List.length_drop, List.length_reverse, List.length_range, rep_len] <;> omega) | (refine small_len ?_; simp only [List.length_cons, List.length_nil, List.length_append, List.length_map, dInts_len, rangeD_len, List.length_replicate, List.length_take, List.length_drop, List.length_reverse, List.length_range, rep_len] <;> omega) | (refine ⟨?_, ?_⟩ <;> omega) | (refine ⟨?_, ?_, ?_⟩ <;> omega) | (refine ⟨?_, ?_, ?_, ?_⟩ <;> omega) | (simp only [List.length_cons, List.length_nil, List.length_append, List.length_map, dInts_len, rangeD_len, List.length_replicate, List.length_take, List.length_drop, List.length_reverse, List.length_range, rep_len] <;> omega) | (refine ⟨?_, ?_, small_le ?_⟩ <;> (try simp only [List.length_cons, List.length_nil, List.length_append, List.length_map, dInts_len, rangeD_len, List.length_replicate, List.length_take, List.length_drop, List.length_reverse, List.length_range, rep_len]) <;> omega) | (refine cpow_ok ?_ ?_ ?_ <;> omega) | (with_unfolding_all decide) | (simp [SeqAt.shaped, PyData.canLay0, PyData.canLayAll0, PyData.depth, PyData.depthAll]; done) | fail)
local macro_rules | `(tactic| ac_rfl) => `(tactic| simp (config := { dsimp := false, implicitDefEqProofs := false, failIfUnchanged := false }) (disch := array_mem_dec) only [↓x_set0, ↓x_setS, ↓x_own0, ↓x_ownS, ↓x_st0, ↓x_stS, ↓x_stN, ↓x_wm0, ↓x_wmS, ↓x_seq, ↓x_nx, ↓x_ret, ↓x_retN, ↓x_asg, ↓x_if, ↓x_drop, ↓x_brk, ↓x_cnt, ↓x_par, ↓x_par3, ↓x_for, ↓x_new, ↓x_app, ↓x_frz, ↓x_ownSet, ↓x_own, ↓x_parF, ↓x_parFF, ↓x_parEF, ↓x_par3F, ↓x_newLst, ↓x_dat, ↓x_int, ↓x_bool, ↓x_tru0, ↓x_truB, ↓x_truI, ↓x_truL, ↓x_truT, ↓x_v0, ↓x_v0k, ↓x_v0e, ↓x_vS, ↓x_c, ↓x_op, ↓x_un, ↓x_anil, ↓x_acons, ↓x_call, ↓x_callX, ↓x_callV, ↓x_callVX, ↓x_dats0, ↓x_datsS, ↓x_cb, ↓x_rdI, ↓x_rdIc, ↓x_neg, ↓x_eqS, ↓x_eqI, ↓x_eqB, ↓x_eqL, ↓x_eqT, ↓x_eqNT, ↓x_eqTN, ↓x_eqNN, ↓x_ne, ↓x_isN0, ↓x_isNI, ↓x_isNB, ↓x_isNS, ↓x_isNT, ↓x_isNL, ↓x_ntN0, ↓x_ntNI, ↓x_ntNB, ↓x_ntNS, ↓x_ntNT, ↓x_ntNL, ↓x_ixL, ↓x_ixT, ↓x_ixO, ↓x_ix0, ↓x_ix1, ↓x_ix2, ↓x_ix3, ↓x_inTt, ↓x_inTf, ↓x_inLt, ↓x_inLf, ↓x_tup, ↓x_lst, ↓x_lenL, ↓x_lenT, ↓x_tupL, ↓x_tupT, ↓x_lstL, ↓x_lstT, ↓x_sumL, ↓x_sumT, ↓x_max, ↓x_min, ↓x_abs, ↓x_intI, ↓x_intB, x_if1, x_if0, ↓x_repr, ↓x_ty, ↓x_addUI, ↓x_addUT, ↓x_addRT, ↓x_addRR, ↓x_lenR, ↓x_revR, ↓x_isNR, ↓x_addXL, ↓x_addXT, ↓x_addXI, ↓x_revT, ↓x_isB, ↓x_ntB, ↓x_neNil, ↓x_eqNil, ↓x_neNilT, ↓x_eqNilT, ↓x_mulUI, ↓x_tupRg, ↓x_lstRg, ↓x_slT, x_cut1, x_evTC, x_evTN, x_evLC, x_evLN, x_evI, x_evS, x_evB, x_evNN, x_evNI, x_evIN, x_evNT, x_evTNo, ↓x_oNo, ↓x_oSome, ↓x_chain, ↓x_val, ↓x_tnt, ↓x_tan, ↓x_too, ↓x_dnt, ↓x_dan, ↓x_doo, ↓x_dorT, ↓x_ife, ↓x_lc, ↓x_flc, ↓x_ton, ↓x_flst, ↓x_flist, ↓x_fcat, ↓x_fsl, ↓x_frev, ↓x_frep, ↓x_df, ↓x_ownIx, ↓x_ownLen, ↓x_repL, ↓x_wl, ↓x_wt, ↓x_wr1, ↓x_wr2, ↓x_wzT, ↓x_wzL, ↓x_weT, ↓x_weL, ↓x_gnm, ↓x_gs0, ↓x_gsS, ↓x_gtu, ↓x_gli, x_wipe0, x_wipeS, ↓x_sd, ↓x_sdY, x_flI, x_flS', x_flN, x_flB, x_all0, x_allS, x_andT, ↓x_brT, ↓x_brF, ↓x_brN, ↓x_brO, ↓x_brA, x_eqPI, x_any0, x_anyS, ↓x_brP, ↓x_brQ, ↓x_brB, ↓x_brC, x_s0, x_sS, x_g0, x_gS, ↓x_body, ↓x_bodyX, ↓x_frg, ↓x_ownLst, ↓x_ownNe, ↓x_ownEq, ↓x_ext, ↓x_wr3, ↓x_lstZip, ↓x_lstZipL, DL.isTup, DL.isInt, DL.isBool, DL.isStr, Int.reduceToNat, Int.reducePow, List.nil_append, List.cons_append])
local macro_rules | `(tactic| array_get_dec) => `(tactic| simp (config := { dsimp := false, implicitDefEqProofs := false, failIfUnchanged := false }) (disch := array_mem_dec) only [↓x_set0, ↓x_setS, ↓x_own0, ↓x_ownS, ↓x_st0, ↓x_stS, ↓x_stN, ↓x_wm0, ↓x_wmS, ↓x_seq, ↓x_nx, ↓x_ret, ↓x_retN, ↓x_asg, ↓x_if, ↓x_drop, ↓x_brk, ↓x_cnt, ↓x_par, ↓x_par3, ↓x_for, ↓x_new, ↓x_app, ↓x_frz, ↓x_ownSet, ↓x_own, ↓x_parF, ↓x_parFF, ↓x_parEF, ↓x_par3F, ↓x_newLst, ↓x_dat, ↓x_int, ↓x_bool, ↓x_tru0, ↓x_truB, ↓x_truI, ↓x_truL, ↓x_truT, ↓x_v0, ↓x_v0k, ↓x_v0e, ↓x_vS, ↓x_c, ↓x_op, ↓x_un, ↓x_anil, ↓x_acons, ↓x_call, ↓x_callX, ↓x_callV, ↓x_callVX, ↓x_dats0, ↓x_datsS, ↓x_cb, ↓x_rdI, ↓x_rdIc, ↓x_neg, ↓x_eqS, ↓x_eqI, ↓x_eqB, ↓x_eqL, ↓x_eqT, ↓x_eqNT, ↓x_eqTN, ↓x_eqNN, ↓x_ne, ↓x_isN0, ↓x_isNI, ↓x_isNB, ↓x_isNS, ↓x_isNT, ↓x_isNL, ↓x_ntN0, ↓x_ntNI, ↓x_ntNB, ↓x_ntNS, ↓x_ntNT, ↓x_ntNL, ↓x_ixL, ↓x_ixT, ↓x_ixO, ↓x_ix0, ↓x_ix1, ↓x_ix2, ↓x_ix3, ↓x_inTt, ↓x_inTf, ↓x_inLt, ↓x_inLf, ↓x_tup, ↓x_lst, ↓x_lenL, ↓x_lenT, ↓x_tupL, ↓x_tupT, ↓x_lstL, ↓x_lstT, ↓x_sumL, ↓x_sumT, ↓x_max, ↓x_min, ↓x_abs, ↓x_intI, ↓x_intB, x_if1, x_if0, ↓x_repr, ↓x_ty, ↓x_addUI, ↓x_addUT, ↓x_addRT, ↓x_addRR, ↓x_lenR, ↓x_revR, ↓x_isNR, ↓x_addXL, ↓x_addXT, ↓x_addXI, ↓x_revT, ↓x_isB, ↓x_ntB, ↓x_neNil, ↓x_eqNil, ↓x_neNilT, ↓x_eqNilT, ↓x_mulUI, ↓x_tupRg, ↓x_lstRg, ↓x_slT, x_cut1, x_evTC, x_evTN, x_evLC, x_evLN, x_evI, x_evS, x_evB, x_evNN, x_evNI, x_evIN, x_evNT, x_evTNo, ↓x_oNo, ↓x_oSome, ↓x_chain, ↓x_val, ↓x_tnt, ↓x_tan, ↓x_too, ↓x_dnt, ↓x_dan, ↓x_doo, ↓x_dorT, ↓x_ife, ↓x_lc, ↓x_flc, ↓x_ton, ↓x_flst, ↓x_flist, ↓x_fcat, ↓x_fsl, ↓x_frev, ↓x_frep, ↓x_df, ↓x_ownIx, ↓x_ownLen, ↓x_repL, ↓x_wl, ↓x_wt, ↓x_wr1, ↓x_wr2, ↓x_wzT, ↓x_wzL, ↓x_weT, ↓x_weL, ↓x_gnm, ↓x_gs0, ↓x_gsS, ↓x_gtu, ↓x_gli, x_wipe0, x_wipeS, ↓x_sd, ↓x_sdY, x_flI, x_flS', x_flN, x_flB, x_all0, x_allS, x_andT, ↓x_brT, ↓x_brF, ↓x_brN, ↓x_brO, ↓x_brA, x_eqPI, x_any0, x_anyS, ↓x_brP, ↓x_brQ, ↓x_brB, ↓x_brC, x_s0, x_sS, x_g0, x_gS, ↓x_body, ↓x_bodyX, ↓x_frg, ↓x_ownLst, ↓x_ownNe, ↓x_ownEq, ↓x_ext, ↓x_wr3, ↓x_lstZip, ↓x_lstZipL, DL.isTup, DL.isInt, DL.isBool, DL.isStr, Int.reduceToNat, Int.reducePow, List.nil_append, List.cons_append, ↓x_fl0, ↓x_flS, ↓x_fl, ↓x_ll0, ↓x_llS])
theorem sm_spec {n : Nat} {rs : List R4} {T : Int} (n0 : 0 < n) (hrs : ∀ r ∈ rs, r.Ok (n : Int)) : (smP n rs T = none ∧ grP n rs T = none ∧ ∀ gs, Fit n rs gs → gs.sum ≠ T) ∨ ∃ a b, smP n rs T = some a ∧ grP n rs T = some b ∧ Fit n rs a ∧ a.sum = T ∧ Fit n rs b ∧ b.sum = T ∧ (∀ gs, Fit n rs gs → gs.sum = T → ∀ v, v ≤ n → (a.take v).sum ≤ (gs.take v).sum ∧ (gs.take v).sum ≤ (b.take v).sum) := by
  have S := sm_ok n0 hrs T
  have G := gr_ok n0 hrs T
  cases es : smP n rs T with
  | none =>
    rw [es] at S
    refine .inl ⟨rfl, ?_, S⟩
    cases eg : grP n rs T with
    | none => rfl
    | some b =>
      rw [eg] at G
      exact absurd G.2.1 (S b G.1)
  | some a =>
    rw [es] at S
    cases eg : grP n rs T with
    | none =>
      rw [eg] at G
      exact absurd S.2.1 (G a S.1)
    | some b =>
      rw [eg] at G
      exact .inr ⟨a, b, rfl, rfl, S.1, S.2.1, G.1, G.2.1, fun gs X e v hv => ⟨S.2.2 gs X e v hv, G.2.2 gs X e v hv⟩⟩
theorem one_ok {L : List (List Int)} (h0 : 0 < L.length) (h1 : L.length ≤ 1000) {c : Nat} (hc : c ≤ 1000000) {P : Vl → Nat → Prop} (hP : ∀ g ∈ L, P (.dat (.tuple (dInts g))) (c + 1)) : sp__law_one [.deck, .dat (.list (rwD L))] c P := by
  have hl := rwD_len L
  unfold sp__law_one dt__law_one
  ac_rfl
  refine draw_ok (by omega) (by omega) (by omega) fun i i0 i1 => ?_
  obtain ⟨i, rfl⟩ := Int.eq_ofNat_of_zero_le i0
  have hi : i < L.length := by omega
  ac_rfl
  refine ixk_ok (z := .tuple (dInts L[i])) (atI_nat ?_) ?_
  · unfold rwD
    rw [List.getElem?_map, List.getElem?_eq_getElem hi]
    rfl
  · ac_rfl
    exact hP _ (List.getElem_mem hi)
def AllF (n : Nat) (rs : List R4) (T : Int) (L : List (List Int)) : Prop := ∀ g ∈ L, Fit n rs g ∧ g.sum = T
theorem AllF.snoc {n : Nat} {rs : List R4} {T : Int} {L : List (List Int)} (h : AllF n rs T L) {g : List Int} (G : Fit n rs g) (e : g.sum = T) : AllF n rs T (L ++ [g]) := fun x hx => by
  rcases List.mem_append.mp hx with hx | hx
  · exact h x hx
  · rw [List.mem_singleton.mp hx]
    exact ⟨G, e⟩
theorem somes {n : Nat} {rs : List R4} {T : Int} (l : List (Option (List Int))) (h : ∀ r ∈ l, ∀ g, r = some g → Fit n rs g ∧ g.sum = T) : ∃ M, (l.filter Option.isSome).map optF = rwD M ∧ M.length ≤ l.length ∧ AllF n rs T M := by
  induction l with
  | nil => exact ⟨[], rfl, Nat.le_refl _, fun g hg => nomatch hg⟩
  | cons r l ih =>
    obtain ⟨M, e, hM, hA⟩ := ih fun r hr => h r (List.mem_cons_of_mem _ hr)
    cases r with
    | none => exact ⟨M, e, Nat.le_succ_of_le hM, hA⟩
    | some g =>
      refine ⟨g :: M, ?_, by simpa using hM, fun x hx => ?_⟩
      · show optF (some g) :: (l.filter Option.isSome).map optF = _
        rw [e]
        rfl
      · rcases List.mem_cons.mp hx with rfl | hx
        · exact h _ List.mem_cons_self _ rfl
        · exact hA x hx
theorem law_ok {ns : List Int} (h63 : ns.length ≤ 63) : sp_law [.dat (.list (ns.map PyData.int))] 0 (fun x _ => x = .dat (.bool true)) := by
  unfold sp_law dt_law
  refine law_start h63 ?_
  ac_rfl
  refine fl_inv (fun j env c => c ≤ 300 * j ∧ ∃ x2 x3 x4 x5 x6 x7 x8 x9 x10 x11 x12 x13 x14 x15 x16, env = [some (.dat (.list (ns.map PyData.int))), some .deck, x2, x3, x4, x5, x6, x7, x8, x9, x10, x11, x12, x13, x14, x15, x16]) (fun j d env c k hd hI hk => ?_) ⟨Nat.le_refl _, none, none, none, none, none, none, none, none, none, none, none, none, none, none, none, rfl⟩ (fun env c hI => ?_)
  · obtain ⟨hc, x2, x3, x4, x5, x6, x7, x8, x9, x10, x11, x12, x13, x14, x15, x16, rfl⟩ := hI
    obtain ⟨hj, rfl⟩ := rangeD_get hd
    have hj : j < 4 := hj
    ac_rfl
    refine ixk_int [9, 10000000] (fun x => 0 ≤ x ∧ x ≤ 10000000) (by omega) (by array_mem_dec) (by decide) fun g hg => ?_
    obtain ⟨g, rfl⟩ := Int.eq_ofNat_of_zero_le (a := g) (by omega)
    ac_rfl
    refine cl_ok (ring_ok (most := 12) (many := 15) (by omega) (by omega) (by omega) (by omega) (by omega) fun n rs fs c' n0 n1 hl hfl hfs hrs hc' => ?_)
    have F : Fit n rs fs := RE.fit hfl hfs hrs
    have oks : ∀ r ∈ rs, r.Ok (n : Int) := fun r hr => (hrs r hr).ok
    obtain ⟨t0, t1⟩ := sum_bd n0 hfl (by omega) hfs
    have t2 : (g : Int) * (n : Int) ≤ 10000000 * 12 := Int.mul_le_mul (by omega) (by omega) (by omega) (by decide)
    rcases sm_spec (T := fs.sum) n0 oks with ⟨_, _, hno⟩ | ⟨u, w, es, eg, U, eu, W, ew, _⟩
    · exact absurd rfl (hno fs F)
    ac_rfl
    refine cl_ok (smallest_ok n0 n1 (by omega) oks ?_)
    rw [es]
    unfold optF
    ac_rfl
    refine cl_ok (greatest_ok n0 n1 (by omega) oks ?_)
    rw [eg]
    unfold optF
    ac_rfl
    refine cl_ok (next_ok n0 n1 (by omega) oks F fun r hr => ?_)
    ac_rfl
    refine cl_ok (next_ok n0 n1 (by omega) oks U fun q hq => ?_)
    have hrq : ∀ x ∈ [r, q], ∀ y, x = some y → Fit n rs y ∧ y.sum = fs.sum := fun x hx y e => by
      rcases List.mem_cons.mp hx with rfl | hx
      · subst e
        exact ⟨hr.1, hr.2.1⟩
      · rw [List.mem_singleton.mp hx] at e
        subst e
        exact ⟨hq.1, hq.2.1.trans eu⟩
    obtain ⟨M, eM, hM, hA⟩ := somes [r, q] hrq
    have hM : M.length ≤ 2 := hM
    have hMl := rwD_len M
    ac_rfl
    refine ll_gen optF Option.isSome optF [r, q] [] _ _ _ (fun x hx A B hA hB => ?_) ?_
    · cases x with
      | none =>
        unfold optF
        ac_rfl
        exact hB rfl
      | some y =>
        unfold optF
        ac_rfl
        exact hA rfl
    rw [List.nil_append, eM]
    generalize optF r = zr
    generalize optF q = zq
    ac_rfl
    have eL : [PyData.tuple (dInts fs), .tuple (dInts u), .tuple (dInts w)] ++ rwD M = rwD (fs :: u :: w :: M) := rfl
    have hL : AllF n rs fs.sum (fs :: u :: w :: M) := fun x hx => by
      rcases List.mem_cons.mp hx with rfl | hx
      · exact ⟨F, rfl⟩
      rcases List.mem_cons.mp hx with rfl | hx
      · exact ⟨U, eu⟩
      rcases List.mem_cons.mp hx with rfl | hx
      · exact ⟨W, ew⟩
      · exact hA x hx
    have hLl : (fs :: u :: w :: M).length ≤ 5 := by simp; omega
    have hL0 : 0 < (fs :: u :: w :: M).length := by simp
    have eL2 : PyData.tuple (dInts fs) :: PyData.tuple (dInts u) :: PyData.tuple (dInts w) :: rwD M = rwD (fs :: u :: w :: M) := rfl
    refine draw_ok (by omega) (by omega) (by omega) fun f f0 f1 => ?_
    obtain ⟨f, rfl⟩ := Int.eq_ofNat_of_zero_le f0
    ac_rfl
    refine draw_ok (by omega) (by omega) (by omega) fun s s0 s1 => ?_
    obtain ⟨s, hs⟩ := Int.eq_ofNat_of_zero_le (a := 1 + s) (by omega)
    have hf : f < n := by omega
    have hs1 : 1 ≤ s ∧ s ≤ n := by omega
    obtain ⟨a, b, ewr, ⟨ga, GA, ea, pa⟩, ⟨gb, GB, eb, pb⟩, hab⟩ := wr_some n0 oks hf hs1.2 F rfl
    have ha := psum_in GA n0 hf hs1.2 ea
    have hb := psum_in GB n0 hf hs1.2 eb
    ac_rfl
    rw [hs]
    refine cl_ok (range_ok n0 n1 (by omega) oks hf hs1.2 ?_)
    rw [ewr]
    unfold optP
    ac_rfl
    refine fl_inv (fun i env c3 => c3 = c' + 1 + 1 ∧ ∃ L x11, L.length ≤ 5 + i ∧ 0 < L.length ∧ AllF n rs fs.sum L ∧ env = [some (.dat (.list (ns.map PyData.int))), some .deck, some (.dat (.int (0 + (j : Int)))), some (.dat (.int (n : Int))), some (.dat (rDs rs)), some (.dat (.tuple (dInts fs))), some (.dat (.int fs.sum)), some (.own (rwD L)), some (.dat (.list [zr, zq])), some (.dat (.int (f : Int))), some (.dat (.int (s : Int))), x11, x12, x13, x14, x15, x16]) (fun i d env c3 k3 hd3 hI3 hk3 => ?_) ⟨rfl, fs :: u :: w :: M, _, hLl, hL0, hL, rfl⟩ (fun env c3 hI3 => ?_)
    · obtain ⟨rfl, L, x11, l1, l2, l3, rfl⟩ := hI3
      have hi := (List.getElem?_eq_some_iff.mp hd3).1
      have hi : i < 2 := hi
      obtain ⟨v, rfl, v0, v1, gv, GV, ev, pv⟩ : ∃ v, d = .int v ∧ 0 ≤ v ∧ v ≤ fs.sum ∧ ∃ gs, Fit n rs gs ∧ gs.sum = fs.sum ∧ psum gs (f : Int) s = v := by
        rcases List.mem_cons.mp (List.mem_of_getElem? hd3) with rfl | hx
        · exact ⟨a, rfl, by omega, by omega, ga, GA, ea, pa⟩
        · rw [List.mem_singleton.mp hx]
          exact ⟨b, rfl, by omega, by omega, gb, GB, eb, pb⟩
      have okx := ok_snoc oks (show (⟨(f : Int), (s : Int), v, some v⟩ : R4).Ok (n : Int) from ok_rule (by omega) (by omega) (by omega) (by omega) (by omega) (by omega) (fun x e => by cases e; omega))
      obtain ⟨z, ez, Z, sz⟩ := sm_has n0 okx (exact_iff.mpr ⟨GV, pv⟩) ev
      have hll := rwD_len L
      ac_rfl
      rw [rDs_snocI]
      refine cl_ok (smallest_ok n0 n1 (by simp; omega) okx ?_)
      rw [ez]
      unfold optF
      ac_rfl
      refine hk3 _ _ ⟨rfl, L ++ [z], some (.dat (.int v)), by simp; omega, by simp, l3.snoc (exact_iff.mp Z).1 sz, ?_⟩
      simp [rwD]
    · obtain ⟨rfl, L, x11, l1, l2, l3, rfl⟩ := hI3
      have l1 : L.length ≤ 5 + 2 := l1
      have hll := rwD_len L
      ac_rfl
      refine fl_inv (fun i env c4 => c4 = c' + 1 + 1 + 3 * i ∧ i ≤ L.length ∧ ∃ x12 x13 x14 x15, env = [some (.dat (.list (ns.map PyData.int))), some .deck, some (.dat (.int (0 + (j : Int)))), some (.dat (.int (n : Int))), some (.dat (rDs rs)), some (.dat (.tuple (dInts fs))), some (.dat (.int fs.sum)), some (.dat (.list (rwD L))), some (.dat (.list [zr, zq])), some (.dat (.int (f : Int))), some (.dat (.int (s : Int))), x11, x12, x13, x14, x15, x16]) (fun i d env c4 k4 hd4 hI4 hk4 => ?_) ⟨rfl, Nat.zero_le _, _, _, _, _, rfl⟩ (fun env c4 hI4 => ?_)
      · obtain ⟨rfl, hil, x12, x13, x14, x15, rfl⟩ := hI4
        have hi := (List.getElem?_eq_some_iff.mp hd4).1
        rw [hll] at hi
        obtain ⟨x, hx, rfl⟩ := List.mem_map.mp (List.mem_of_getElem? hd4)
        obtain ⟨X, ex⟩ := l3 x hx
        have xl := X.len
        ac_rfl
        refine cl_ok (one_ok l2 (by omega) (by omega) fun y hy => ?_)
        obtain ⟨Y, ey⟩ := l3 y hy
        have yl := Y.len
        ac_rfl
        refine t_maxT (by omega) fun m1 hm1 _ => ?_
        have m10 := X.nn m1 hm1
        have m11 := sum_mem X.nn m1 hm1
        ac_rfl
        refine t_maxT (by omega) fun m2 hm2 _ => ?_
        have m20 := Y.nn m2 hm2
        have m21 := sum_mem Y.nn m2 hm2
        ac_rfl
        refine draw_ok (by omega) (by omega) (by omega) fun h h0 h1 => ?_
        ac_rfl
        refine draw_ok (by omega) (by omega) (by omega) fun p p0 p1 => ?_
        ac_rfl
        refine ixk_int [0, 1, -1, h, 0 - h] (fun x => True) p0 p1 (fun _ _ => trivial) fun t _ => ?_
        ac_rfl
        refine cl_ok (mixed_ok n0 n1 (by omega) oks X Y (by omega) ?_)
        ac_rfl
        exact hk4 _ _ ⟨by omega, by omega, _, _, _, _, rfl⟩
      · obtain ⟨rfl, hil, x12, x13, x14, x15, rfl⟩ := hI4
        ac_rfl
        exact hk _ _ ⟨by omega, _, _, _, _, _, _, _, _, _, _, _, _, _, _, _, rfl⟩
  · obtain ⟨hc, x2, x3, x4, x5, x6, x7, x8, x9, x10, x11, x12, x13, x14, x15, x16, rfl⟩ := hI
    ac_rfl
theorem want (K : PySem.W.Frag) (H : Hp) (a : Addr) (ns : List Int) (hl : ns.length ≤ 63) (hS : SqL K H a (ns.map V.int)) : spTop K sp_law [.ref a] H (fun v _ => v = .bl true) E0 :=
  ⟨a, ns, fun x _ => x = .dat (.bool true), rfl, hS, hl, law_ok hl, fun x c' g' H' v hx ok _ => by
    subst hx
    exact dp_bl ok⟩
end RW
namespace RW
open PySem PySem.Spec PyProof.Rows L2 DL
theorem all_mk {l : PySem.W.OpenLaw} {w : World} {K : PySem.W.Frag} {h : Heap} {mg : Str → Option Value} {fa f0 f1 f2 f3 f4 f5 f6 f7 f8 f9 f10 f11 f12 f13 f14 f15 f16 f17 f18 f19 f20 f21 f22 f23 f24 f25 f26 f27 : Addr} (X : K.In h) (G : h.Ns mainGlobals mg) (hfa : mg "law" = some (.ref fa))
    {od0 an0 : Option Addr} {sl0 : Array (Option Value)} {oc0 kV0 dc0 pm0 cd0 ct0 : Value}
    (a0 : PySem.W.nsIn K mainGlobals "links_of" = some (some (.ref f0))) (l0 : K.lookup f0 = some ⟨oc0, od0, .func (PySem.W.fnOf "links_of" "links_of" (defArgs s_links_of) (defBody s_links_of) (defScope s_links_of) .none kV0 dc0 pm0 an0 cd0 ct0), sl0⟩) (c0 : PySem.W.codeIn K cd0 "links_of" = true) (k0 : PySem.W.keepIn K (.ref f0) = true)
    {od1 an1 : Option Addr} {sl1 : Array (Option Value)} {oc1 kV1 dc1 pm1 cd1 ct1 : Value}
    (a1 : PySem.W.nsIn K mainGlobals "counts_of" = some (some (.ref f1))) (l1 : K.lookup f1 = some ⟨oc1, od1, .func (PySem.W.fnOf "counts_of" "counts_of" (defArgs s_counts_of) (defBody s_counts_of) (defScope s_counts_of) .none kV1 dc1 pm1 an1 cd1 ct1), sl1⟩) (c1 : PySem.W.codeIn K cd1 "counts_of" = true) (k1 : PySem.W.keepIn K (.ref f1) = true)
    {od2 an2 : Option Addr} {sl2 : Array (Option Value)} {oc2 kV2 dc2 pm2 cd2 ct2 : Value}
    (a2 : PySem.W.nsIn K mainGlobals "heights_of" = some (some (.ref f2))) (l2 : K.lookup f2 = some ⟨oc2, od2, .func (PySem.W.fnOf "heights_of" "heights_of" (defArgs s_heights_of) (defBody s_heights_of) (defScope s_heights_of) .none kV2 dc2 pm2 an2 cd2 ct2), sl2⟩) (c2 : PySem.W.codeIn K cd2 "heights_of" = true) (k2 : PySem.W.keepIn K (.ref f2) = true)
    {od3 an3 : Option Addr} {sl3 : Array (Option Value)} {oc3 kV3 dc3 pm3 cd3 ct3 : Value}
    (a3 : PySem.W.nsIn K mainGlobals "climbs_of" = some (some (.ref f3))) (l3 : K.lookup f3 = some ⟨oc3, od3, .func (PySem.W.fnOf "climbs_of" "climbs_of" (defArgs s_climbs_of) (defBody s_climbs_of) (defScope s_climbs_of) .none kV3 dc3 pm3 an3 cd3 ct3), sl3⟩) (c3 : PySem.W.codeIn K cd3 "climbs_of" = true) (k3 : PySem.W.keepIn K (.ref f3) = true)
    {od4 an4 : Option Addr} {sl4 : Array (Option Value)} {oc4 kV4 dc4 pm4 cd4 ct4 : Value}
    (a4 : PySem.W.nsIn K mainGlobals "settled" = some (some (.ref f4))) (l4 : K.lookup f4 = some ⟨oc4, od4, .func (PySem.W.fnOf "settled" "settled" (defArgs s_settled) (defBody s_settled) (defScope s_settled) .none kV4 dc4 pm4 an4 cd4 ct4), sl4⟩) (c4 : PySem.W.codeIn K cd4 "settled" = true) (k4 : PySem.W.keepIn K (.ref f4) = true)
    {od5 an5 : Option Addr} {sl5 : Array (Option Value)} {oc5 kV5 dc5 pm5 cd5 ct5 : Value}
    (a5 : PySem.W.nsIn K mainGlobals "heights_from" = some (some (.ref f5))) (l5 : K.lookup f5 = some ⟨oc5, od5, .func (PySem.W.fnOf "heights_from" "heights_from" (defArgs s_heights_from) (defBody s_heights_from) (defScope s_heights_from) .none kV5 dc5 pm5 an5 cd5 ct5), sl5⟩) (c5 : PySem.W.codeIn K cd5 "heights_from" = true) (k5 : PySem.W.keepIn K (.ref f5) = true)
    {od6 an6 : Option Addr} {sl6 : Array (Option Value)} {oc6 kV6 dc6 pm6 cd6 ct6 : Value}
    (a6 : PySem.W.nsIn K mainGlobals "window_range" = some (some (.ref f6))) (l6 : K.lookup f6 = some ⟨oc6, od6, .func (PySem.W.fnOf "window_range" "window_range" (defArgs s_window_range) (defBody s_window_range) (defScope s_window_range) .none kV6 dc6 pm6 an6 cd6 ct6), sl6⟩) (c6 : PySem.W.codeIn K cd6 "window_range" = true) (k6 : PySem.W.keepIn K (.ref f6) = true)
    {od7 an7 : Option Addr} {sl7 : Array (Option Value)} {oc7 kV7 dc7 pm7 cd7 ct7 : Value}
    (a7 : PySem.W.nsIn K mainGlobals "smallest_filling" = some (some (.ref f7))) (l7 : K.lookup f7 = some ⟨oc7, od7, .func (PySem.W.fnOf "smallest_filling" "smallest_filling" (defArgs s_smallest_filling) (defBody s_smallest_filling) (defScope s_smallest_filling) .none kV7 dc7 pm7 an7 cd7 ct7), sl7⟩) (c7 : PySem.W.codeIn K cd7 "smallest_filling" = true) (k7 : PySem.W.keepIn K (.ref f7) = true)
    {od8 an8 : Option Addr} {sl8 : Array (Option Value)} {oc8 kV8 dc8 pm8 cd8 ct8 : Value}
    (a8 : PySem.W.nsIn K mainGlobals "greatest_filling" = some (some (.ref f8))) (l8 : K.lookup f8 = some ⟨oc8, od8, .func (PySem.W.fnOf "greatest_filling" "greatest_filling" (defArgs s_greatest_filling) (defBody s_greatest_filling) (defScope s_greatest_filling) .none kV8 dc8 pm8 an8 cd8 ct8), sl8⟩) (c8 : PySem.W.codeIn K cd8 "greatest_filling" = true) (k8 : PySem.W.keepIn K (.ref f8) = true)
    {od9 an9 : Option Addr} {sl9 : Array (Option Value)} {oc9 kV9 dc9 pm9 cd9 ct9 : Value}
    (a9 : PySem.W.nsIn K mainGlobals "last_to_rise" = some (some (.ref f9))) (l9 : K.lookup f9 = some ⟨oc9, od9, .func (PySem.W.fnOf "last_to_rise" "last_to_rise" (defArgs s_last_to_rise) (defBody s_last_to_rise) (defScope s_last_to_rise) .none kV9 dc9 pm9 an9 cd9 ct9), sl9⟩) (c9 : PySem.W.codeIn K cd9 "last_to_rise" = true) (k9 : PySem.W.keepIn K (.ref f9) = true)
    {od10 an10 : Option Addr} {sl10 : Array (Option Value)} {oc10 kV10 dc10 pm10 cd10 ct10 : Value}
    (a10 : PySem.W.nsIn K mainGlobals "next_filling" = some (some (.ref f10))) (l10 : K.lookup f10 = some ⟨oc10, od10, .func (PySem.W.fnOf "next_filling" "next_filling" (defArgs s_next_filling) (defBody s_next_filling) (defScope s_next_filling) .none kV10 dc10 pm10 an10 cd10 ct10), sl10⟩) (c10 : PySem.W.codeIn K cd10 "next_filling" = true) (k10 : PySem.W.keepIn K (.ref f10) = true)
    {od11 an11 : Option Addr} {sl11 : Array (Option Value)} {oc11 kV11 dc11 pm11 cd11 ct11 : Value}
    (a11 : PySem.W.nsIn K mainGlobals "is_number" = some (some (.ref f11))) (l11 : K.lookup f11 = some ⟨oc11, od11, .func (PySem.W.fnOf "is_number" "is_number" (defArgs s_is_number) (defBody s_is_number) (defScope s_is_number) .none kV11 dc11 pm11 an11 cd11 ct11), sl11⟩) (c11 : PySem.W.codeIn K cd11 "is_number" = true) (k11 : PySem.W.keepIn K (.ref f11) = true)
    {od12 an12 : Option Addr} {sl12 : Array (Option Value)} {oc12 kV12 dc12 pm12 cd12 ct12 : Value}
    (a12 : PySem.W.nsIn K mainGlobals "is_filling" = some (some (.ref f12))) (l12 : K.lookup f12 = some ⟨oc12, od12, .func (PySem.W.fnOf "is_filling" "is_filling" (defArgs s_is_filling) (defBody s_is_filling) (defScope s_is_filling) .none kV12 dc12 pm12 an12 cd12 ct12), sl12⟩) (c12 : PySem.W.codeIn K cd12 "is_filling" = true) (k12 : PySem.W.keepIn K (.ref f12) = true)
    {od13 an13 : Option Addr} {sl13 : Array (Option Value)} {oc13 kV13 dc13 pm13 cd13 ct13 : Value}
    (a13 : PySem.W.nsIn K mainGlobals "covers" = some (some (.ref f13))) (l13 : K.lookup f13 = some ⟨oc13, od13, .func (PySem.W.fnOf "covers" "covers" (defArgs s_covers) (defBody s_covers) (defScope s_covers) .none kV13 dc13 pm13 an13 cd13 ct13), sl13⟩) (c13 : PySem.W.codeIn K cd13 "covers" = true) (k13 : PySem.W.keepIn K (.ref f13) = true)
    {od14 an14 : Option Addr} {sl14 : Array (Option Value)} {oc14 kV14 dc14 pm14 cd14 ct14 : Value}
    (a14 : PySem.W.nsIn K mainGlobals "window_places" = some (some (.ref f14))) (l14 : K.lookup f14 = some ⟨oc14, od14, .func (PySem.W.fnOf "window_places" "window_places" (defArgs s_window_places) (defBody s_window_places) (defScope s_window_places) .none kV14 dc14 pm14 an14 cd14 ct14), sl14⟩) (c14 : PySem.W.codeIn K cd14 "window_places" = true) (k14 : PySem.W.keepIn K (.ref f14) = true)
    {od15 an15 : Option Addr} {sl15 : Array (Option Value)} {oc15 kV15 dc15 pm15 cd15 ct15 : Value}
    (a15 : PySem.W.nsIn K mainGlobals "window_sum" = some (some (.ref f15))) (l15 : K.lookup f15 = some ⟨oc15, od15, .func (PySem.W.fnOf "window_sum" "window_sum" (defArgs s_window_sum) (defBody s_window_sum) (defScope s_window_sum) .none kV15 dc15 pm15 an15 cd15 ct15), sl15⟩) (c15 : PySem.W.codeIn K cd15 "window_sum" = true) (k15 : PySem.W.keepIn K (.ref f15) = true)
    {od16 an16 : Option Addr} {sl16 : Array (Option Value)} {oc16 kV16 dc16 pm16 cd16 ct16 : Value}
    (a16 : PySem.W.nsIn K mainGlobals "broken_rules" = some (some (.ref f16))) (l16 : K.lookup f16 = some ⟨oc16, od16, .func (PySem.W.fnOf "broken_rules" "broken_rules" (defArgs s_broken_rules) (defBody s_broken_rules) (defScope s_broken_rules) .none kV16 dc16 pm16 an16 cd16 ct16), sl16⟩) (c16 : PySem.W.codeIn K cd16 "broken_rules" = true) (k16 : PySem.W.keepIn K (.ref f16) = true)
    {od17 an17 : Option Addr} {sl17 : Array (Option Value)} {oc17 kV17 dc17 pm17 cd17 ct17 : Value}
    (a17 : PySem.W.nsIn K mainGlobals "fits" = some (some (.ref f17))) (l17 : K.lookup f17 = some ⟨oc17, od17, .func (PySem.W.fnOf "fits" "fits" (defArgs s_fits) (defBody s_fits) (defScope s_fits) .none kV17 dc17 pm17 an17 cd17 ct17), sl17⟩) (c17 : PySem.W.codeIn K cd17 "fits" = true) (k17 : PySem.W.keepIn K (.ref f17) = true)
    {od18 an18 : Option Addr} {sl18 : Array (Option Value)} {oc18 kV18 dc18 pm18 cd18 ct18 : Value}
    (a18 : PySem.W.nsIn K mainGlobals "_law_draws" = some (some (.ref f18))) (l18 : K.lookup f18 = some ⟨oc18, od18, .func (PySem.W.fnOf "_law_draws" "_law_draws" (defArgs s__law_draws) (defBody s__law_draws) (defScope s__law_draws) .none kV18 dc18 pm18 an18 cd18 ct18), sl18⟩) (c18 : PySem.W.codeIn K cd18 "_law_draws" = true) (k18 : PySem.W.keepIn K (.ref f18) = true)
    {od19 an19 : Option Addr} {sl19 : Array (Option Value)} {oc19 kV19 dc19 pm19 cd19 ct19 : Value}
    (a19 : PySem.W.nsIn K mainGlobals "_law_next" = some (some (.ref f19))) (l19 : K.lookup f19 = some ⟨oc19, od19, .func (PySem.W.fnOf "_law_next" "_law_next" (defArgs s__law_next) (defBody s__law_next) (defScope s__law_next) .none kV19 dc19 pm19 an19 cd19 ct19), sl19⟩) (c19 : PySem.W.codeIn K cd19 "_law_next" = true) (k19 : PySem.W.keepIn K (.ref f19) = true)
    {od20 an20 : Option Addr} {sl20 : Array (Option Value)} {oc20 kV20 dc20 pm20 cd20 ct20 : Value}
    (a20 : PySem.W.nsIn K mainGlobals "_law_one" = some (some (.ref f20))) (l20 : K.lookup f20 = some ⟨oc20, od20, .func (PySem.W.fnOf "_law_one" "_law_one" (defArgs s__law_one) (defBody s__law_one) (defScope s__law_one) .none kV20 dc20 pm20 an20 cd20 ct20), sl20⟩) (c20 : PySem.W.codeIn K cd20 "_law_one" = true) (k20 : PySem.W.keepIn K (.ref f20) = true)
    {od21 an21 : Option Addr} {sl21 : Array (Option Value)} {oc21 kV21 dc21 pm21 cd21 ct21 : Value}
    (a21 : PySem.W.nsIn K mainGlobals "_law_part" = some (some (.ref f21))) (l21 : K.lookup f21 = some ⟨oc21, od21, .func (PySem.W.fnOf "_law_part" "_law_part" (defArgs s__law_part) (defBody s__law_part) (defScope s__law_part) .none kV21 dc21 pm21 an21 cd21 ct21), sl21⟩) (c21 : PySem.W.codeIn K cd21 "_law_part" = true) (k21 : PySem.W.keepIn K (.ref f21) = true)
    {od22 an22 : Option Addr} {sl22 : Array (Option Value)} {oc22 kV22 dc22 pm22 cd22 ct22 : Value}
    (a22 : PySem.W.nsIn K mainGlobals "_law_rule" = some (some (.ref f22))) (l22 : K.lookup f22 = some ⟨oc22, od22, .func (PySem.W.fnOf "_law_rule" "_law_rule" (defArgs s__law_rule) (defBody s__law_rule) (defScope s__law_rule) .none kV22 dc22 pm22 an22 cd22 ct22), sl22⟩) (c22 : PySem.W.codeIn K cd22 "_law_rule" = true) (k22 : PySem.W.keepIn K (.ref f22) = true)
    {od23 an23 : Option Addr} {sl23 : Array (Option Value)} {oc23 kV23 dc23 pm23 cd23 ct23 : Value}
    (a23 : PySem.W.nsIn K mainGlobals "_law_ring" = some (some (.ref f23))) (l23 : K.lookup f23 = some ⟨oc23, od23, .func (PySem.W.fnOf "_law_ring" "_law_ring" (defArgs s__law_ring) (defBody s__law_ring) (defScope s__law_ring) .none kV23 dc23 pm23 an23 cd23 ct23), sl23⟩) (c23 : PySem.W.codeIn K cd23 "_law_ring" = true) (k23 : PySem.W.keepIn K (.ref f23) = true)
    {od24 an24 : Option Addr} {sl24 : Array (Option Value)} {oc24 kV24 dc24 pm24 cd24 ct24 : Value}
    (a24 : PySem.W.nsIn K mainGlobals "_law_sums" = some (some (.ref f24))) (l24 : K.lookup f24 = some ⟨oc24, od24, .func (PySem.W.fnOf "_law_sums" "_law_sums" (defArgs s__law_sums) (defBody s__law_sums) (defScope s__law_sums) .none kV24 dc24 pm24 an24 cd24 ct24), sl24⟩) (c24 : PySem.W.codeIn K cd24 "_law_sums" = true) (k24 : PySem.W.keepIn K (.ref f24) = true)
    {od25 an25 : Option Addr} {sl25 : Array (Option Value)} {oc25 kV25 dc25 pm25 cd25 ct25 : Value}
    (a25 : PySem.W.nsIn K mainGlobals "_law_filling" = some (some (.ref f25))) (l25 : K.lookup f25 = some ⟨oc25, od25, .func (PySem.W.fnOf "_law_filling" "_law_filling" (defArgs s__law_filling) (defBody s__law_filling) (defScope s__law_filling) .none kV25 dc25 pm25 an25 cd25 ct25), sl25⟩) (c25 : PySem.W.codeIn K cd25 "_law_filling" = true) (k25 : PySem.W.keepIn K (.ref f25) = true)
    {od26 an26 : Option Addr} {sl26 : Array (Option Value)} {oc26 kV26 dc26 pm26 cd26 ct26 : Value}
    (a26 : PySem.W.nsIn K mainGlobals "_law_mixed_right" = some (some (.ref f26))) (l26 : K.lookup f26 = some ⟨oc26, od26, .func (PySem.W.fnOf "_law_mixed_right" "_law_mixed_right" (defArgs s__law_mixed_right) (defBody s__law_mixed_right) (defScope s__law_mixed_right) .none kV26 dc26 pm26 an26 cd26 ct26), sl26⟩) (c26 : PySem.W.codeIn K cd26 "_law_mixed_right" = true) (k26 : PySem.W.keepIn K (.ref f26) = true)
    {od27 an27 : Option Addr} {sl27 : Array (Option Value)} {oc27 kV27 dc27 pm27 cd27 ct27 : Value}
    (a27 : PySem.W.nsIn K mainGlobals "law" = some (some (.ref f27))) (l27 : K.lookup f27 = some ⟨oc27, od27, .func (PySem.W.fnOf "law" "law" (defArgs s_law) (defBody s_law) (defScope s_law) .none kV27 dc27 pm27 an27 cd27 ct27), sl27⟩) (c27 : PySem.W.codeIn K cd27 "law" = true) (k27 : PySem.W.keepIn K (.ref f27) = true)
    (z_abs : PySem.W.nsIn K mainGlobals "abs" = some none)
    (z_all : PySem.W.nsIn K mainGlobals "all" = some none)
    (z_bool : PySem.W.nsIn K mainGlobals "bool" = some none)
    (z_enumerate : PySem.W.nsIn K mainGlobals "enumerate" = some none)
    (z_int : PySem.W.nsIn K mainGlobals "int" = some none)
    (z_isinstance : PySem.W.nsIn K mainGlobals "isinstance" = some none)
    (z_len : PySem.W.nsIn K mainGlobals "len" = some none)
    (z_list : PySem.W.nsIn K mainGlobals "list" = some none)
    (z_max : PySem.W.nsIn K mainGlobals "max" = some none)
    (z_min : PySem.W.nsIn K mainGlobals "min" = some none)
    (z_range : PySem.W.nsIn K mainGlobals "range" = some none)
    (z_sum : PySem.W.nsIn K mainGlobals "sum" = some none)
    (z_tuple : PySem.W.nsIn K mainGlobals "tuple" = some none)
    (z_zip : PySem.W.nsIn K mainGlobals "zip" = some none)
    : ∃ fd : FuncData, (∀ (s : Shared) (v : Value), BindsTo s fd ⟨[v], []⟩ [("_law_script", v)]) ∧ ∀ base : Heap, K.In base → base.Ns mainGlobals mg → FnG l.prog w K mg base 7 fa fd ["_law_script"] (spTop K sp_law) := by
  have e := hfa.symm.trans (PySem.W.mg_of X G a27)
  cases e
  have F0 := fun_mk (st := s_links_of) l0 c0 k0
  have b0 := F0.binds (ps := ["n", "rules"]) fun _ _ _ _ _ _ us hl => match us, hl with | [_, _], _ => rfl
  have m0 := PySem.W.mg_of X G a0
  have F1 := fun_mk (st := s_counts_of) l1 c1 k1
  have b1 := F1.binds (ps := ["heights", "total"]) fun _ _ _ _ _ _ us hl => match us, hl with | [_, _], _ => rfl
  have m1 := PySem.W.mg_of X G a1
  have F2 := fun_mk (st := s_heights_of) l2 c2 k2
  have b2 := F2.binds (ps := ["filling"]) fun _ _ _ _ _ _ us hl => match us, hl with | [_], _ => rfl
  have m2 := PySem.W.mg_of X G a2
  have F3 := fun_mk (st := s_climbs_of) l3 c3 k3
  have b3 := F3.binds (ps := ["n", "rules", "total"]) fun _ _ _ _ _ _ us hl => match us, hl with | [_, _, _], _ => rfl
  have m3 := PySem.W.mg_of X G a3
  have F4 := fun_mk (st := s_settled) l4 c4 k4
  have b4 := F4.binds (ps := ["climbs", "heights"]) fun _ _ _ _ _ _ us hl => match us, hl with | [_, _], _ => rfl
  have m4 := PySem.W.mg_of X G a4
  have F5 := fun_mk (st := s_heights_from) l5 c5 k5
  have b5 := F5.binds (ps := ["n", "climbs", "total", "start"]) fun _ _ _ _ _ _ us hl => match us, hl with | [_, _, _, _], _ => rfl
  have m5 := PySem.W.mg_of X G a5
  have F6 := fun_mk (st := s_window_range) l6 c6 k6
  have b6 := F6.binds (ps := ["n", "rules", "total", "first", "size"]) fun _ _ _ _ _ _ us hl => match us, hl with | [_, _, _, _, _], _ => rfl
  have m6 := PySem.W.mg_of X G a6
  have F7 := fun_mk (st := s_smallest_filling) l7 c7 k7
  have b7 := F7.binds (ps := ["n", "rules", "total"]) fun _ _ _ _ _ _ us hl => match us, hl with | [_, _, _], _ => rfl
  have m7 := PySem.W.mg_of X G a7
  have F8 := fun_mk (st := s_greatest_filling) l8 c8 k8
  have b8 := F8.binds (ps := ["n", "rules", "total"]) fun _ _ _ _ _ _ us hl => match us, hl with | [_, _, _], _ => rfl
  have m8 := PySem.W.mg_of X G a8
  have F9 := fun_mk (st := s_last_to_rise) l9 c9 k9
  have b9 := F9.binds (ps := ["n", "climbs", "heights"]) fun _ _ _ _ _ _ us hl => match us, hl with | [_, _, _], _ => rfl
  have m9 := PySem.W.mg_of X G a9
  have F10 := fun_mk (st := s_next_filling) l10 c10 k10
  have b10 := F10.binds (ps := ["n", "rules", "filling"]) fun _ _ _ _ _ _ us hl => match us, hl with | [_, _, _], _ => rfl
  have m10 := PySem.W.mg_of X G a10
  have F11 := fun_mk (st := s_is_number) l11 c11 k11
  have b11 := F11.binds (ps := ["value"]) fun _ _ _ _ _ _ us hl => match us, hl with | [_], _ => rfl
  have m11 := PySem.W.mg_of X G a11
  have F12 := fun_mk (st := s_is_filling) l12 c12 k12
  have b12 := F12.binds (ps := ["n", "value"]) fun _ _ _ _ _ _ us hl => match us, hl with | [_, _], _ => rfl
  have m12 := PySem.W.mg_of X G a12
  have F13 := fun_mk (st := s_covers) l13 c13 k13
  have b13 := F13.binds (ps := ["n", "first", "size", "place"]) fun _ _ _ _ _ _ us hl => match us, hl with | [_, _, _, _], _ => rfl
  have m13 := PySem.W.mg_of X G a13
  have F14 := fun_mk (st := s_window_places) l14 c14 k14
  have b14 := F14.binds (ps := ["n", "first", "size"]) fun _ _ _ _ _ _ us hl => match us, hl with | [_, _, _], _ => rfl
  have m14 := PySem.W.mg_of X G a14
  have F15 := fun_mk (st := s_window_sum) l15 c15 k15
  have b15 := F15.binds (ps := ["filling", "first", "size"]) fun _ _ _ _ _ _ us hl => match us, hl with | [_, _, _], _ => rfl
  have m15 := PySem.W.mg_of X G a15
  have F16 := fun_mk (st := s_broken_rules) l16 c16 k16
  have b16 := F16.binds (ps := ["n", "rules", "filling"]) fun _ _ _ _ _ _ us hl => match us, hl with | [_, _, _], _ => rfl
  have m16 := PySem.W.mg_of X G a16
  have F17 := fun_mk (st := s_fits) l17 c17 k17
  have b17 := F17.binds (ps := ["n", "rules", "value"]) fun _ _ _ _ _ _ us hl => match us, hl with | [_, _, _], _ => rfl
  have m17 := PySem.W.mg_of X G a17
  have F18 := fun_mk (st := s__law_draws) l18 c18 k18
  have b18 := F18.binds (ps := ["_law_script"]) fun _ _ _ _ _ _ us hl => match us, hl with | [_], _ => rfl
  have m18 := PySem.W.mg_of X G a18
  have F19 := fun_mk (st := s__law_next) l19 c19 k19
  have b19 := F19.binds (ps := ["_law_drawn", "_law_many"]) fun _ _ _ _ _ _ us hl => match us, hl with | [_, _], _ => rfl
  have m19 := PySem.W.mg_of X G a19
  have F20 := fun_mk (st := s__law_one) l20 c20 k20
  have b20 := F20.binds (ps := ["_law_drawn", "_law_items"]) fun _ _ _ _ _ _ us hl => match us, hl with | [_, _], _ => rfl
  have m20 := PySem.W.mg_of X G a20
  have F21 := fun_mk (st := s__law_part) l21 c21 k21
  have b21 := F21.binds (ps := ["_law_filling_here", "_law_first", "_law_size"]) fun _ _ _ _ _ _ us hl => match us, hl with | [_, _, _], _ => rfl
  have m21 := PySem.W.mg_of X G a21
  have F22 := fun_mk (st := s__law_rule) l22 c22 k22
  have b22 := F22.binds (ps := ["_law_drawn", "_law_filling_here"]) fun _ _ _ _ _ _ us hl => match us, hl with | [_, _], _ => rfl
  have m22 := PySem.W.mg_of X G a22
  have F23 := fun_mk (st := s__law_ring) l23 c23 k23
  have b23 := F23.binds (ps := ["_law_drawn", "_law_most", "_law_great", "_law_many"]) fun _ _ _ _ _ _ us hl => match us, hl with | [_, _, _, _], _ => rfl
  have m23 := PySem.W.mg_of X G a23
  have F24 := fun_mk (st := s__law_sums) l24 c24 k24
  have b24 := F24.binds (ps := ["_law_filling_here", "_law_shift"]) fun _ _ _ _ _ _ us hl => match us, hl with | [_, _], _ => rfl
  have m24 := PySem.W.mg_of X G a24
  have F25 := fun_mk (st := s__law_filling) l25 c25 k25
  have b25 := F25.binds (ps := ["_law_sums_here"]) fun _ _ _ _ _ _ us hl => match us, hl with | [_], _ => rfl
  have m25 := PySem.W.mg_of X G a25
  have F26 := fun_mk (st := s__law_mixed_right) l26 c26 k26
  have b26 := F26.binds (ps := ["_law_n", "_law_rules", "_law_one_here", "_law_other", "_law_shift"]) fun _ _ _ _ _ _ us hl => match us, hl with | [_, _, _, _, _], _ => rfl
  have m26 := PySem.W.mg_of X G a26
  have F27 := fun_mk (st := s_law) l27 c27 k27
  have m27 := PySem.W.mg_of X G a27
  have m_abs := PySem.W.mg_none_of X G z_abs
  have m_all := PySem.W.mg_none_of X G z_all
  have m_bool := PySem.W.mg_none_of X G z_bool
  have m_enumerate := PySem.W.mg_none_of X G z_enumerate
  have m_int := PySem.W.mg_none_of X G z_int
  have m_isinstance := PySem.W.mg_none_of X G z_isinstance
  have m_len := PySem.W.mg_none_of X G z_len
  have m_list := PySem.W.mg_none_of X G z_list
  have m_max := PySem.W.mg_none_of X G z_max
  have m_min := PySem.W.mg_none_of X G z_min
  have m_range := PySem.W.mg_none_of X G z_range
  have m_sum := PySem.W.mg_none_of X G z_sum
  have m_tuple := PySem.W.mg_none_of X G z_tuple
  have m_zip := PySem.W.mg_none_of X G z_zip
  refine ⟨PySem.W.fnOf "law" "law" (defArgs s_law) (defBody s_law) (defScope s_law) .none kV27 dc27 pm27 an27 cd27 ct27, fun s v => .of_eq rfl, fun base _ _ => ?_⟩
  have d__law_next := ok__law_next (P := l.prog) (w := w) (base := base) F19 m19 b19 m_len
  have fnDeck := ok__law_draws (P := l.prog) (w := w) (mg := mg) (base := base) F18 m_abs m_int m_len m_list
  have d_links_of := ok_links_of (P := l.prog) (w := w) (base := base) F0 m0 b0 m_enumerate m_range
  have d_counts_of := ok_counts_of (P := l.prog) (w := w) (base := base) F1 m1 b1 m_tuple m_zip
  have d_heights_of := ok_heights_of (P := l.prog) (w := w) (base := base) F2 m2 b2 m_len m_range m_sum
  have d_climbs_of := ok_climbs_of (P := l.prog) (w := w) (base := base) F3 m3 b3 d_links_of
  have d_settled := ok_settled (P := l.prog) (w := w) (base := base) F4 m4 b4 m_len m_list m_range
  have d_heights_from := ok_heights_from (P := l.prog) (w := w) (base := base) F5 m5 b5 m_range d_settled
  have d_window_range := ok_window_range (P := l.prog) (w := w) (base := base) F6 m6 b6 d_climbs_of d_heights_from
  have d_smallest_filling := ok_smallest_filling (P := l.prog) (w := w) (base := base) F7 m7 b7 d_climbs_of d_counts_of d_heights_from
  have d_greatest_filling := ok_greatest_filling (P := l.prog) (w := w) (base := base) F8 m8 b8 d_climbs_of d_counts_of d_settled
  have d_last_to_rise := ok_last_to_rise (P := l.prog) (w := w) (base := base) F9 m9 b9 m_list m_max m_range
  have d_next_filling := ok_next_filling (P := l.prog) (w := w) (base := base) F10 m10 b10 m_sum d_climbs_of d_counts_of d_heights_of d_last_to_rise d_settled
  have d_is_number := ok_is_number (P := l.prog) (w := w) (base := base) F11 m11 b11 m_bool m_int m_isinstance
  have d_is_filling := ok_is_filling (P := l.prog) (w := w) (base := base) F12 m12 b12 m_all m_isinstance m_len m_tuple d_is_number
  have d_covers := ok_covers (P := l.prog) (w := w) (base := base) F13 m13 b13
  have d_window_places := ok_window_places (P := l.prog) (w := w) (base := base) F14 m14 b14 m_range m_tuple d_covers
  have d_window_sum := ok_window_sum (P := l.prog) (w := w) (base := base) F15 m15 b15 m_len m_sum d_window_places
  have d_broken_rules := ok_broken_rules (P := l.prog) (w := w) (base := base) F16 m16 b16 m_enumerate m_tuple d_window_sum
  have d_fits := ok_fits (P := l.prog) (w := w) (base := base) F17 m17 b17 d_broken_rules d_is_filling
  have d__law_one := ok__law_one (P := l.prog) (w := w) (base := base) F20 m20 b20 m_len d__law_next
  have d__law_part := ok__law_part (P := l.prog) (w := w) (base := base) F21 m21 b21 m_len m_range m_sum
  have d__law_rule := ok__law_rule (P := l.prog) (w := w) (base := base) F22 m22 b22 m_len m_max d__law_next d__law_part
  have d__law_ring := ok__law_ring (P := l.prog) (w := w) (base := base) F23 m23 b23 m_int m_range m_tuple d__law_next d__law_rule
  have d__law_sums := ok__law_sums (P := l.prog) (w := w) (base := base) F24 m24 b24 m_len m_range m_sum
  have d__law_filling := ok__law_filling (P := l.prog) (w := w) (base := base) F25 m25 b25 m_tuple m_zip
  have d__law_mixed_right := ok__law_mixed_right (P := l.prog) (w := w) (base := base) F26 m26 b26 m_list m_max m_min m_sum m_zip d__law_filling d__law_sums d_fits
  exact ok_law F27 fnDeck m18 F18.kp b18 m_max m_range m_sum d__law_mixed_right d__law_next d__law_one d__law_ring d_greatest_filling d_next_filling d_smallest_filling d_window_range
end RW
open PySem PySem.W PyProof.Rows
set_option maxHeartbeats 0 in
theorem PySem.Challenge.cw_ringwindows_k27_whole_running_sums_holds : PySem.Challenge.rw_ringwindows_k27_whole_running_sums.Holds := by
  w_on; o_law; k_head; (case hw => w_witness2)
  k_fill
  refine DL.walk_end (l := PySem.Challenge.rw_ringwindows_k27_whole_running_sums) (n := 63) (k := 7) (x := "_law_script") (sp := fun K => DL.spTop K RW.sp_law) rfl (by decide) rfl ⟨rfl, by decide, by decide⟩ (fun w h Y => PySem.W.kIn_of Y) ?F (fun K H a ns hl hS => RW.want K H a ns hl hS)
  case F =>
    intro w mg fa h KX G hmg
    refine' RW.all_mk KX G hmg ?a0 ?l0 ?c0 ?k0 ?a1 ?l1 ?c1 ?k1 ?a2 ?l2 ?c2 ?k2 ?a3 ?l3 ?c3 ?k3 ?a4 ?l4 ?c4 ?k4 ?a5 ?l5 ?c5 ?k5 ?a6 ?l6 ?c6 ?k6 ?a7 ?l7 ?c7 ?k7 ?a8 ?l8 ?c8 ?k8 ?a9 ?l9 ?c9 ?k9 ?a10 ?l10 ?c10 ?k10 ?a11 ?l11 ?c11 ?k11 ?a12 ?l12 ?c12 ?k12 ?a13 ?l13 ?c13 ?k13 ?a14 ?l14 ?c14 ?k14 ?a15 ?l15 ?c15 ?k15 ?a16 ?l16 ?c16 ?k16 ?a17 ?l17 ?c17 ?k17 ?a18 ?l18 ?c18 ?k18 ?a19 ?l19 ?c19 ?k19 ?a20 ?l20 ?c20 ?k20 ?a21 ?l21 ?c21 ?k21 ?a22 ?l22 ?c22 ?k22 ?a23 ?l23 ?c23 ?k23 ?a24 ?l24 ?c24 ?k24 ?a25 ?l25 ?c25 ?k25 ?a26 ?l26 ?c26 ?k26 ?a27 ?l27 ?c27 ?k27 ?z_abs ?z_all ?z_bool ?z_enumerate ?z_int ?z_isinstance ?z_len ?z_list ?z_max ?z_min ?z_range ?z_sum ?z_tuple ?z_zip
    (case a0 => k_is); (case l0 => k_is); (case c0 => k_is); (case k0 => k_is); (case a1 => k_is); (case l1 => k_is); (case c1 => k_is); (case k1 => k_is); (case a2 => k_is); (case l2 => k_is); (case c2 => k_is); (case k2 => k_is); (case a3 => k_is); (case l3 => k_is); (case c3 => k_is); (case k3 => k_is); (case a4 => k_is); (case l4 => k_is); (case c4 => k_is); (case k4 => k_is); (case a5 => k_is); (case l5 => k_is); (case c5 => k_is); (case k5 => k_is); (case a6 => k_is); (case l6 => k_is); (case c6 => k_is); (case k6 => k_is); (case a7 => k_is); (case l7 => k_is); (case c7 => k_is); (case k7 => k_is); (case a8 => k_is); (case l8 => k_is); (case c8 => k_is); (case k8 => k_is); (case a9 => k_is); (case l9 => k_is); (case c9 => k_is); (case k9 => k_is); (case a10 => k_is); (case l10 => k_is); (case c10 => k_is); (case k10 => k_is); (case a11 => k_is); (case l11 => k_is); (case c11 => k_is); (case k11 => k_is); (case a12 => k_is); (case l12 => k_is); (case c12 => k_is); (case k12 => k_is); (case a13 => k_is); (case l13 => k_is); (case c13 => k_is); (case k13 => k_is); (case a14 => k_is); (case l14 => k_is); (case c14 => k_is); (case k14 => k_is); (case a15 => k_is); (case l15 => k_is); (case c15 => k_is); (case k15 => k_is); (case a16 => k_is); (case l16 => k_is); (case c16 => k_is); (case k16 => k_is); (case a17 => k_is); (case l17 => k_is); (case c17 => k_is); (case k17 => k_is); (case a18 => k_is); (case l18 => k_is); (case c18 => k_is); (case k18 => k_is); (case a19 => k_is); (case l19 => k_is); (case c19 => k_is); (case k19 => k_is); (case a20 => k_is); (case l20 => k_is); (case c20 => k_is); (case k20 => k_is); (case a21 => k_is); (case l21 => k_is); (case c21 => k_is); (case k21 => k_is); (case a22 => k_is); (case l22 => k_is); (case c22 => k_is); (case k22 => k_is); (case a23 => k_is); (case l23 => k_is); (case c23 => k_is); (case k23 => k_is); (case a24 => k_is); (case l24 => k_is); (case c24 => k_is); (case k24 => k_is); (case a25 => k_is); (case l25 => k_is); (case c25 => k_is); (case k25 => k_is); (case a26 => k_is); (case l26 => k_is); (case c26 => k_is); (case k26 => k_is); (case a27 => k_is); (case l27 => k_is); (case c27 => k_is); (case k27 => k_is); (case z_abs => k_is); (case z_all => k_is); (case z_bool => k_is); (case z_enumerate => k_is); (case z_int => k_is); (case z_isinstance => k_is); (case z_len => k_is); (case z_list => k_is); (case z_max => k_is); (case z_min => k_is); (case z_range => k_is); (case z_sum => k_is); (case z_tuple => k_is); (case z_zip => k_is)
