import PyProof.Rows.All
import Wide.All
import OpenK.AllK
import Wide.FinOn
import HandS.ForMost
import HandS.Star
import HandS.Exc
import HandS.ExcInit
import HandS.ExcField
import HandS.ExcOwn
import HandS.WordsExc
import KE.KExcIs
import HandS.Conv
import HandS.Walk
import HandS.FStrTup
import HandS.IsInst
import HandS.TupAny
import HandS.Zip
import HandS.Flow
import HandS.TupMul
import HandS.Deep
import PyProof.Rows.SeqMore
import HandS.Dict
import HandS.Wide
import HandS.Style
import KE.KTupSum
import KE.KRevSl
import PyProof.NeKinds
import KE.GoesEnum
import KE.GoesMore
import KE.DataMinKey
import HandS.SortKw
import HandS.Text
import HandS.FStr
import HandS.NoneIn
import HandS.SetFor
import HandS.Strs
import HandS.TupLe
import HandS.StrMore
import HandS.StrSplit
import KE.KDictZip
import KE.KDictItemsList
import HandS.ListItems
import KE.GoesEnumKw
import HandS.TryMany
import KE.KExcInit
import PyProof.Rows.CallKwBuiltin
import PyProof.Rows.StrSplitCount
import KE.GoesRaise
import HandS.Lambda
import HandS.Property
import PyProof.StrOps2
import HandS.Head0
import HandS.Head1
import HandS.Head2
import HandS.HeadHook1
import HandS.HeadHook2
import HandS.HeadNt
import KE.KCallOwn
import HandS.MakeKwOnly
import HandS.Finally
import HandS.HeadHook3
import HandS.ClsMeth
import HandS.OwnEq
import HandS.SlotsOwn
import HandS.ExcCtx
import HandS.SuiteRaise
import HandS.ExcInitHot
import PyProof.InstNe
import HandS.Hot
import PySem.Challenge.RW_ringwindows_k31_whole_steps_searched
set_option Elab.async false
set_option linter.all false
set_option maxRecDepth 100000
set_option maxHeartbeats 4000000
namespace DL
open PySem PySem.Spec PyProof.Rows L2
/-- the deck's own list: [cells, count] -/
def DShape (F : Hp) (q : Addr) (c : Nat) (ys : List V) (ns : List Int) : Prop := ys = [.ref q, .int (c : Int)]
theorem DShape.mono {F F' : Hp} {q : Addr} {c : Nat} {ys : List V} {ns : List Int} (e : Same F F') (h : DShape F q c ys ns) : DShape F' q c ys ns := h
/-- what a field of an object holds: data, another object -/
inductive Fv where
  | dat (d : PyData)
  | ob (a : Addr)
/-- an object of an own class: its class, its fields -/
structure Ob where
  cls : Addr
  fs : List (Str × Fv)
/-- the state: how many numbers have been drawn, what the objects hold -/
structure Ct where
  n : Nat
  os : Addr → Option Ob
  ls : Addr → Option (List Fv)
  tb : List (Addr × Str)
/-- what the state holds besides its list -/
structure Rst where
  os : Addr → Option Ob
  ls : Addr → Option (List Fv)
  tb : List (Addr × Str)
instance : CoeFun Rst (fun _ => Addr → Option Ob) := ⟨Rst.os⟩
end DL
namespace DL
open PySem PySem.Spec PyProof.Rows L2

/-- what a slot holds: data, the law's deck, a list that this frame alone knows -/
inductive Vl where
  | dat (d : PyData)
  | deck
  | exc (a : Addr)
  | ob (a : Addr)
  | own (l : List PyData)

abbrev Ev := List (Option Vl)
structure Gh where
  F : Hp
  dk : Option (Addr × Addr)
  ob : Addr → Prop
/-- what may change: the deck, the objects -/
def isDk (g : Gh) (a : Addr) : Prop := (∃ p q, g.dk = some (p, q) ∧ (a = p ∨ a = q)) ∨ g.ob a
structure Mo (g g' : Gh) : Prop where
  f : Same g.F g'.F
  d : g'.dk = g.dk
  o : ∀ a, g.ob a → g'.ob a
theorem Mo.refl (g : Gh) : Mo g g := ⟨Same.refl _, rfl, fun _ h => h⟩
theorem Mo.trans {a b c : Gh} (x : Mo a b) (y : Mo b c) : Mo a c := ⟨x.f.trans y.f, y.d.trans x.d, fun a h => y.o a (x.o a h)⟩
/-- what stays at an address that is neither of the deck nor an object, and no table -/
def Nt (g : Gh) (a : Addr) (o : HO) : Prop := ¬ isDk g a ∧ ∀ ps, o ≠ .tbl ps
theorem ntL {g : Gh} {a : Addr} {xs : List V} (h : ¬ isDk g a) : Nt g a (.lst xs) := ⟨h, fun _ e => nomatch e⟩
/-- what stood stands, tables stand as tables -/
structure Sty (g : Gh) (H H' : Hp) : Prop where
  k : ∀ a o, H a = some o → Nt g a o → H' a = some o
  t : ∀ a ps, H a = some (.tbl ps) → ∃ ps', H' a = some (.tbl ps')
/-- where nothing changes at what stood -/
theorem Sty.map {g : Gh} {H H1 H2 : Hp} (f : Sty g H H1) (keep : ∀ b u, H1 b = some u → H2 b = some u) : Sty g H H2 := ⟨fun a o e n => keep a o (f.k a o e n), fun a ps e => (f.t a ps e).imp fun _ => keep a _⟩
theorem Sty.refl (g : Gh) (H : Hp) : Sty g H H := ⟨fun _ _ e _ => e, fun _ ps e => ⟨ps, e⟩⟩
/-- a step of an expression: new data, the deck drawn from, all else as it was -/
structure Mv (g : Gh) (H : Hp) (g' : Gh) (H' : Hp) : Prop extends Mo g g' where
  fr : Sty g H H'
  lv : ∀ a o, H a = some o → ∃ o', H' a = some o'
  nf : ∀ a o, g'.F a = some o → g.F a = some o ∨ H a = none
  on : ∀ a, g'.ob a → g.ob a ∨ H a = none
theorem Mv.refl (g : Gh) (H : Hp) : Mv g H g H := ⟨Mo.refl g, Sty.refl _ _, fun _ o e => ⟨o, e⟩, fun _ _ e => .inl e, fun _ e => .inl e⟩
theorem Mv.dkOr {g g' : Gh} {H H' : Hp} (m : Mv g H g' H') {a : Addr} (h : isDk g' a) : isDk g a ∨ H a = none := by
  rcases h with ⟨p, q, e, z⟩ | h
  · exact .inl (.inl ⟨p, q, by rw [← m.d]; exact e, z⟩)
  · rcases m.on a h with z | z
    · exact .inl (.inr z)
    · exact .inr z
theorem Mv.dkIs {g g' : Gh} {H H' : Hp} (m : Mv g H g' H') {a : Addr} {o : HO} (e : H a = some o) (h : isDk g' a) : isDk g a := by
  rcases m.dkOr h with z | z
  · exact z
  · rw [e] at z
    cases z
theorem Mv.none {g g' : Gh} {H H' : Hp} (m : Mv g H g' H') {a : Addr} (e : H' a = none) : H a = none := by
  cases q : H a with
  | none => rfl
  | some o =>
    obtain ⟨o', e'⟩ := m.lv a o q
    rw [e] at e'
    cases e'
theorem Mv.trans {a b c : Gh} {H H1 H2 : Hp} (x : Mv a H b H1) (y : Mv b H1 c H2) : Mv a H c H2 := by
  refine ⟨x.toMo.trans y.toMo, ⟨fun p o e n => y.fr.k p o (x.fr.k p o e n) ⟨fun z => n.1 (x.dkIs e z), n.2⟩, fun p ps e => (x.fr.t p ps e).elim fun ps' e' => y.fr.t p ps' e'⟩, fun p o e => ?_, fun p o e => ?_, fun p h => ?_⟩
  · obtain ⟨o1, e1⟩ := x.lv p o e
    exact y.lv p o1 e1
  · rcases y.nf p o e with h | h
    · exact x.nf p o h
    · exact .inr (x.none h)
  · rcases y.on p h with h | h
    · exact x.on p h
    · exact .inr (x.none h)

/-- data: as the hand layer's own, and dicts with int and text keys -/
def keyD : Key → PyData
  | .inl i => .int i
  | .inr x => .str x
mutual
inductive Dp (K : PySem.W.Frag) (H : Hp) : V → PyData → Prop
  | non : Dp K H .non .none
  | bl (b : Bool) : Dp K H (.bl b) (.bool b)
  | int (i : Int) : Dp K H (.int i) (.int i)
  | str (x : Str) : Dp K H (.str x) (.str x)
  | lst {a : Addr} {xs : List V} {ds : List PyData} : SqL K H a xs → DpAll K H xs ds → Dp K H (.ref a) (.list ds)
  | tup {a : Addr} {xs : List V} {ds : List PyData} : H a = some (.tup xs) → DpAll K H xs ds → Dp K H (.ref a) (.tuple ds)
  | dct {a : Addr} {kvs : List (Key × V)} {ds : List PyData} : H a = some (.dK kvs) → DpAll K H (kvs.map (·.2)) ds → Dp K H (.ref a) (.dict ((kvs.map fun kv => keyD kv.1).zip ds))
inductive DpAll (K : PySem.W.Frag) (H : Hp) : List V → List PyData → Prop
  | nil : DpAll K H [] []
  | cons {v : V} {vs : List V} {d : PyData} {ds : List PyData} : Dp K H v d → DpAll K H vs ds → DpAll K H (v :: vs) (d :: ds)
end
mutual
theorem dp_mono {K : PySem.W.Frag} {H H' : Hp} (e : Same H H') : ∀ {v : V} {d : PyData}, Dp K H v d → Dp K H' v d
  | _, _, .non => .non
  | _, _, .bl b => .bl b
  | _, _, .int i => .int i
  | _, _, .str x => .str x
  | _, _, .lst s a => .lst (e.seq s) (dpAll_mono e a)
  | _, _, .tup s a => .tup (e _ _ s) (dpAll_mono e a)
  | _, _, .dct s a => .dct (e _ _ s) (dpAll_mono e a)
theorem dpAll_mono {K : PySem.W.Frag} {H H' : Hp} (e : Same H H') : ∀ {vs : List V} {ds : List PyData}, DpAll K H vs ds → DpAll K H' vs ds
  | _, _, .nil => .nil
  | _, _, .cons h t => .cons (dp_mono e h) (dpAll_mono e t)
end
theorem DpAll.len {K : PySem.W.Frag} {H : Hp} : ∀ {vs : List V} {ds : List PyData}, DpAll K H vs ds → vs.length = ds.length
  | _, _, .nil => rfl
  | _, _, .cons _ t => by simp [DpAll.len t]
/-- a field's value -/
def FvOk (K : PySem.W.Frag) (g : Gh) (v : V) : Fv → Prop
  | .dat d => Dp K g.F v d
  | .ob a => v = .ref a ∧ g.ob a
theorem FvOk.mono {K : PySem.W.Frag} {g g' : Gh} {v : V} {x : Fv} (sF : Same g.F g'.F) (so : ∀ a, g.ob a → g'.ob a) (h : FvOk K g v x) : FvOk K g' v x := by
  cases x with
  | dat d => exact dp_mono sF h
  | ob a => exact ⟨h.1, so a h.2⟩
def FsOk (K : PySem.W.Frag) (g : Gh) : List (Str × V) → List (Str × Fv) → Prop
  | [], [] => True
  | (f, v) :: vs, (f', x) :: xs => f = f' ∧ FvOk K g v x ∧ FsOk K g vs xs
  | _, _ => False
theorem FsOk.mono {K : PySem.W.Frag} {g g' : Gh} (sF : Same g.F g'.F) (so : ∀ a, g.ob a → g'.ob a) : ∀ {vs : List (Str × V)} {xs : List (Str × Fv)}, FsOk K g vs xs → FsOk K g' vs xs
  | [], [], _ => trivial
  | (_, _) :: _, (_, _) :: _, h => ⟨h.1, h.2.1.mono sF so, FsOk.mono sF so h.2.2⟩
  | [], _ :: _, h => h.elim
  | _ :: _, [], h => h.elim
def FlOk (K : PySem.W.Frag) (g : Gh) : List V → List Fv → Prop
  | [], [] => True
  | v :: vs, x :: xs => FvOk K g v x ∧ FlOk K g vs xs
  | _, _ => False
theorem FlOk.mono {K : PySem.W.Frag} {g g' : Gh} (sF : Same g.F g'.F) (so : ∀ a, g.ob a → g'.ob a) : ∀ {vs : List V} {xs : List Fv}, FlOk K g vs xs → FlOk K g' vs xs
  | [], [], _ => trivial
  | _ :: _, _ :: _, h => ⟨h.1.mono sF so, FlOk.mono sF so h.2⟩
  | [], _ :: _, h => h.elim
  | _ :: _, [], h => h.elim
/-- the deck: [[cells], count] -/
def DkOk (g : Gh) (H : Hp) (c : Nat) : Prop := ∀ p q, g.dk = some (p, q) → p ≠ q ∧ g.F p = none ∧ g.F q = none ∧
  ∃ ns : List Int, (∀ n ∈ ns, 0 ≤ n) ∧ ns.length ≤ 63 ∧ H q = some (.lst (ns.map V.int)) ∧ ∃ ys, H p = some (.lst ys) ∧ DShape g.F q c ys ns
/-- the objects: those of the state, each an instance that holds what the state says -/
-- a dict whose keys are tuples of ints, its values ints: what the state says of it is a list of pairs
def entH (kv : List Int × Int) : List Key × V := (kv.1.map Sum.inl, .int kv.2)
def entF (kv : List Int × Int) : Fv := .dat (.tuple [.tuple (kv.1.map PyData.int), .int kv.2])
def DlOk (_K : PySem.W.Frag) (_g : Gh) (xs : List (List Key × V)) (l : List Fv) : Prop := ∃ kv : List (List Int × Int), xs = kv.map entH ∧ l = kv.map entF
theorem DlOk.mono {K : PySem.W.Frag} {g g' : Gh} {xs : List (List Key × V)} {l : List Fv} (h : DlOk K g xs l) (_s : Same g.F g'.F) (_o : ∀ a, g.ob a → g'.ob a) : DlOk K g' xs l := h
structure ObOk (K : PySem.W.Frag) (g : Gh) (H : Hp) (c : Ct) : Prop where
  al : ∀ a, g.ob a → (∃ o, c.os a = some o) ∨ ∃ l, c.ls a = some l
  is : ∀ a o, c.os a = some o → g.ob a ∧ g.F a = none ∧ ∃ dx vs, H a = some (.ins o.cls dx vs) ∧ FsOk K g vs o.fs
  li : ∀ a l, c.ls a = some l → g.ob a ∧ g.F a = none ∧ (∀ p q, g.dk = some (p, q) → a ≠ p ∧ a ≠ q) ∧ ∃ xs, H a = some (.dT xs) ∧ DlOk K g xs l
/-- tables and what is told of code objects and of functions made in a body -/
def Tbx : HO → Prop
  | .tbl _ => True
  | .ext _ => True
  | _ => False
/-- the tables stand, and nobody takes them for data -/
def TbOk (F : Hp) (T : List (Addr × Str)) (H : Hp) : Prop := LamX.Tabs T H ∧ ∀ p ∈ T, F p.1 = none
theorem TbOk.at {F : Hp} {T : List (Addr × Str)} {H : Hp} (h : TbOk F T H) {p : Addr × Str} (hp : p ∈ T) : ∃ ps, H p.1 = some (.tbl ps) := by
  obtain ⟨ps, h1, _⟩ := h.1 p hp
  exact ⟨ps, h1⟩
theorem tabs_keep {F F' H H' : Hp} (kp : ∀ a o, Tbx o → H a = some o → H' a = some o) {T : List (Addr × Str)} (h : TbOk F T H) (nT : ∀ a ps, H a = some (.tbl ps) → F a = none → F' a = none := by exact fun _ _ _ h => h) : TbOk F' T H' := ⟨fun p hp => by
  obtain ⟨ps, h1, h2, h3⟩ := h.1 p hp
  exact ⟨ps, kp _ _ trivial h1, h2, fun pos cv e => (h3 pos cv e).imp fun c z => ⟨z.1, kp _ _ trivial z.2⟩⟩, fun p hp => by
  obtain ⟨ps, h1, _⟩ := h.1 p hp
  exact nT _ ps h1 (h.2 p hp)⟩
/-- where one place becomes data that is no table -/
theorem tb_upd {F H : Hp} {p : Addr} {o : HO} (hp : ∀ ps, H p ≠ some (.tbl ps)) (a : Addr) (ps : Array Value) (e : H a = some (.tbl ps)) (h : F a = none) : upd F p o a = none := by
  rw [upd_ne (fun z : a = p => hp ps (by rw [← z]; exact e))]
  exact h
structure DeckOk (K : PySem.W.Frag) (g : Gh) (H : Hp) (c : Ct) : Prop where
  dk : DkOk g H c.n
  ob : ObOk K g H c
  tb : TbOk g.F c.tb H
theorem DeckOk.live {K : PySem.W.Frag} {g : Gh} {H : Hp} {c : Ct} (d : DeckOk K g H c) {a : Addr} (h : isDk g a) : ∃ o, H a = some o := by
  rcases h with ⟨p, q, e, z⟩ | h
  · obtain ⟨_, _, _, ns, _, _, hq, _, hp, _⟩ := d.dk p q e
    rcases z with rfl | rfl
    · exact ⟨_, hp⟩
    · exact ⟨_, hq⟩
  · rcases d.ob.al a h with ⟨o, e⟩ | ⟨l, e⟩
    · obtain ⟨_, _, dx, vs, e2, _⟩ := d.ob.is a o e
      exact ⟨_, e2⟩
    · obtain ⟨_, _, _, xs, e2, _⟩ := d.ob.li a l e
      exact ⟨_, e2⟩
theorem DeckOk.noF {K : PySem.W.Frag} {g : Gh} {H : Hp} {c : Ct} (d : DeckOk K g H c) {a : Addr} (h : isDk g a) : g.F a = none := by
  rcases h with ⟨p, q, e, z⟩ | h
  · obtain ⟨_, h1, h2, _⟩ := d.dk p q e
    rcases z with rfl | rfl
    · exact h1
    · exact h2
  · rcases d.ob.al a h with ⟨o, e⟩ | ⟨l, e⟩
    · exact (d.ob.is a o e).2.1
    · exact (d.ob.li a l e).2.1
/-- the deck and the objects stand where nothing of theirs changes -/
theorem DeckOk.move {K : PySem.W.Frag} {g g' : Gh} {H H' : Hp} {c : Ct} (d : DeckOk K g H c) (sF : Same g.F g'.F) (hd : g'.dk = g.dk) (ho : g'.ob = g.ob) (kp : ∀ a o, isDk g a ∨ Tbx o → H a = some o → H' a = some o)
    (nF : ∀ a, isDk g a → g'.F a = none) (nT : ∀ a ps, H a = some (.tbl ps) → g.F a = none → g'.F a = none := by exact fun _ _ _ h => h) : DeckOk K g' H' c := by
  refine ⟨fun p q e => ?_, ⟨fun a h => d.ob.al a (by rw [← ho]; exact h), fun a o e => ?_, fun a l e => ?_⟩, tabs_keep (fun a o h => kp a o (.inr h)) d.tb nT⟩
  · rw [hd] at e
    obtain ⟨h1, h2, h3, ns, h4, h5, h6, ys, h7, h8⟩ := d.dk p q e
    exact ⟨h1, nF p (.inl ⟨p, q, e, .inl rfl⟩), nF q (.inl ⟨p, q, e, .inr rfl⟩), ns, h4, h5, kp _ _ (.inl (.inl ⟨p, q, e, .inr rfl⟩)) h6, ys, kp _ _ (.inl (.inl ⟨p, q, e, .inl rfl⟩)) h7, h8.mono sF⟩
  · obtain ⟨h1, h2, dx, vs, h3, h4⟩ := d.ob.is a o e
    exact ⟨by rw [ho]; exact h1, nF a (.inr h1), dx, vs, kp _ _ (.inl (.inr h1)) h3, h4.mono sF (fun b h => by rw [ho]; exact h)⟩
  · obtain ⟨h1, h2, h5, xs, h3, h4⟩ := d.ob.li a l e
    exact ⟨by rw [ho]; exact h1, nF a (.inr h1), fun p q e => h5 p q (by rw [← hd]; exact e), xs, kp _ _ (.inl (.inr h1)) h3, h4.mono sF (fun b h => by rw [ho]; exact h)⟩
def VOk (K : PySem.W.Frag) (g : Gh) (H : Hp) (v : V) : Vl → Prop
  | .dat d => Dp K g.F v d
  | .deck => ∃ p q, g.dk = some (p, q) ∧ v = .ref p
  | .exc a => v = .ref a
  | .ob a => v = .ref a ∧ g.ob a
  | .own l => ∃ a xs, v = .ref a ∧ g.F a = none ∧ ¬ isDk g a ∧ H a = some (.lst xs) ∧ DpAll K g.F xs l
/-- the entry of a frame; top: the law's own frame, where the deck is made -/
structure En where
  g : Gh
  H : Hp
  top : Bool
structure Rel (K : PySem.W.Frag) (E : En) (g : Gh) (env : Ev) (c : Ct) (σ : L2.St) (H : Hp) : Prop where
  mo : Same E.g.F g.F
  om : ∀ a, E.g.ob a → g.ob a
  md : E.top = false → g.dk = E.g.dk
  mt : E.top = true → E.g.dk = none
  dn : ∀ a, isDk g a → isDk E.g a ∨ E.H a = none
  on : ∀ a, g.ob a → E.g.ob a ∨ E.H a = none
  nf : ∀ a o, g.F a = some o → E.g.F a = some o ∨ E.H a = none
  fr : Sty E.g E.H H
  nw : ∀ (i : Nat) (l : List PyData), env[i]? = some (some (Vl.own l)) → ∀ a : Addr, σ[i]? = some (some (V.ref a)) → E.H a = none
  ex : Same g.F H
  sl : ∀ (i : Nat) (x : Vl), env[i]? = some (some x) → ∃ v, σ[i]? = some (some v) ∧ VOk K g H v x
  ap : ∀ (i j : Nat) (li lj : List PyData) (a : Addr), i ≠ j → env[i]? = some (some (Vl.own li)) → env[j]? = some (some (Vl.own lj)) → σ[i]? = some (some (V.ref a)) → σ[j]? ≠ some (some (V.ref a))
  dk : DeckOk K g H c
  len : env.length = σ.length

section
variable {K : PySem.W.Frag} {E : En} {g g' : Gh} {env : Ev} {c : Ct} {σ : L2.St} {H H' : Hp}
theorem Rel.deckLive (r : Rel K E g env c σ H) {a : Addr} (h : isDk g a) : ∃ o, H a = some o := r.dk.live h
theorem Rel.old (r : Rel K E g env c σ H) {a : Addr} {o : HO} (h : E.H a = some o) : ∃ o', H a = some o' := by
  by_cases hd : isDk E.g a
  · rcases hd with ⟨p, q, e, z⟩ | hd
    · cases ht : E.top with
      | true =>
        rw [r.mt ht] at e
        cases e
      | false => exact r.deckLive (.inl ⟨p, q, by rw [r.md ht]; exact e, z⟩)
    · exact r.deckLive (.inr (r.om a hd))
  · by_cases ht : ∃ ps, o = .tbl ps
    · obtain ⟨ps, rfl⟩ := ht
      obtain ⟨ps', e⟩ := r.fr.t a ps h
      exact ⟨_, e⟩
    · exact ⟨o, r.fr.k a o h ⟨hd, fun ps e => ht ⟨ps, e⟩⟩⟩
theorem Rel.oldN (r : Rel K E g env c σ H) {a : Addr} (h : H a = none) : E.H a = none := by
  cases q : E.H a with
  | none => rfl
  | some o =>
    obtain ⟨o', e⟩ := r.old q
    rw [h] at e
    cases e
/-- a new object, known to the data from now on -/
theorem Rel.new (r : Rel K E g env c σ H) {p : Addr} (o : HO) (hp : H p = none) : Rel K E ⟨upd g.F p o, g.dk, g.ob⟩ env c σ (upd H p o) ∧ Mv g H ⟨upd g.F p o, g.dk, g.ob⟩ (upd H p o) := by
  have hF : g.F p = none := r.ex.free hp
  have sF : Same g.F (upd g.F p o) := fun b x e => by
    rw [upd_ne (ne_of_none e hF)]
    exact e
  have nd : ¬ isDk g p := fun h => by
    obtain ⟨o', e⟩ := r.deckLive h
    rw [hp] at e
    cases e
  refine ⟨⟨r.mo.trans sF, r.om, r.md, r.mt, r.dn, r.on, fun a x e => ?_, r.fr.map fun b u z => by rw [upd_ne (ne_of_none z hp)]; exact z, r.nw, fun b x e => ?_, fun i x e => ?_, r.ap, ?_, r.len⟩, ⟨⟨sF, rfl, fun _ h => h⟩, (Sty.refl _ _).map fun b u z => by rw [upd_ne (ne_of_none z hp)]; exact z, fun a x e => ⟨x, ?_⟩, fun a x e => ?_, fun a h => .inl h⟩⟩
  · have e : upd g.F p o a = some x := e
    by_cases ha : a = p
    · exact .inr (by rw [ha]; exact r.oldN hp)
    · rw [upd_ne ha] at e
      exact r.nf a x e
  · have e : upd g.F p o b = some x := e
    by_cases hb : b = p
    · subst hb
      rw [upd_same] at e ⊢
      exact e
    · rw [upd_ne hb] at e ⊢
      exact r.ex b x e
  · obtain ⟨v, h1, h2⟩ := r.sl i x e
    refine ⟨v, h1, ?_⟩
    cases x with
    | dat d => exact dp_mono sF h2
    | deck => exact h2
    | exc _ => exact h2
    | ob _ => exact h2
    | own l =>
      obtain ⟨a, xs, rfl, h3, h4, h5, h6⟩ := h2
      have ne : a ≠ p := ne_of_none h5 hp
      refine ⟨a, xs, rfl, ?_, h4, ?_, dpAll_mono sF h6⟩
      · show upd g.F p o a = none
        rw [upd_ne ne]
        exact h3
      · rw [upd_ne ne]
        exact h5
  · refine r.dk.move sF rfl rfl (fun a x _ e => ?_) (fun a h => ?_) (tb_upd fun ps z => by rw [hp] at z; cases z)
    · rw [upd_ne (ne_of_none e hp)]
      exact e
    · show upd g.F p o a = none
      rw [upd_ne (fun z : a = p => nd (by rw [← z]; exact h))]
      exact r.dk.noF h
  · rw [upd_ne (ne_of_none e hp)]
    exact e
  · have e : upd g.F p o a = some x := e
    by_cases ha : a = p
    · exact .inr (by rw [ha]; exact hp)
    · rw [upd_ne ha] at e
      exact .inl e
end

abbrev DE := Ev → Ct → (Vl → Ct → Prop) → Prop
abbrev DT := Ev → Ct → (Bool → Ct → Prop) → Prop
abbrev DA := Ev → Ct → (List Vl → Ct → Prop) → Prop
abbrev DI := Ev → Ct → (List PyData → Ct → Prop) → Prop
abbrev DG := Vl → Ev → (Ev → Prop) → Prop
abbrev DGs := List PyData → Ev → (Ev → Prop) → Prop
structure DEnds where
  nx : Ev → Ct → Prop
  rt : Vl → Ct → Prop
  bk : Ev → Ct → Prop
  ct : Ev → Ct → Prop
abbrev DS := DEnds → Ev → Ct → Prop

def VOks (K : PySem.W.Frag) (g : Gh) (H : Hp) : List V → List Vl → Prop
  | [], [] => True
  | v :: vs, x :: xs => VOk K g H v x ∧ VOks K g H vs xs
  | _, _ => False
/-- a value that goes from hand to hand -/
def free : Vl → Prop
  | .own _ => False
  | _ => True
theorem VOk.mono {K : PySem.W.Frag} {g g' : Gh} {H H' : Hp} {v : V} {x : Vl} (m : Mo g g') (hf : free x) (h : VOk K g H v x) : VOk K g' H' v x := by
  cases x with
  | dat d => exact dp_mono m.f h
  | exc _ => exact h
  | deck =>
    obtain ⟨p, q, e, z⟩ := h
    exact ⟨p, q, by rw [m.d]; exact e, z⟩
  | ob _ => exact ⟨h.1, m.o _ h.2⟩
  | own l => exact hf.elim

section
variable (K : PySem.W.Frag) (E : En)
end
section
variable {X : Cx} {E : En} {a b : Expr} {da db : DE} {pos : Pos}
theorem VOks.mono {K : PySem.W.Frag} {g g' : Gh} {H H' : Hp} (m : Mo g g') : ∀ {vs : List V} {xs : List Vl}, (∀ x ∈ xs, free x) → VOks K g H vs xs → VOks K g' H' vs xs
  | [], [], _, _ => trivial
  | v :: vs, x :: xs, hf, h => ⟨VOk.mono m (hf x List.mem_cons_self) h.1, VOks.mono m (fun y hy => hf y (List.mem_cons_of_mem _ hy)) h.2⟩
  | [], _ :: _, _, h => h.elim
  | _ :: _, [], _, h => h.elim
end
end DL
namespace DL
open PySem PySem.Spec PyProof.Rows L2

section
variable {K : PySem.W.Frag}
end
section
variable {X : Cx} {E : En} {a b : Expr} {da db : DE} {pos : Pos}
end
end DL
namespace DL
open PySem PySem.Spec PyProof.Rows L2

section
variable {X : Cx} {E : En} {a b : Expr} {da db : DE} {ta tb : DT} {pos : Pos} {rest : List Expr}
end

theorem set_get {α : Type} {l : List (Option α)} {i j : Nat} {x y : α} (h : (l.set i (some x))[j]? = some (some y)) : (j = i ∧ i < l.length ∧ y = x) ∨ (j ≠ i ∧ l[j]? = some (some y)) := by
  by_cases e : j = i
  · subst e
    by_cases hl : j < l.length
    · rw [List.getElem?_set_self hl] at h
      exact .inl ⟨rfl, hl, (Option.some.inj (Option.some.inj h)).symm⟩
    · rw [List.getElem?_eq_none (by simpa using hl)] at h
      cases h
  · rw [List.getElem?_set_ne (Ne.symm e)] at h
    exact .inr ⟨e, h⟩
section
variable {K : PySem.W.Frag} {E : En} {g g' : Gh} {env env' : Ev} {c c' : Ct} {σ σ' : L2.St} {H H' : Hp}
theorem Rel.set (r : Rel K E g env c σ H) (i : Nat) {v : V} {x : Vl} (h : VOk K g H v x) (hf : free x) : Rel K E g (env.set i (some x)) c (σ.set i (some v)) H := by
  have notown : ∀ l, x ≠ .own l := fun l e => by
    subst e
    exact hf
  have key : ∀ (j : Nat) (l : List PyData), (env.set i (some x))[j]? = some (some (Vl.own l)) → j ≠ i ∧ env[j]? = some (some (Vl.own l)) := fun j l e => by
    rcases set_get e with ⟨_, _, e⟩ | e
    · exact absurd e.symm (notown l)
    · exact e
  refine ⟨r.mo, r.om, r.md, r.mt, r.dn, r.on, r.nf, r.fr, fun j l e a ea => ?_, r.ex, fun j y e => ?_, fun j k lj lk a ne e1 e2 e3 e4 => ?_, r.dk, by simpa using r.len⟩
  · obtain ⟨ne, e1⟩ := key j l e
    rw [List.getElem?_set_ne (Ne.symm ne)] at ea
    exact r.nw j l e1 a ea
  · rcases set_get e with ⟨rfl, hl, rfl⟩ | ⟨ne, e1⟩
    · exact ⟨v, by rw [List.getElem?_set_self (by rw [← r.len]; exact hl)], h⟩
    · obtain ⟨u, h1, h2⟩ := r.sl j y e1
      exact ⟨u, by rw [List.getElem?_set_ne (Ne.symm ne)]; exact h1, h2⟩
  · obtain ⟨n1, f1⟩ := key j lj e1
    obtain ⟨n2, f2⟩ := key k lk e2
    rw [List.getElem?_set_ne (Ne.symm n1)] at e3
    rw [List.getElem?_set_ne (Ne.symm n2)] at e4
    exact r.ap j k lj lk a ne f1 f2 e3 e4
end

section
variable {X : Cx} {E : En} {pos : Pos}
end
end DL
namespace DL
open PySem PySem.Spec PyProof.Rows L2
section
variable {X : Cx} {E : En} {a b : Expr} {da db : DE} {pos : Pos}
end
end DL
namespace DL
open PySem PySem.Spec PyProof.Rows L2

section
variable {X : Cx} {E : En} {st : Stmt} {rest : List Stmt} {t u : DS} {a : Expr} {da : DE} {pos : Pos}
end

section
variable {X : Cx} {E : En} {tg a b : Expr} {da db : DE} {dr : DA} {pos p : Pos}
end

section
variable {X : Cx} {E : En} {tg a : Expr} {pos : Pos}
end

abbrev DF := Ev → Ct → (List PyData → Ct → Prop) → Prop
theorem Rel.noOwn {K : PySem.W.Frag} {E : En} {g : Gh} {env : Ev} {c : Ct} {σ : L2.St} {H : Hp} (r : Rel K E g env c σ H) {p : Addr} (hp : H p = none) (j : Nat) (l : List PyData) (e : env[j]? = some (some (.own l))) : σ[j]? ≠ some (some (.ref p)) := fun z => by
  obtain ⟨v, h1, a, xs, e1, h3, h4, h5, h6⟩ := r.sl j _ e
  rw [h1] at z
  cases z
  cases e1
  rw [hp] at h5
  cases h5
section
variable {X : Cx} {E : En} {tg a elt : Expr} {pos : Pos}
end
end DL
namespace DL
open PySem PySem.Spec PyProof.Rows L2

section
variable {X : Cx} {E : En} {tg a elt : Expr} {pos : Pos}
end

structure FnG (P : Program) (w : World) (K : PySem.W.Frag) (mg : Str → Option Value) (base : Heap) (k : Nat) (f : Addr) (fd : FuncData) (ps : List Str) (sp : Sp) : Prop where
  len : ∀ vs H Q E, sp vs H Q E → vs.length = ps.length
  run : ∀ (A : Around) (outer : List Env) (s : Shared) (H : Hp) (ag : Args) (us : List Value) (vs : List V) (Q : VK), Room k A → A.guards = some [] → Env0 P w K mg base A outer s H → BindsTo s fd ag (ps.zip us) → Vals vs us → sp vs H Q E0 →
    codeAny (model P w) A (.call (.ref f) ag) (CR CX0 outer P w H s Q E0) s
theorem FnG.mono {P : Program} {w : World} {K : PySem.W.Frag} {mg : Str → Option Value} {base : Heap} {j k : Nat} {f : Addr} {fd : FuncData} {ps : List Str} {sp : Sp} (F : FnG P w K mg base j f fd ps sp) (h : j ≤ k) : FnG P w K mg base k f fd ps sp :=
  ⟨F.len, fun A outer s H ag us vs Q hr => F.run A outer s H ag us vs Q (hr.mono h)⟩
section
variable {P : Program} {w : World} {K : PySem.W.Frag} {mg : Str → Option Value} {base : Heap}
end
section
variable {X : Cx} {k : Nat} {f : Addr} {fd : FuncData} {ps : List Str} {sp : Sp} {x : Str} {p pos : Pos} {e : Expr} {es : List Expr} {t : TA}
end

abbrev Spec := List Vl → Ct → (Vl → Ct → Prop) → Prop
def spD (K : PySem.W.Frag) (n : Nat) (spec : Spec) : Sp := fun vs H Q _ => ∃ g c args P, Same g.F H ∧ DeckOk K g H c ∧ VOks K g H vs args ∧ (∀ x ∈ args, free x) ∧ args.length = n ∧ spec args c P ∧
  ∀ x c' g' H' v, P x c' → Mv g H g' H' → Same g'.F H' → DeckOk K g' H' c' → VOk K g' H' v x → free x → Q v H'
theorem VOks.len {K : PySem.W.Frag} {g : Gh} {H : Hp} : ∀ {vs : List V} {xs : List Vl}, VOks K g H vs xs → vs.length = xs.length
  | [], [], _ => rfl
  | v :: vs, x :: xs, h => by simp [VOks.len h.2]
  | [], _ :: _, h => h.elim
  | _ :: _, [], h => h.elim
theorem VOks.at {K : PySem.W.Frag} {g : Gh} {H : Hp} : ∀ {vs : List V} {xs : List Vl} {i : Nat} {x : Vl}, VOks K g H vs xs → xs[i]? = some x → ∃ v, vs[i]? = some v ∧ VOk K g H v x
  | [], [], _, _, _, e => by simp at e
  | v :: vs, y :: xs, 0, x, h, e => by
    simp at e
    subst e
    exact ⟨v, rfl, h.1⟩
  | v :: vs, y :: xs, i + 1, x, h, e => by
    obtain ⟨u, h1, h2⟩ := VOks.at (i := i) (x := x) h.2 (by simpa using e)
    exact ⟨u, by simpa using h1, h2⟩
  | [], _ :: _, _, _, h, _ => h.elim
  | _ :: _, [], _, _, h, _ => h.elim
/-- behind a call -/
theorem Rel.call {K : PySem.W.Frag} {E : En} {g g' : Gh} {env : Ev} {c c' : Ct} {σ : L2.St} {H H' : Hp} (r : Rel K E g env c σ H) (m : Mv g H g' H') (ex : Same g'.F H') (dk : DeckOk K g' H' c') : Rel K E g' env c' σ H' := by
  have key : ∀ a o, E.H a = some o → ¬ isDk E.g a → ¬ isDk g a := fun a o e n z => by
    rcases r.dn a z with w | w
    · exact n w
    · rw [e] at w
      cases w
  refine ⟨r.mo.trans m.f, fun a h => m.o a (r.om a h), fun h => m.d.trans (r.md h), r.mt, fun a h => ?_, fun a h => ?_, fun a o e => ?_, ⟨fun a o e n => m.fr.k a o (r.fr.k a o e n) ⟨key a o e n.1, n.2⟩, fun a ps e => (r.fr.t a ps e).elim fun ps' e' => m.fr.t a ps' e'⟩, r.nw, ex, fun i x e => ?_, r.ap, dk, r.len⟩
  · rcases m.dkOr h with h | h
    · exact r.dn a h
    · exact Or.inr (r.oldN h)
  · rcases m.on a h with h | h
    · exact r.on a h
    · exact Or.inr (r.oldN h)
  · rcases m.nf a o e with h | h
    · exact r.nf a o h
    · exact Or.inr (r.oldN h)
  · obtain ⟨v, h1, h2⟩ := r.sl i x e
    refine ⟨v, h1, ?_⟩
    cases x with
    | dat d => exact dp_mono m.f h2
    | exc _ => exact h2
    | ob _ => first | exact h2 | exact ⟨h2.1, m.o _ h2.2⟩
    | deck =>
      obtain ⟨p, q, e, z⟩ := h2
      exact ⟨p, q, by rw [m.d]; exact e, z⟩
    | own l =>
      obtain ⟨a, xs, rfl, h3, h4, h5, h6⟩ := h2
      refine ⟨a, xs, rfl, ?_, fun z => h4 (m.dkIs h5 z), m.fr.k a _ h5 (ntL h4), dpAll_mono m.f h6⟩
      cases q : g'.F a with
      | none => rfl
      | some o =>
        rcases m.nf a o q with w | w
        · rw [h3] at w
          cases w
        · rw [h5] at w
          cases w
section
variable {X : Cx} {E : En} {k n : Nat} {f : Addr} {fd : FuncData} {ps : List Str} {spec : Spec} {x : Str} {p pos : Pos} {e : Expr} {es : List Expr} {dr : DA}
end
section
variable {P : Program} {w : World} {K : PySem.W.Frag} {mg : Str → Option Value} {base : Heap}
end
end DL
namespace DL
open PySem PySem.Spec PyProof.Rows L2

section
variable {P : Program} {w : World} {K : PySem.W.Frag} {mg : Str → Option Value} {base : Heap}
end
end DL
namespace DL
open PySem PySem.Spec PyProof.Rows L2

section
variable {P : Program} {w : World} {K : PySem.W.Frag} {mg mb : Str → Option Value} {k : Nat} {fa a : Addr} {fd : FuncData} {x : Str} {sp : Sp} {s : Shared} {vs : List Value} {ns : List Int}
end
end DL
namespace DL
open PySem PySem.Spec PyProof.Rows L2
mutual
def cost : PyData → Nat
  | .none => 4
  | .bool _ => 5
  | .int _ => 1921
  | .str x => (reprText x).length
  | .list xs => costs xs + 2
  | .tuple xs => costs xs + 2
  | .dict _ => 0
def costs : List PyData → Nat
  | [] => 0
  | x :: xs => cost x + 2 + costs xs
end
end DL
namespace DL
open PySem PySem.Spec PyProof.Rows L2

section
variable {X : Cx} {E : En} {a b c : Expr} {da db dc : DE} {pos : Pos}
abbrev DO := Ev → Ct → (Option Int → Ct → Prop) → Prop
end
end DL
namespace DL
open PySem PySem.Spec PyProof.Rows L2
structure Sm (k N : Nat) (d : PyData) : Prop where
  s : d.showable = true
  h : d.hasDict = false
  k : d.depth ≤ k
  c : cost d ≤ N
theorem Sm.mono {k k' N N' : Nat} {d : PyData} (h : Sm k N d) (h1 : k ≤ k') (h2 : N ≤ N') : Sm k' N' d := ⟨h.s, h.h, Nat.le_trans h.k h1, Nat.le_trans h.c h2⟩
end DL
namespace DL
open PySem PySem.Spec PyProof.Rows L2

section
variable {K : PySem.W.Frag} {E : En} {g g' : Gh} {env : Ev} {c : Ct} {σ : L2.St} {H : Hp}
end
section
variable {X : Cx} {E : En} {a b : Expr} {da db : DE} {pos : Pos}
end
end DL
namespace DL
open PySem PySem.Spec PyProof.Rows L2
section
variable {prog : Program} {w : World} {A : Around} {E : Value → Shared → Prop} {s : Shared}
end
section
variable {X : Cx} {E : En} {a : Expr} {pos : Pos}
end
end DL
namespace DL
open PySem PySem.Spec PyProof.Rows L2
section
variable {X : Cx}
end
section
variable {X : Cx} {E : En} {a b : Expr} {da db : DE} {pos : Pos}
end
end DL
namespace DL
open PySem PySem.Spec PyProof.Rows L2
section
variable {X : Cx} {E : En} {a b : Expr} {da db : DE} {pos : Pos}
end
end DL
namespace DL
open PySem PySem.Spec PyProof.Rows L2
section
variable {X : Cx}
end
section
variable {X : Cx} {E : En} {a b : Expr} {da db : DE} {pos : Pos}
end
end DL
namespace DL
open PySem PySem.Spec PyProof.Rows L2
/-- the list at p is known to nobody -/
structure Frs (K : PySem.W.Frag) (E : En) (g : Gh) (H : Hp) (env : Ev) (σ : L2.St) (p : Addr) (l : List PyData) : Prop where
  at_ : ∃ xs, H p = some (.lst xs) ∧ DpAll K g.F xs l
  fF : g.F p = none
  nd : ¬ isDk g p
  eH : E.H p = none
  no : ∀ (j : Nat) (m : List PyData), env[j]? = some (some (.own m)) → σ[j]? ≠ some (some (.ref p))
section
variable {K : PySem.W.Frag} {E : En} {g g' : Gh} {env : Ev} {c : Ct} {σ : L2.St} {H H' : Hp} {p : Addr} {l : List PyData}
theorem Frs.of {xs : List V} {env' : Ev} {c' : Ct} {σ' : L2.St} (rel : Rel K E g env c σ H) (m : Mv g H g' H') (r : Rel K E g' env' c' σ' H') (hp : H p = none) (hp' : H' p = some (.lst xs)) (hF : g'.F p = none) (hnd : ¬ isDk g' p) (ha : DpAll K g'.F xs l) : Frs K E g' H' env σ p l :=
  ⟨⟨xs, hp', ha⟩, hF, hnd, rel.oldN hp, fun j l e => rel.noOwn hp j l e⟩
/-- another list than the one that went into slot i -/
theorem Frs.other {q : Addr} {m : List PyData} {i : Nat} (r : Rel K E g env c σ H) (h : Frs K E g H env σ p l) (ne : p ≠ q) : Frs K E g H (env.set i (some (.own m))) (σ.set i (some (.ref q))) p l := by
  refine ⟨h.at_, h.fF, h.nd, h.eH, fun j n e z => ?_⟩
  rcases set_get e with ⟨rfl, hl, _⟩ | ⟨n1, f1⟩
  · rw [List.getElem?_set_self (by rw [← r.len]; exact hl)] at z
    cases z
    exact ne rfl
  · rw [List.getElem?_set_ne (Ne.symm n1)] at z
    exact h.no j n f1 z
end
section
variable {X : Cx} {E : En} {a b : Expr} {da db : DE} {pos : Pos}
variable {px py pt : Pos} {kt : Nat} {k2 : Nat} {pt2 : Pos} {x y : Str}
end
section
variable {X : Cx} {E : En} {a b : Expr} {da db : DE} {pos : Pos}
end
end DL
namespace DL
open PySem PySem.Spec PyProof.Rows L2
section
variable {X : Cx} {E : En} {a b : Expr} {da db : DE} {pos : Pos} {px py pt : Pos} {kt : Nat} {k2 : Nat} {pt2 : Pos} {x y : Str}
end
section
variable {X : Cx} {E : En} {tg a elt : Expr} {pos : Pos}
end
end DL
namespace DL
open PySem PySem.Spec PyProof.Rows L2
end DL
namespace DL
open PySem PySem.Spec PyProof.Rows L2
structure Sd (k N : Nat) (d : PyData) : Prop where
  s : d.showable = true
  k : d.depth ≤ k
  c : d.shown.length ≤ N
theorem Sd.mono {k k' N N' : Nat} {d : PyData} (h : Sd k N d) (h1 : k ≤ k') (h2 : N ≤ N') : Sd k' N' d := ⟨h.s, Nat.le_trans h.k h1, Nat.le_trans h.c h2⟩
end DL
namespace DL
open PySem PySem.Spec PyProof.Rows L2 HT
section
variable {prog : Program} {w : World} {A : Around} {E : Value → Shared → Prop} {s : Shared}
end
section
variable {X : Cx}
end
section
variable {X : Cx} {E : En} {a b : Expr} {da db : DE} {pos : Pos}
end
section
variable {X : Cx} {E : En} {a b : Expr} {da db : DE} {pos : Pos}
end
end DL
namespace DL
open PySem PySem.Spec PyProof.Rows L2
section
variable {X : Cx}
end
section
variable {X : Cx} {E : En} {a b : Expr} {da db : DE} {pos : Pos}
end
end DL
namespace DL
open PySem PySem.Spec PyProof.Rows L2
end DL
set_option maxHeartbeats 2000000
namespace DL
open PySem PySem.Spec PyProof.Rows L2
section
variable {P : Program} {w : World} {K : PySem.W.Frag} {mg : Str → Option Value} {base : Heap}
end
section
variable {X : Cx} {k : Nat} {f : Addr} {sp : Sp} {x : Str} {p pos : Pos} {e : Expr} {es : List Expr} {t : TA}
end
section
variable {X : Cx} {E : En} {k : Nat} {spec : Spec} {x : Str} {p pos : Pos} {e : Expr} {es : List Expr} {dr : DA}
end
section
variable {P : Program} {w : World} {K : PySem.W.Frag} {mg : Str → Option Value} {base : Heap}
end
end DL
set_option maxHeartbeats 2000000
namespace DL
open PySem PySem.Spec PyProof.Rows L2
section
variable {X : Cx} {E : En} {a b : Expr} {da db : DE} {pos : Pos}
end
section
variable {X : Cx} {E : En} {tg a elt : Expr} {pos : Pos}
end
end DL
set_option maxHeartbeats 2000000
namespace DL
open PySem PySem.Spec PyProof.Rows L2
/-- what is wanted of an exception: its class's name, its fields, the slots, the draws -/
abbrev XW := Str → List (Str × PyData) → Ev → Ct → Prop
abbrev Xd := Str → List (Str × PyData) → Ct → Prop
/-- how an exception stands: of the class named x, with these fields -/
def XOk (K : PySem.W.Frag) (mg : Str → Option Value) (F H : Hp) (nd : Addr → Prop) (x : Str) (fs : List (Str × PyData)) (cls : Value) (d : Option Addr) : Prop :=
  ∃ C, mg x = some (.ref C) ∧ cls = .ref C ∧ ((fs = [] ∧ d = none) ∨ ∃ dd vs, d = some dd ∧ H dd = some (.xd vs) ∧ nd dd ∧ vs.map (·.1) = fs.map (·.1) ∧ DpAll K F (vs.map (·.2)) (fs.map (·.2)))
structure FnX (P : Program) (w : World) (K : PySem.W.Frag) (mg : Str → Option Value) (base : Heap) (k : Nat) (f : Addr) (fd : FuncData) (ps : List Str) (sp : Sp) : Prop where
  len : ∀ vs H Q E, sp vs H Q E → vs.length = ps.length
  run : ∀ (A : Around) (outer : List Env) (s : Shared) (H : Hp) (ag : Args) (us : List Value) (vs : List V) (Q : VK) (E : XK), Room k A → A.guards = some [] → Env0 P w K mg base A outer s H → BindsTo s fd ag (ps.zip us) → Vals vs us → sp vs H Q E →
    codeAny (model P w) A (.call (.ref f) ag) (CR (L2.CX P w) outer P w H s Q E) s
section
variable {P : Program} {w : World} {K : PySem.W.Frag} {mg : Str → Option Value} {base : Heap}
end
section
variable {X : Cx} {k : Nat} {f : Addr} {fd : FuncData} {ps : List Str} {sp : Sp} {x : Str} {p pos : Pos} {e : Expr} {es : List Expr} {t : TA} {W : WX}
end
abbrev SpecX := List Vl → Ct → (Vl → Ct → Prop) → Xd → Prop
def spDX (K : PySem.W.Frag) (mg : Str → Option Value) (n : Nat) (spec : SpecX) : Sp := fun vs H Q E => ∃ g c args P Px, Same g.F H ∧ DeckOk K g H c ∧ VOks K g H vs args ∧ (∀ x ∈ args, free x) ∧ args.length = n ∧ spec args c P Px ∧
  (∀ x c' g' H' v, P x c' → Mv g H g' H' → Same g'.F H' → DeckOk K g' H' c' → VOk K g' H' v x → free x → Q v H') ∧
  ∀ x fs c' g' H' cls d, Px x fs c' → Mv g H g' H' → Same g'.F H' → DeckOk K g' H' c' → XOk K mg g'.F H' (fun a => ¬ isDk g' a) x fs cls d → E cls d H'
section
variable {X : Cx} {E : En} {k n : Nat} {spec : SpecX} {x : Str} {p pos : Pos} {e : Expr} {es : List Expr} {dr : DA} {W : XW}
end
section
variable {P : Program} {w : World} {K : PySem.W.Frag} {mg : Str → Option Value} {base : Heap}
end
end DL
set_option maxHeartbeats 2000000
namespace DL
open PySem PySem.Spec PyProof.Rows L2
section
variable {P : Program} {w : World} {K : PySem.W.Frag} {mg : Str → Option Value} {base : Heap}
end
section
variable {X : Cx} {E : En} {x f : Str} {p pos pos' : Pos} {e : Expr} {da : DE} {W : XW} {k : Nat}
end
theorem Rel.behind {K : PySem.W.Frag} {E : En} {g g2 : Gh} {env env2 : Ev} {c c2 : Ct} {σ σ2 : L2.St} {H H2 : Hp} (r : Rel K E g env c σ H) (r2 : Rel K ⟨g, H, false⟩ g2 env2 c2 σ2 H2) (ht : E.top = false) : Rel K E g2 env2 c2 σ2 H2 := by
  have d2 : g2.dk = g.dk := r2.md rfl
  have key : ∀ a o, E.H a = some o → ¬ isDk E.g a → ¬ isDk g a := fun a o e n z => by
    rcases r.dn a z with w | w
    · exact n w
    · rw [e] at w
      cases w
  refine ⟨r.mo.trans r2.mo, fun a h => r2.om a (r.om a h), fun h => d2.trans (r.md h), r.mt, fun a h => ?_, fun a h => ?_, fun a o e => ?_, ⟨fun a o e n => r2.fr.k a o (r.fr.k a o e n) ⟨key a o e n.1, n.2⟩, fun a ps e => (r.fr.t a ps e).elim fun ps' e' => r2.fr.t a ps' e'⟩, fun i l e a es => r.oldN (r2.nw i l e a es), r2.ex, r2.sl, r2.ap, r2.dk, r2.len⟩
  · rcases r2.dn a h with h | h
    · exact r.dn a h
    · exact Or.inr (r.oldN h)
  · rcases r2.on a h with h | h
    · exact r.on a h
    · exact Or.inr (r.oldN h)
  · rcases r2.nf a o e with h | h
    · exact r.nf a o h
    · exact Or.inr (r.oldN h)
section
variable {X : Cx} {E : En} {i : Nat} {xs : List Str} {tb : XW → DS} {ts : Addr → Str → List (Str × PyData) → DS} {bx n : Str} {C0 : Addr} {body suite : List Stmt} {b₀ : Stmt} {np pos pos' : Pos}
end
end DL
set_option maxHeartbeats 2000000
namespace DL
open PySem PySem.Spec PyProof.Rows L2
/-- what the written part says of a class of errors -/
structure XIs (K : PySem.W.Frag) (C : Addr) : Prop where
  hd : PySem.W.hasDictIn K C = true
  hga : PySem.W.findIn K (.ref C) "__getattribute__" = some (some (.builtin "BaseException.__getattribute__"))
  hgt : PySem.W.findIn K (.ref C) "__getattr__" = some none
  hsub : PySem.W.subIn K (.ref C) (.type "BaseException") = some true
  ha : PySem.W.findIn K (.ref C) "__class__" = some (some (.builtin "object.__class__"))
  hn : PySem.W.specialIn K (.builtin "object.__class__") "__get__" = some (some (.builtin "getset_descriptor.__get__"))
  htk : PySem.W.takesIn K (.builtin "object.__class__") = some true
  hm : PySem.W.mroIn K C (.type "object") = some true
theorem XIs.cls {K : PySem.W.Frag} {C : Addr} (h : XIs K C) : (PySem.W.clsIn K C).isSome = true := by
  obtain ⟨cd, hc, _⟩ := PySem.W.any_some h.hd
  rw [hc]
  rfl
section
variable {X : Cx} {a C : Addr} {oe : Obj} {d : Option Addr} {pn : List (Addr × Obj)} {cv : Value} {b : Bool}
end
section
variable {X : Cx} {E : En} {a C D : Addr} {oe : Obj} {d : Option Addr} {pn : List (Addr × Obj)} {e : Expr} {de : DE} {x cx n : Str} {fs : List (Str × PyData)} {b : Bool} {p p2 pos tpos : Pos} {kk : Nat}
end
section
variable {P : Program} {w : World} {K : PySem.W.Frag} {mg : Str → Option Value} {base : Heap}
end
end DL
set_option maxHeartbeats 2000000
namespace DL
open PySem PySem.Spec PyProof.Rows L2
section
variable {P : Program} {w : World} {K : PySem.W.Frag} {mg : Str → Option Value} {base : Heap}
end
section
variable {X : Cx} {k : Nat} {f : Addr} {sp : Sp} {x : Str} {p pos : Pos} {e : Expr} {es : List Expr} {t : TA} {W : WX}
end
section
variable {X : Cx} {E : En} {k : Nat} {spec : SpecX} {x : Str} {p pos : Pos} {e : Expr} {es : List Expr} {dr : DA} {W : XW}
end
section
variable {P : Program} {w : World} {K : PySem.W.Frag} {mg : Str → Option Value} {base : Heap}
end
end DL
set_option maxHeartbeats 2000000
namespace DL
open PySem PySem.Spec PyProof.Rows L2
section
variable {X : Cx} {E : En} {a b : Expr} {da : DE} {pos px py pt : Pos} {kt : Nat} {k2 : Nat} {pt2 : Pos} {x y : Str}
end
section
variable {X : Cx} {E : En} {a : Expr} {pos : Pos}
end
end DL
set_option maxHeartbeats 2000000
namespace DL
open PySem PySem.Spec PyProof.Rows L2
section
variable {X : Cx} {E : En} {a C D : Addr} {oe : Obj} {d : Option Addr} {pn : List (Addr × Obj)} {e : Expr} {de : DE} {x cx n : Str} {fs : List (Str × PyData)} {b : Bool} {p p2 pos tpos : Pos} {kk : Nat}
end
end DL
set_option maxHeartbeats 2000000
namespace DL
open PySem PySem.Spec PyProof.Rows L2
section
variable {X : Cx} {E : En} {a b : Expr} {da db : DE} {pos apos : Pos}
end
section
variable {P : Program} {w : World} {K : PySem.W.Frag} {mg : Str → Option Value} {base : Heap}
end
end DL
set_option maxHeartbeats 2000000
namespace DL
open PySem PySem.Spec PyProof.Rows L2
section
variable {X : Cx}
end
section
variable {X : Cx} {E : En} {a b : Expr} {da db : DE} {pos : Pos}
end
end DL
set_option maxHeartbeats 2000000
namespace DL
open PySem PySem.Spec PyProof.Rows L2
section
variable {prog : Program} {w : World} {A : Around} {E : Value → Shared → Prop} {s : Shared}
end
section
variable {X : Cx} {E : En} {a : Expr} {te : TE} {pos p1 p2 p3 : Pos}
end
section
variable {X : Cx} {E : En} {a : Expr} {da : DE} {pos : Pos}
end
end DL
set_option maxHeartbeats 2000000
namespace DL
open PySem PySem.Spec PyProof.Rows L2
section
variable {prog : Program} {w : World} {A : Around} {E : Value → Shared → Prop} {s : Shared}
end
end DL
set_option maxHeartbeats 2000000
namespace DL
open PySem PySem.Spec PyProof.Rows L2
section
variable {X : Cx} {E : En} {pos : Pos}
end
section
variable {X : Cx} {E : En} {a b e : Expr} {da db : DE} {pos px py pz pt : Pos} {kt : Nat} {k2 : Nat} {pt2 : Pos} {x y z : Str}
end
end DL
set_option maxHeartbeats 2000000
namespace DL
open PySem PySem.Spec PyProof.Rows L2
section
variable {X : Cx} {E : En} {a : Expr} {p1 p2 pos pos2 : Pos}
end
section
variable {X : Cx}
end
section
variable {X : Cx} {E : En} {a b : Expr} {da db : DE} {pos : Pos}
end
end DL
set_option maxHeartbeats 2000000
namespace DL
open PySem PySem.Spec PyProof.Rows L2
section
variable {X : Cx} {E : En} {a b : Expr} {da db : DE} {pos : Pos}
end
end DL
namespace DL
open PySem PySem.Spec PyProof.Rows L2
section
variable {D : DEnds} {env : Ev} {c : Ct} {P : Vl → Ct → Prop} {PT : Bool → Ct → Prop} {PA : List Vl → Ct → Prop} {PF : List PyData → Ct → Prop} {PD : PyData → Prop}
variable {s t u : DS} {da db dc : DE} {dr : DA} {ta tb : DT} {dg : DG} {dgs : DGs} {dw : DI} {df dh : DF} {d e : PyData} {i j k : Nat}
-- expressions
-- walks
-- targets
-- ends
end
end DL
namespace DL
open PySem PySem.Spec PyProof.Rows L2
end DL
set_option maxHeartbeats 2000000
namespace DL
open PySem PySem.Spec PyProof.Rows L2
section
variable {X : Cx} {E : En} {a b : Expr} {da db : DE} {p1 p2 pos pos2 : Pos}
end
section
variable {env : Ev} {c : Ct} {P : Vl → Ct → Prop} {PF : List PyData → Ct → Prop} {da db : DE} {i : Nat}
end
end DL
set_option maxHeartbeats 2000000
namespace DL
open PySem PySem.Spec PyProof.Rows L2
section
variable {X : Cx} {E : En} {tg a b d : Expr} {da db : DE} {dr : DA} {dt : DF} {pos p : Pos}
end
section
variable {env : Ev} {c : Ct} {PF : List PyData → Ct → Prop} {da : DA} {dt : DF} {i : Nat} {D : DEnds}
end
end DL
set_option maxHeartbeats 3200000
namespace DL
open PySem PySem.Spec PyProof.Rows L2
section
variable {P : Program} {w : World} {A : Around} {E : Value → Shared → Prop} {s : Shared}
end
section
variable {X : Cx} {E : En} {a : Expr} {p1 p2 pos pos2 : Pos} {da : DE}
end
end DL
set_option maxHeartbeats 2000000
namespace DL
open PySem PySem.Spec PyProof.Rows L2
section
variable {X : Cx} {k : Nat}
end
end DL
set_option maxHeartbeats 2000000
namespace DL
open PySem PySem.Spec PyProof.Rows L2
end DL
set_option maxHeartbeats 2000000
namespace DL
open PySem PySem.Spec PyProof.Rows L2
section
variable {K : PySem.W.Frag} {E : En}
end
section
variable {X : Cx} {E : En} {o e v1 v2 : Expr} {rest es : List Expr} {da db d : DE} {ds : List DE} {pos apos : Pos}
end
end DL
set_option maxHeartbeats 2000000
namespace DL
open PySem PySem.Spec PyProof.Rows L2
section
variable {d : DE} {ds : List DE} {da db : DE} {env : Ev} {c : Ct} {P : Vl → Ct → Prop} {k : Str → Prop} {kl : List PyData → Prop} {PD : PyData → Prop}
end
end DL
set_option maxHeartbeats 2000000
namespace DL
open PySem PySem.Spec PyProof.Rows L2
section
variable {K : PySem.W.Frag} {E : En}
end
section
variable {X : Cx} {E : En} {o e : Expr} {da db : DE} {pos apos : Pos}
end
end DL
set_option maxHeartbeats 2000000
namespace DL
open PySem PySem.Spec PyProof.Rows L2
section
variable {X : Cx} {E : En} {tg a b : Expr} {da db : DE} {pos : Pos}
end
section
variable {da db : DE} {env : Ev} {c : Ct} {P : Vl → Ct → Prop} {PF : List PyData → Ct → Prop} {PD : PyData → Prop} {rd : Str → Str → (PyData → Prop) → Prop} {rd0 : Str → (PyData → Prop) → Prop} {lo hi : DO} {a b : Str}
end
end DL
set_option maxHeartbeats 2000000
namespace DL
open PySem PySem.Spec PyProof.Rows L2
section
variable {X : Cx} {es : List Expr} {cs : List V} {ws : List Value} {cx : Str} {p : Pos}
end
section
variable {X : Cx} {E : En} {a C : Addr} {oe : Obj} {d : Option Addr} {pn : List (Addr × Obj)} {e n1 : Expr} {es : List Expr} {cs : List V} {ws : List Value} {de : DE} {x : Str} {fs : List (Str × PyData)} {b : Bool} {p pos tpos : Pos} {kk : Nat}
end
end DL
set_option maxHeartbeats 2000000
namespace DL
open PySem PySem.Spec PyProof.Rows L2

section
variable {K : PySem.W.Frag} {E : En} {g g' : Gh} {env : Ev} {c : Ct} {σ : L2.St} {H H' : Hp}
theorem FsOk.look {f : Str} : ∀ {vs : List (Str × V)} {xs : List (Str × Fv)} {x : Fv}, FsOk K g vs xs → xs.lookup f = some x → ∃ v, vs.lookup f = some v ∧ FvOk K g v x
  | [], [], _, _, e => by cases e
  | (a, u) :: vs, (b, y) :: xs, x, h, e => by
    obtain ⟨rfl, h1, h2⟩ := h
    rw [List.lookup_cons] at e ⊢
    cases q : f == a with
    | true =>
      rw [q] at e
      cases e
      exact ⟨u, rfl, h1⟩
    | false =>
      rw [q] at e
      exact FsOk.look h2 e
  | [], _ :: _, _, h, _ => h.elim
  | _ :: _, [], _, h, _ => h.elim
theorem FsOk.len : ∀ {vs : List (Str × V)} {xs : List (Str × Fv)}, FsOk K g vs xs → vs.length = xs.length
  | [], [], _ => rfl
  | _ :: _, _ :: _, h => by simp [FsOk.len h.2.2]
  | [], _ :: _, h => h.elim
  | _ :: _, [], h => h.elim
end

section
variable {X : Cx} {E : En} {o value : Expr} {f : Str} {pos pos' tpos : Pos} {de dv : DE} {Cs : List Addr}
end
end DL
set_option maxHeartbeats 2000000
namespace DL
open PySem PySem.Spec PyProof.Rows L2

section
variable {X : Cx} {k : Nat} {f C : Addr} {fd : FuncData} {ps : List Str} {sp : Sp} {W : WX} {pins : List (Addr × Obj)} {s : Shared} {σ : L2.St} {H : Hp} {us : List Value} {vs : List V} {Q : VK}
end

section
variable {ι : Type} {X : Cx} {C f : ι → Addr} {sp : ι → List V → L2.St → Hp → VK → Prop} {m : Str} {o e : Expr} {es : List Expr} {pos apos : Pos} {ta : TE} {t : TA}
end

/-- the method m of the class at C -/
structure MDef (P : Program) (w : World) (K : PySem.W.Frag) (mg : Str → Option Value) (base : Heap) (k : Nat) (C : Addr) (m : Str) (n : Nat) (spec : Spec) : Prop where
  cl : Cls K C
  ex : ∃ f fd ps, FnG P w K mg base k f fd ps (spD K n spec) ∧ Meth K C m f ∧ Binds K fd ps []
structure MDefX (P : Program) (w : World) (K : PySem.W.Frag) (mg : Str → Option Value) (base : Heap) (k : Nat) (C : Addr) (m : Str) (n : Nat) (spec : SpecX) : Prop where
  cl : Cls K C
  ex : ∃ f fd ps, FnX P w K mg base k f fd ps (spDX K mg n spec) ∧ Meth K C m f ∧ Binds K fd ps []
section
variable {X : Cx} {E : En} {k n : Nat} {L : List (Addr × Spec)} {LX : List (Addr × SpecX)} {m : Str} {o e : Expr} {es : List Expr} {pos apos : Pos} {do_ : DE} {da : DA} {W : XW}
end
end DL
set_option maxHeartbeats 2000000
namespace DL
open PySem PySem.Spec PyProof.Rows L2

section
variable {ι : Type} {X : Cx} {k : Nat} {C p g : ι → Addr} {fd : ι → FuncData} {ps : ι → List Str} {sp : ι → Sp} {f : Str} {o : Expr} {pos : Pos} {ta : TE}
end
/-- the property f of the class at C -/
structure PDef (P : Program) (w : World) (K : PySem.W.Frag) (mg : Str → Option Value) (base : Heap) (k : Nat) (C : Addr) (f : Str) (spec : Spec) : Prop where
  cl : Cls K C
  ex : ∃ p g fd ps, FnG P w K mg base k g fd ps (spD K 1 spec) ∧ PropOf K C f p g ∧ Binds K fd ps []
section
variable {X : Cx} {E : En} {k n : Nat} {L : List (Addr × Spec)} {f : Str} {o : Expr} {pos : Pos} {do_ : DE}
end

section
variable {K : PySem.W.Frag} {E : En} {g g1 : Gh} {env : Ev} {c c1 : Ct} {σ : L2.St} {H H1 : Hp} {vs : List V} {xs : List Vl} {C : Addr} {n : Nat}
end
section
variable {X : Cx} {E : En} {k n : Nat} {x : Str} {C : Addr} {sp : Spec} {spx : SpecX} {p pos : Pos} {e : Expr} {es : List Expr} {da : DA} {W : XW}
end
section
variable {P : Program} {w : World} {K : PySem.W.Frag} {mg : Str → Option Value} {base : Heap}
end
end DL
set_option maxHeartbeats 2000000
namespace DL
open PySem PySem.Spec PyProof.Rows L2

section
variable {X : Cx} {E : En} {a C : Addr} {oe : Obj} {d : Option Addr} {pn : List (Addr × Obj)} {e : Expr} {de : DE} {x cx n : Str} {fs : List (Str × PyData)} {b : Bool} {p p2 pos tpos : Pos} {kk : Nat} {T' : String}
end
end DL
set_option maxHeartbeats 2000000
namespace DL
open PySem PySem.Spec PyProof.Rows L2

theorem MDef.mono {P : Program} {w : World} {K : PySem.W.Frag} {mg : Str → Option Value} {base : Heap} {k k' : Nat} {C : Addr} {m : Str} {n : Nat} {spec : Spec} (M : MDef P w K mg base k C m n spec) (h : k ≤ k') : MDef P w K mg base k' C m n spec := by
  obtain ⟨c, f, fd, ps, F, hm, hb⟩ := M
  exact ⟨c, f, fd, ps, F.mono h, hm, hb⟩
theorem FnX.mono {P : Program} {w : World} {K : PySem.W.Frag} {mg : Str → Option Value} {base : Heap} {j k : Nat} {f : Addr} {fd : FuncData} {ps : List Str} {sp : Sp} (F : FnX P w K mg base j f fd ps sp) (h : j ≤ k) : FnX P w K mg base k f fd ps sp :=
  ⟨F.len, fun A outer s H ag us vs Q E hr => F.run A outer s H ag us vs Q E (hr.mono h)⟩
theorem MDefX.mono {P : Program} {w : World} {K : PySem.W.Frag} {mg : Str → Option Value} {base : Heap} {k k' : Nat} {C : Addr} {m : Str} {n : Nat} {spec : SpecX} (M : MDefX P w K mg base k C m n spec) (h : k ≤ k') : MDefX P w K mg base k' C m n spec := by
  obtain ⟨c, f, fd, ps, F, hm, hb⟩ := M
  exact ⟨c, f, fd, ps, F.mono h, hm, hb⟩
theorem PDef.mono {P : Program} {w : World} {K : PySem.W.Frag} {mg : Str → Option Value} {base : Heap} {k k' : Nat} {C : Addr} {f : Str} {spec : Spec} (M : PDef P w K mg base k C f spec) (h : k ≤ k') : PDef P w K mg base k' C f spec := by
  obtain ⟨c, p, g, fd, ps, F, hm, hb⟩ := M
  exact ⟨c, p, g, fd, ps, F.mono h, hm, hb⟩

open He (eqO eqO_ok ba ga ma)
abbrev Ck := PySem.W.Frag → Bool
def ckAll (cs : List Ck) (K : PySem.W.Frag) : Bool := cs.all fun c => c K
abbrev AlO : Type := Bool × List He5.FnW
def obsO (cs : List Ck) (fn : List He5.DefA) (K : PySem.W.Frag) : AlO := (ckAll cs K && fn.all fun d => d.ok K, fn.map fun d => He5.fnA K (d.at_ K))
def valO (fn : List He5.DefA) : AlO := (true, fn.map He5.DefA.val)
def SaysO (cs : List Ck) (fn : List He5.DefA) (K : PySem.W.Frag) : Prop := obsO cs fn K = valO fn
section
variable {cs : List Ck} {fn : List He5.DefA} {K : PySem.W.Frag}
end
/-- a def of the text st, at at_, without defaults -/
abbrev dA (at_ : PySem.W.Frag → Addr) (x q : Str) (st : Stmt) : He5.DefA := ⟨at_, x, q, defArgs st, defBody st, defScope st, [], []⟩
/-- names -/
def ckGlo (x : Str) : Ck := fun K => eqO (PySem.W.nsIn K mainGlobals x) (some (some (.ref (ga K x))))
def ckFree (x : Str) : Ck := fun K => eqO (PySem.W.nsIn K mainGlobals x) (some none)
def ckInt (x : Str) (i : Int) : Ck := fun K => match PySem.W.nsIn K mainGlobals x with
  | some (some (.int j _)) => decide (j = i)
  | _ => false
section
variable {K : PySem.W.Frag} {h : Heap} {mg : Str → Option Value}
end
/-- a class by its name: an own one, a built-in one -/
inductive Cn where
  | own (x : Str)
  | blt (t : String)
def Cn.v (K : PySem.W.Frag) : Cn → Value
  | .own x => .ref (ga K x)
  | .blt t => .type t
end DL
set_option maxHeartbeats 2000000
namespace DL
open PySem PySem.Spec PyProof.Rows L2
end DL
set_option maxHeartbeats 2000000
namespace DL
open PySem PySem.Spec PyProof.Rows L2

/-- n draws so far; the objects of L, then those of r -/
def St (n : Nat) (L : List (Addr × Ob)) (r : Rst) : Ct := ⟨n, fun a => match L.lookup a with
  | some o => some o
  | none => r a, r.ls, r.tb⟩
section
variable {n : Nat} {L : List (Addr × Ob)} {r : Rst} {a b : Addr} {o o' : Ob} {Cs : List Addr} {f g : Str} {x y : Fv} {fs : List (Str × Fv)} {C D : Addr} {env : Ev} {c : Ct} {P : Vl → Ct → Prop} {de dv do_ : DE} {da : DA} {DD : DEnds}
end
end DL
set_option maxHeartbeats 2000000
namespace DL
open PySem PySem.Spec PyProof.Rows L2
section
variable {ι : Type} {X : Cx} {k : Nat} {C f : ι → Addr} {fd : ι → FuncData} {ps : ι → List Str} {sp : ι → Sp} {m : Str}
end
section
variable {X : Cx} {E : En} {k : Nat} {L : List (Addr × Spec)} {m : Str} {e : Expr} {p pos : Pos} {de : DE}
end
section
variable {L : List (Addr × Spec)} {m : Str} {de : DE} {env : Ev} {c : Ct} {P : Vl → Ct → Prop} {PD : PyData → Prop} {rd : PyData → (PyData → Prop) → Prop}
end
end DL
set_option maxHeartbeats 2000000
namespace DL
open PySem PySem.Spec PyProof.Rows L2

section
variable {X : Cx} {k n : Nat} {f : Addr} {fd : FuncData} {ps ks : List Str} {sp : Sp} {W : WX} {pins : List (Addr × Obj)} {s : Shared} {σ : L2.St} {H : Hp} {us ws ds : List Value} {vs zs dvs : List V} {Q : VK} {gg : List Value → List Value → List Value} {gV : List V → List V → List V}
end
section
variable {ι : Type} {X : Cx} {C f : ι → Addr} {n : Nat} {ks : List Str} {sp : ι → List V → List V → L2.St → Hp → VK → Prop} {m : Str} {o e : Expr} {es : List Expr} {kws : List Keyword} {pos apos : Pos} {ta : TE} {t tk : TA}
end
/-- a method whose last parameter is keyword-only, None by default -/
structure BindK (K : PySem.W.Frag) (fd : FuncData) (ps : List Str) (n : Nat) (kw : Str) : Prop where
  d : Binds K fd ps [.none]
  k : KBn K fd ps n [kw] (fun us ws => us ++ ws) (fun vs zs => vs ++ zs)
structure MDefK (P : Program) (w : World) (K : PySem.W.Frag) (mg : Str → Option Value) (base : Heap) (k : Nat) (C : Addr) (m : Str) (n : Nat) (kw : Str) (spec : Spec) : Prop where
  cl : Cls K C
  ex : ∃ f fd ps, FnG P w K mg base k f fd ps (spD K (n + 1) spec) ∧ Meth K C m f ∧ BindK K fd ps n kw
structure MDefKX (P : Program) (w : World) (K : PySem.W.Frag) (mg : Str → Option Value) (base : Heap) (k : Nat) (C : Addr) (m : Str) (n : Nat) (kw : Str) (spec : SpecX) : Prop where
  cl : Cls K C
  ex : ∃ f fd ps, FnX P w K mg base k f fd ps (spDX K mg (n + 1) spec) ∧ Meth K C m f ∧ BindK K fd ps n kw
theorem MDefK.mono {P : Program} {w : World} {K : PySem.W.Frag} {mg : Str → Option Value} {base : Heap} {k k' : Nat} {C : Addr} {m kw : Str} {n : Nat} {spec : Spec} (M : MDefK P w K mg base k C m n kw spec) (h : k ≤ k') : MDefK P w K mg base k' C m n kw spec := by
  obtain ⟨c, f, fd, ps, F, hm, hb⟩ := M
  exact ⟨c, f, fd, ps, F.mono h, hm, hb⟩
theorem MDefKX.mono {P : Program} {w : World} {K : PySem.W.Frag} {mg : Str → Option Value} {base : Heap} {k k' : Nat} {C : Addr} {m kw : Str} {n : Nat} {spec : SpecX} (M : MDefKX P w K mg base k C m n kw spec) (h : k ≤ k') : MDefKX P w K mg base k' C m n kw spec := by
  obtain ⟨c, f, fd, ps, F, hm, hb⟩ := M
  exact ⟨c, f, fd, ps, F.mono h, hm, hb⟩
section
variable {X : Cx} {E : En} {k n : Nat} {L : List (Addr × Spec)} {LX : List (Addr × SpecX)} {m kw : Str} {o e ek : Expr} {es : List Expr} {pos apos kpos : Pos} {do_ dk : DE} {da : DA} {W : XW}
end
section
variable {L : List (Addr × Spec)} {LX : List (Addr × SpecX)} {m : Str} {n : Nat} {do_ dk : DE} {da : DA} {W : XW} {env : Ev} {c : Ct} {P : Vl → Ct → Prop}
end
end DL
set_option maxHeartbeats 2000000
namespace DL
open PySem PySem.Spec PyProof.Rows L2
end DL
set_option maxHeartbeats 2000000
namespace DL
open PySem PySem.Spec PyProof.Rows L2
section
variable {X : Cx} {E : En} {a b : Expr} {da db : DE} {pos tpos p1 : Pos} {x : Str} {op : Operator} {f : Int → Int → Int}
end
section
variable {i : Nat} {f : Int → Int → Int} {di dv de : DE} {D : DEnds} {env : Ev} {c : Ct} {P : Vl → Ct → Prop}
end
end DL
set_option maxHeartbeats 2000000
namespace DL
open PySem PySem.Spec PyProof.Rows L2
end DL
set_option maxHeartbeats 2000000
namespace DL
open PySem PySem.Spec PyProof.Rows L2
section
variable {X : Cx} {E : En} {k n : Nat} {L : List (Addr × Spec)} {m kw : Str} {o e ek : Expr} {es : List Expr} {pos apos kpos : Pos} {do_ dk : DE} {da : DA}
end
section
variable {L : List (Addr × Spec)} {m : Str} {n : Nat} {do_ dk : DE} {da : DA} {env : Ev} {c : Ct} {P : Vl → Ct → Prop}
end
end DL
set_option maxHeartbeats 2000000
namespace HandSHeadRun
noncomputable section
open PySem PySem.W PySem.Calls PyProof.Rows
def TopIs {α : Type} (r : OpenRow) (M : Nat) (w : World) (f : SharedT → α) (v : α) : Prop := ∀ os : OsState, (endF (stepQ (denQ tabQ) r.prog w) M r.prog w os).map f = some v
theorem map_two {σ α β : Type} {o : Option σ} {f : σ → α} {g : σ → β} {a : α} {b : β} (h1 : o.map f = some a) (h2 : o.map g = some b) : o.map (fun s => (f s, g s)) = some (a, b) := by
  cases o with
  | none => cases h1
  | some s =>
    cases h1
    cases h2
    rfl
theorem TopIs.two {α β : Type} {r : OpenRow} {M : Nat} {w : World} {f : SharedT → α} {g : SharedT → β} {a : α} {b : β} (h1 : TopIs r M w f a) (h2 : TopIs r M w g b) : TopIs r M w (fun s => (f s, g s)) (a, b) := fun os => map_two (h1 os) (h2 os)
abbrev fLook (r : OpenRow) (w : World) (s : SharedT) : Bool := looksF r.prog (boot_heap w.params) s.abs
abbrev fSeen (r : OpenRow) (q : Program) (loose : List PySem.Str) (s : SharedT) := seenQ q loose (importedModules r.prog.main.body) (fun s => xlAt q [] s && recOk r.toRowW.records s) s.abs
theorem runEq_of {r : OpenRow} {q : Program} {H : Hook} {ob : SharedT → H.α} {M : Nat} {loose : List PySem.Str} {w : World} (h1 : TopIs r M w (fLook r w) true) (h2 : TopIs r M w (fSeen r q loose) (openGood q loose)) (h3 : TopIs r M w ob (H.val w)) : RunEq r q H ob M loose w :=
  TopIs.two h1 (TopIs.two h2 h3)
end
end HandSHeadRun
set_option maxHeartbeats 2000000
namespace DL
open PySem PySem.Spec PyProof.Rows L2
section
variable {X : Cx} {C : Addr} {bmB : List Value} {B newId initId : String}
end
section
variable {X : Cx} {E : En} {x : Str} {p pos pos' : Pos} {W : XW}
end
abbrev Tsl := List (Str × (Addr → List (Str × PyData) → DS))
section
variable {X : Cx} {E : En} {i : Nat} {l : Tsl} {tb : XW → DS} {bx n : Str} {C0 : Addr} {body suite : List Stmt} {b₀ : Stmt} {np pos pos' : Pos}
end
section
variable {X : Cx} {E : En} {k : Nat} {f : Addr} {fd : FuncData} {sp : Sp} {x : Str} {p pos : Pos} {spec : Spec}
end
end DL
namespace DL
open PySem PySem.Spec PyProof.Rows L2
abbrev leB : List Value := [.type "LookupError", .type "Exception", .type "BaseException", .type "object"]
section
open PySem.Builtin PySem.Builtin.ObjectAttr
variable {prog : Program} {w : World} {A : Around} {R : Result → Shared → Prop} {hp : Heap} {g : Array GenState} {d : Drawn} {t : Nat} {os : OsState}
end
/-- what the written part says of such a class -/
structure OexL (K : PySem.W.Frag) (C : Addr) : Prop where
  cls : ∃ nm q N bs bm sn sub ab col dd k0 k1 k2 k3 k5, K.lookup C = some (excClassObj nm q C N bs bm true sn sub ab col dd k0 k1 k2 k3 k5 "LookupError.__new__") ∧ PySem.W.excTail leB bm = true
  sa : PySem.W.findIn K (.ref C) "__setattr__" = some (some (.builtin "object.__setattr__"))
  exC : PySem.W.subIn K (.ref C) (.type "BaseException") = some true
  tyC : PySem.W.typeIn K (.ref C) = some (.type "type")
  kC : PySem.W.keepIn K (.ref C) = true
theorem OexL.two {K : PySem.W.Frag} {C : Addr} (T : OexL K C) : PySem.W.excOver K C leB = true ∧ PySem.W.hasDictIn K C = true := by
  obtain ⟨nm, q, N, bs, bm, sn, sub, ab, col, dd, k0, k1, k2, k3, k5, hC, hbm⟩ := T.cls
  have e : PySem.W.clsIn K C = some { name := nm, bases := bs, mro := .ref C :: bm, ns := N, qualname := q, hasDict := true, slotNames := sn, subclasses := sub, abstract := ab, collection := col, hasDel := false } := by
    unfold PySem.W.clsIn
    rw [hC] <;> rfl
  refine ⟨?_, ?_⟩
  · unfold PySem.W.excOver
    rw [e]
    show ((C == C) && PySem.W.excTail leB bm) = true
    rw [hbm, beq_self_eq_true]
    rfl
  · unfold PySem.W.hasDictIn
    rw [e] <;> rfl
section
variable {X : Cx} {pins : List (Addr × Obj)} {σ : L2.St} {H : Hp} {s : Shared} {a C : Addr} {fld : Str} {y : V} {u : Value} {Q : Unit → Shared → Prop} {E : Value → Shared → Prop} {A : Around}
end
section
variable {X : Cx} {o e : Expr} {es : List Expr} {to te : TE} {ta : TA} {f : Str} {p p' pos : Pos}
end
section
variable {P : Program} {w : World} {K : PySem.W.Frag} {mg : Str → Option Value} {base : Heap}
end
section
variable {X : Cx} {E : En} {x f : Str} {p pos pos' : Pos} {e : Expr} {da : DE} {W : XW} {k : Nat}
end
end DL
set_option maxHeartbeats 2000000
namespace DL
open PySem PySem.Spec PyProof.Rows L2
def keepN {α : Type} (n : Nat) (k : Nat → α) : α := match n with
  | 0 => k 0
  | m + 1 => k (m + 1)
theorem keepN_eq {α : Type} (n : Nat) (k : Nat → α) : keepN n k = k n := by cases n <;> rfl
def bitIn (m a : Nat) : Bool := Nat.beq (Nat.mod (Nat.shiftRight m a) 2) 1
def bitAdd (m a : Nat) : Nat := Nat.lor m (Nat.shiftLeft 1 a)
/-- those of the list that are new -/
def newB {α : Type} (k : Nat → List Addr → α) : List Addr → Nat → List Addr → α
  | [], m, acc => k m acc
  | a :: r, m, acc => keepN a fun a => match bitIn m a with
    | true => newB k r m acc
    | false => keepN (bitAdd m a) fun m => newB k r m (a :: acc)
/-- what the objects of a level name -/
def lvlB {α : Type} (g : Addr → Option Obj) (k : Nat → List Addr → α) : List Addr → Nat → List Addr → α
  | [], m, acc => k m acc
  | a :: r, m, acc => match g a with
    | some o => newB (fun m acc => lvlB g k r m acc) (He.refsD o) m acc
    | none => lvlB g k r m acc
def bfsB {α : Type} (g : Addr → Option Obj) (k : List Addr → α) : Nat → List Addr → Nat → List Addr → α
  | 0, _, _, all => k all
  | n + 1, fr, m, all => lvlB g (fun m new => bfsB g k n new m (new ++ all)) fr m []
/-- the objects at the addresses -/
def fragB {α : Type} (g : Addr → Option Obj) (k : PySem.W.Frag → α) : List Addr → PySem.W.Frag → α
  | [], K => k K
  | a :: r, K => match g a with
    | some o => fragB g k r ((a, o) :: K)
    | none => fragB g k r K
theorem newB_is {α : Type} {Φ : α → Prop} {k : Nat → List Addr → α} (h : ∀ m acc, Φ (k m acc)) : ∀ (l : List Addr) (m : Nat) (acc : List Addr), Φ (newB k l m acc)
  | [], m, acc => h m acc
  | a :: r, m, acc => by
    unfold newB
    rw [keepN_eq]
    cases bitIn m a with
    | true => exact newB_is h r m acc
    | false =>
      show Φ (keepN (bitAdd m a) fun m => newB k r m (a :: acc))
      rw [keepN_eq]
      exact newB_is h r _ _
theorem lvlB_is {α : Type} {Φ : α → Prop} {g : Addr → Option Obj} {k : Nat → List Addr → α} (h : ∀ m acc, Φ (k m acc)) : ∀ (l : List Addr) (m : Nat) (acc : List Addr), Φ (lvlB g k l m acc)
  | [], m, acc => h m acc
  | a :: r, m, acc => by
    unfold lvlB
    cases g a with
    | none => exact lvlB_is h r m acc
    | some o => exact newB_is (fun m acc => lvlB_is h r m acc) _ _ _
theorem bfsB_is {α : Type} {Φ : α → Prop} {g : Addr → Option Obj} {k : List Addr → α} (h : ∀ all, Φ (k all)) : ∀ (n : Nat) (fr : List Addr) (m : Nat) (all : List Addr), Φ (bfsB g k n fr m all)
  | 0, _, _, all => h all
  | n + 1, fr, m, all => lvlB_is (fun m new => bfsB_is h n new m _) fr m []
def Holds (g : Addr → Option Obj) (K : PySem.W.Frag) : Prop := ∀ a o, K.lookup a = some o → g a = some o
theorem fragB_is {α : Type} {Φ : α → Prop} {g : Addr → Option Obj} {k : PySem.W.Frag → α} (h : ∀ K, Holds g K → Φ (k K)) : ∀ (l : List Addr) (K : PySem.W.Frag), Holds g K → Φ (fragB g k l K)
  | [], K, hK => h K hK
  | a :: r, K, hK => by
    unfold fragB
    cases e : g a with
    | none => exact fragB_is h r K hK
    | some o =>
      refine fragB_is h r _ fun b o2 hb => ?_
      rw [List.lookup_cons] at hb
      cases q : b == a with
      | true =>
        rw [q] at hb
        cases hb
        rw [beq_iff_eq.mp q]
        exact e
      | false =>
        rw [q] at hb
        exact hK b o2 hb
end DL
namespace DL
open PySem PySem.Spec PyProof.Rows L2
section
variable {X : Cx} {body : List Stmt} {h0 : ExceptHandler} {hds : List ExceptHandler} {pos : Pos} {tb : WX → TS}
end
abbrev TrE := Str × Option Nat × (Addr → List (Str × PyData) → DS)
section
variable {X : Cx} {E : En} {l : List TrE} {tb : XW → DS} {body : List Stmt} {h0 : ExceptHandler} {hds : List ExceptHandler} {pos : Pos}
end
end DL
set_option maxHeartbeats 2000000
namespace DL
open PySem PySem.Spec PyProof.Rows L2
open He (ba ga)
end DL
set_option maxHeartbeats 2000000
namespace DL
open PySem PySem.Spec PyProof.Rows L2
section
variable {x : Str} {fs : List (Str × PyData)} {env : Ev} {c : Ct} {l : List TrE} {P : Vl → Ct → Prop} {DD : DEnds}
end
end DL
set_option maxHeartbeats 2000000
namespace DL
open PySem PySem.Spec PyProof.Rows L2
section
variable {X : Cx} {E : En} {o a : Expr} {do_ da : DE} {p2 p3 : Pos}
end
end DL
set_option maxHeartbeats 2000000
namespace DL
open PySem PySem.Spec PyProof.Rows L2
section
variable {X : Cx} {E : En} {a b : Expr} {da db : DE} {pos : Pos} {k : Nat} {A' : Around}
end
end DL
set_option maxHeartbeats 2000000
namespace DL
open PySem PySem.Spec PyProof.Rows L2
end DL
set_option maxHeartbeats 2000000
namespace DL
open PySem PySem.Spec PyProof.Rows L2
end DL
set_option maxHeartbeats 2000000
namespace DL
open PySem PySem.Spec PyProof.Rows L2
section
variable {X : Cx} {E : En} {o1 o2 value : Expr} {f h : Str} {pos p1 p2 p3 : Pos} {de1 de2 dv : DE} {Cs : List Addr} {kk : Nat}
end
end DL
set_option maxHeartbeats 2000000
namespace DL
open PySem PySem.Spec PyProof.Rows L2
section
variable {X : Cx} {E : En} {a : Expr} {da : DE} {pos p p2 p3 tpos : Pos} {x1 x2 : Str} {T1 T2 : String} {kk : Nat} {f : PyData → Bool}
end
section
variable {X : Cx} {E : En} {a : Expr} {da : DE} {pos p2 : Pos} {x : Str} {l : List (Str × Int)}
end
abbrev AlOT : Type := AlO × List (Option (List (Option (Str × Int))))
def obsOT (cs : List Ck) (fn : List He5.DefA) (ts : List He.Tab) (K : PySem.W.Frag) : AlOT := (obsO cs fn K, ts.map fun t => He.dicW K (t.1 K))
def valOT (fn : List He5.DefA) (ts : List He.Tab) (w : World) : AlOT := (valO fn, ts.map fun t => some (He.keysIn w.params t.2))
def SaysOT (cs : List Ck) (fn : List He5.DefA) (ts : List He.Tab) (w : World) (K : PySem.W.Frag) : Prop := obsOT cs fn ts K = valOT fn ts w
section
variable {cs : List Ck} {fn : List He5.DefA} {ts : List He.Tab} {w : World} {K : PySem.W.Frag}
theorem SaysOT.o (c : SaysOT cs fn ts w K) : SaysO cs fn K := congrArg (fun z : AlOT => z.1) c
end
end DL
set_option maxHeartbeats 2000000
namespace DL
open PySem PySem.Spec PyProof.Rows L2
section
variable {P : Program} {w : World} {K : PySem.W.Frag} {mg : Str → Option Value} {base : Heap}
end
end DL
set_option maxHeartbeats 2000000
namespace HandSHeadRun
noncomputable section
open PySem PySem.W PySem.Calls PyProof.Rows
/-- a look at a pair, told one half after the other -/
theorem TopIs.pair {α β : Type} {r : OpenRow} {M : Nat} {w : World} {f : SharedT → α × β} {v : α × β} (h1 : TopIs r M w (fun s => (f s).1) v.1) (h2 : TopIs r M w (fun s => (f s).2) v.2) : TopIs r M w f v := TopIs.two h1 h2
end
end HandSHeadRun
namespace DL
open PySem PySem.Spec PyProof.Rows L2
abbrev AlO2 : Type := Bool × AlOT
def obsO2 (ca cb : List Ck) (fn : List He5.DefA) (ts : List He.Tab) (K : PySem.W.Frag) : AlO2 := (ckAll ca K, obsOT cb fn ts K)
def valO2 (fn : List He5.DefA) (ts : List He.Tab) (w : World) : AlO2 := (true, valOT fn ts w)
def SaysO2 (ca cb : List Ck) (fn : List He5.DefA) (ts : List He.Tab) (w : World) (K : PySem.W.Frag) : Prop := obsO2 ca cb fn ts K = valO2 fn ts w
theorem SaysO2.t {ca cb : List Ck} {fn : List He5.DefA} {ts : List He.Tab} {w : World} {K : PySem.W.Frag} (c : SaysO2 ca cb fn ts w K) : SaysOT (ca ++ cb) fn ts w K := by
  have c1 : ckAll ca K = true := congrArg (fun z : AlO2 => z.1) c
  have c2 : obsOT cb fn ts K = valOT fn ts w := congrArg (fun z : AlO2 => z.2) c
  have e : obsOT (ca ++ cb) fn ts K = obsOT cb fn ts K := by
    have c3 : ckAll (ca ++ cb) K = ckAll cb K := by
      show (ca ++ cb).all _ = cb.all _
      rw [List.all_append, show ca.all (fun c => c K) = true from c1, Bool.true_and]
    show ((ckAll (ca ++ cb) K && _, _), _) = ((ckAll cb K && _, _), _)
    rw [c3]
  exact e.trans c2
end DL
set_option maxHeartbeats 2000000
namespace DL
open PySem PySem.Spec PyProof.Rows L2
section
variable {X : Cx} {E : En} {a : Expr} {pos : Pos}
end
section
variable {X : Cx} {E : En} {o e : Expr} {da db : DE} {pos apos : Pos}
end
section
variable {dr : DA} {env : Ev} {c : Ct} {PF : List PyData → Ct → Prop} {PD : PyData → Prop} {a b : Str} {k0 : Int}
end
section
variable {PD : PyData → Prop}
end
section
variable {X : Cx} {E : En} {l : List TrE} {tb : XW → DS} {body : List Stmt} {h0 : ExceptHandler} {hds : List ExceptHandler} {pos : Pos}
end
section
variable {DD : DEnds} {env : Ev} {c : Ct} {l : List TrE} {tb : XW → DS} {x : Str} {fs : List (Str × PyData)} {ts : Addr → List (Str × PyData) → DS}
end
end DL
set_option maxHeartbeats 2000000
namespace PySem
namespace HandSPX
section
variable {M : Model} {A : Around} {E : Value → Shared → Prop} {s : Shared} {Z : Obj → Prop} {base : Heap} {env : Env} {outer l : List Env} {L L' e : Addr}
end
end HandSPX
end PySem
namespace L2
open PySem PySem.Spec PyProof.Rows
end L2
namespace L2
open PySem PySem.Spec PyProof.Rows
section
variable {X : Cx} {pins : List (Addr × Obj)} {σ : St} {H : Hp} {s : Shared}
end
end L2
namespace DL
open PySem PySem.Spec PyProof.Rows L2
section
variable {X : Cx} {E : En} {tg a elt : Expr} {pos : Pos} {Px : Xd}
end
section
variable {P : Program} {w : World} {K : PySem.W.Frag} {mg : Str → Option Value} {base : Heap}
end
end DL
set_option maxHeartbeats 2000000
namespace DL
open PySem PySem.Spec PyProof.Rows L2
section
variable {X : Cx} {E : En} {W : XW} {b₀ f₀ : Stmt} {bs fs : List Stmt} {pos : Pos} {tb : XW → DS} {df : DS}
end
end DL
set_option maxHeartbeats 2000000
namespace DL
open PySem PySem.Spec PyProof.Rows L2

section
variable {X : Cx} {C f : Addr} {sp : List V → L2.St → Hp → VK → Prop} {m x : Str} {e : Expr} {es : List Expr} {p pos apos : Pos} {t : TA}
end
section
variable {X : Cx} {E : En} {k n : Nat} {spec : Spec} {spx : SpecX} {m x : Str} {e : Expr} {es : List Expr} {p pos apos : Pos} {da : DA} {W : XW}
end
section
variable {X : Cx} {E : En} {a : Expr} {da : DE} {pos : Pos}
end
section
variable {X : Cx} {E : En} {es : List Expr} {b : Expr} {da : DA} {di : DE} {pos pos2 : Pos}
end
section
variable {X : Cx} {E : En} {a : Expr} {da : DE} {pos p p2 : Pos} {x : Str} {L : List (Addr × Bool)}
end
end DL
set_option maxHeartbeats 2000000
namespace DL
open PySem PySem.Spec PyProof.Rows L2

section
variable {prog : Program} {w : World} {A : Around} {E : Value → Shared → Prop} {s : Shared} {K : PySem.W.Frag} {x y C D f L : Addr} {h₀ : Heap} {m : Str → Option Value} {ox oy : Obj} {od od' : Option Obj}
end
section
variable {X : Cx} {ι : Type} {C f : ι → Addr} {sp : ι → Sp}
end
section
variable {X : Cx} {E : En} {k : Nat} {L : List (Addr × Spec)} {LC : List Addr} {a b : Expr} {da db : DE} {pos : Pos}
end
open He (eqO eqO_ok ba ga ma)
end DL
set_option maxHeartbeats 2000000
namespace DL
open PySem PySem.Spec PyProof.Rows L2
/-- a log: how many were noted, the last ones -/
structure LgS where
  k : Int
  ls : List Str
  h : ls.length ≤ 8
/-- no log, or this one -/
abbrev Lg := Option LgS
section
variable {Z : Str → Addr} {g : Lg} {b b' : Bool} {n : Nat} {sts es x : List PyData} {A : Prop} {m : Str} {k : Fv → Prop} {α : Type} {s : α} {kk : α → Prop}
end
end DL
set_option maxHeartbeats 2000000
namespace DL
open PySem PySem.Spec PyProof.Rows L2
section
variable {X : Cx} {E : En} {a : Expr} {da : DE} {pos : Pos} {L : List Addr}
end
end DL
set_option maxHeartbeats 2000000
namespace DL
open PySem PySem.Spec PyProof.Rows L2
abbrev AlO4 : Type := Bool × (Bool × (Bool × AlOT))
def obsO4 (ca cb cc : List Ck) (fn : List He5.DefA) (ts : List He.Tab) (K : PySem.W.Frag) : AlO4 := (ckAll ca K, (ckAll cb K, (ckAll cc K, obsOT [] fn ts K)))
def valO4 (fn : List He5.DefA) (ts : List He.Tab) (w : World) : AlO4 := (true, (true, (true, valOT fn ts w)))
def SaysO4 (ca cb cc : List Ck) (fn : List He5.DefA) (ts : List He.Tab) (w : World) (K : PySem.W.Frag) : Prop := obsO4 ca cb cc fn ts K = valO4 fn ts w
theorem SaysO4.t {ca cb cc : List Ck} {fn : List He5.DefA} {ts : List He.Tab} {w : World} {K : PySem.W.Frag} (c : SaysO4 ca cb cc fn ts w K) : SaysOT (ca ++ (cb ++ cc)) fn ts w K := by
  have c1 : ckAll ca K = true := congrArg (fun z : AlO4 => z.1) c
  have c2 : ckAll cb K = true := congrArg (fun z : AlO4 => z.2.1) c
  have c3 : ckAll cc K = true := congrArg (fun z : AlO4 => z.2.2.1) c
  have c4 : obsOT [] fn ts K = valOT fn ts w := congrArg (fun z : AlO4 => z.2.2.2) c
  have e : obsOT (ca ++ (cb ++ cc)) fn ts K = obsOT [] fn ts K := by
    have c5 : ckAll (ca ++ (cb ++ cc)) K = ckAll [] K := by
      show (ca ++ (cb ++ cc)).all _ = true
      rw [List.all_append, List.all_append, show ca.all (fun c => c K) = true from c1, show cb.all (fun c => c K) = true from c2, show cc.all (fun c => c K) = true from c3]
      rfl
    show ((ckAll (ca ++ (cb ++ cc)) K && _, _), _) = ((ckAll [] K && _, _), _)
    rw [c5]
  exact e.trans c4
end DL
set_option maxHeartbeats 2000000
namespace DL
open PySem PySem.Spec PyProof.Rows L2
structure FnXN (P : Program) (w : World) (K : PySem.W.Frag) (mg : Str → Option Value) (base : Heap) (k : Nat) (f : Addr) (fd : FuncData) (ps : List Str) (sp : Sp) : Prop where
  len : ∀ vs H Q E, sp vs H Q E → vs.length = ps.length
  run : ∀ (A : Around) (outer : List Env) (s : Shared) (H : Hp) (ag : Args) (us : List Value) (vs : List V) (Q : VK) (E : XK), Room k A → A.guards = some [] → Env0 P w K mg base A outer s H → BindsTo s fd ag (ps.zip us) → Vals vs us → sp vs H Q E →
    codeAny (model P w) A (.call (.ref f) ag) (CR (L2N.CX P w) outer P w H s Q E) s
section
variable {P : Program} {w : World} {K : PySem.W.Frag} {mg : Str → Option Value} {base : Heap}
end
section
variable {X : Cx} {k : Nat} {f : Addr} {fd : FuncData} {ps : List Str} {sp : Sp} {x : Str} {p pos : Pos} {e : Expr} {es : List Expr} {t : TA} {W : WX}
end
section
variable {X : Cx} {E : En} {k n : Nat} {spec : SpecX} {x : Str} {p pos : Pos} {e : Expr} {es : List Expr} {dr : DA} {W : XW}
end
section
variable {P : Program} {w : World} {K : PySem.W.Frag} {mg : Str → Option Value} {base : Heap}
end
section
variable {X : Cx} {k : Nat} {f C : Addr} {fd : FuncData} {ps : List Str} {sp : Sp} {W : WX} {pins : List (Addr × Obj)} {s : Shared} {σ : L2.St} {H : Hp} {us : List Value} {vs : List V} {Q : VK}
end
structure MDefXN (P : Program) (w : World) (K : PySem.W.Frag) (mg : Str → Option Value) (base : Heap) (k : Nat) (C : Addr) (m : Str) (n : Nat) (spec : SpecX) : Prop where
  cl : Cls K C
  ex : ∃ f fd ps, FnXN P w K mg base k f fd ps (spDX K mg n spec) ∧ Meth K C m f ∧ Binds K fd ps []
section
variable {X : Cx} {E : En} {k n : Nat} {L : List (Addr × Spec)} {LX : List (Addr × SpecX)} {m : Str} {o e : Expr} {es : List Expr} {pos apos : Pos} {do_ : DE} {da : DA} {W : XW}
end
section
variable {P : Program} {w : World} {K : PySem.W.Frag} {mg : Str → Option Value} {base : Heap}
end
section
variable {X : Cx} {o e : Expr} {es : List Expr} {to te : TE} {ta : TA} {f : Str} {p p' pos : Pos}
end
section
variable {X : Cx} {E : En} {x f : Str} {p pos pos' : Pos} {e : Expr} {da : DE} {W : XW} {k : Nat}
end
section
variable {X : Cx} {C : Addr} {bmB : List Value} {B newId initId : String}
end
section
variable {X : Cx} {E : En} {x : Str} {p pos pos' : Pos} {W : XW}
end
section
variable {P : Program} {w : World} {K : PySem.W.Frag} {mg : Str → Option Value} {base : Heap}
theorem FnXN.mono {j k : Nat} {f : Addr} {fd : FuncData} {ps : List Str} {sp : Sp} (F : FnXN P w K mg base j f fd ps sp) (h : j ≤ k) : FnXN P w K mg base k f fd ps sp :=
  ⟨F.len, fun A outer s H ag us vs Q E hr => F.run A outer s H ag us vs Q E (hr.mono h)⟩
theorem MDefXN.mono {k k' n : Nat} {C : Addr} {m : Str} {spec : SpecX} (M : MDefXN P w K mg base k C m n spec) (h : k ≤ k') : MDefXN P w K mg base k' C m n spec := by
  obtain ⟨c, f, fd, ps, F, r⟩ := M
  exact ⟨c, f, fd, ps, F.mono h, r⟩
end
end DL
namespace DL
open PySem PySem.Spec PyProof.Rows L2
section
variable {X : Cx} {body : List Stmt} {h0 : ExceptHandler} {hds : List ExceptHandler} {pos : Pos} {tb : WX → TS} {Wout : WX}
end
section
variable {X : Cx} {E : En} {W : XW} {l : List TrE} {tb : XW → DS} {body : List Stmt} {h0 : ExceptHandler} {hds : List ExceptHandler} {pos : Pos}
end
section
variable {X : Cx} {E : En} {x f : Str} {p pos pos' : Pos} {e : Expr} {da : DE} {W : XW}
end
end DL
set_option maxHeartbeats 2000000
namespace DL
open PySem PySem.Spec PyProof.Rows L2
section
variable {P : Program} {w : World} {K : PySem.W.Frag} {mg : Str → Option Value} {base : Heap}
end
end DL
set_option maxHeartbeats 2000000
namespace DL
open PySem PySem.Spec PyProof.Rows L2
section
variable {prog : Program} {w : World} {A : Around} {E : Value → Shared → Prop} {s : Shared} {K : PySem.W.Frag} {x y C D f L : Addr} {h₀ : Heap} {m : Str → Option Value} {ox oy : Obj} {od od' : Option Obj} {name : Str} {id : String}
end
end DL
set_option maxHeartbeats 2000000
namespace DL
open PySem PySem.Spec PyProof.Rows L2
section
variable {prog : Program} {w : World} {A : Around} {E : Value → Shared → Prop} {s : Shared} {K : PySem.W.Frag} {x y C D f L : Addr} {h₀ : Heap} {m : Str → Option Value} {ox oy : Obj} {od od' : Option Obj}
end
section
variable {X : Cx} {ι : Type} {k : Nat} {C f : ι → Addr} {fd : ι → FuncData} {ps : ι → List Str} {sp : ι → Sp}
end
section
variable {X : Cx} {E : En} {k : Nat} {L : List (Addr × Spec)} {LC : List Addr} {a b : Expr} {da db : DE} {pos : Pos}
end
open He (eqO eqO_ok ba ga ma)
end DL
set_option maxHeartbeats 2000000
namespace DL
open PySem PySem.Spec PyProof.Rows L2
/-- what is handled has a context that has none -/
def Hot2 (A : Around) (x1 e : Addr) (h : Heap) : Prop := A.handled = some (.ref x1) ∧ (∃ (o1 : Obj) (vs1 : Array Value), h.get? x1 = some o1 ∧ o1.data = .fields vs1 ∧ vs1[2]? = some (.ref e)) ∧ ∃ (o2 : Obj) (vs2 : Array Value), h.get? e = some o2 ∧ o2.data = .fields vs2 ∧ vs2[2]? = some .none
section
variable {prog : Program} {w : World} {A : Around} {E : Value → Shared → Prop} {s : Shared}
end
/-- the context holds what is handled and its context -/
def Hot2C (X : Cx) : Prop := ∃ p q : Addr × Obj, p ∈ X.pn ∧ q ∈ X.pn ∧ X.A.handled = some (.ref p.1) ∧ (∃ vs1 : Array Value, p.2.data = .fields vs1 ∧ vs1[2]? = some (.ref q.1)) ∧ ∃ vs2 : Array Value, q.2.data = .fields vs2 ∧ vs2[2]? = some .none
theorem Hot2C.at {X : Cx} {pins : List (Addr × Obj)} {σ : L2.St} {H : Hp} {s : Shared} (c : Hot2C X) (I : L2.Inv X pins σ H s) : ∃ x1 e, Hot2 X.A x1 e s.heap := by
  obtain ⟨p, q, hp, hq, hh, ⟨vs1, d1, c1⟩, vs2, d2, c2⟩ := c
  exact ⟨p.1, q.1, hh, ⟨p.2, vs1, (I.pin p (List.mem_append_left _ hp)).1, d1, c1⟩, q.2, vs2, (I.pin q (List.mem_append_left _ hq)).1, d2, c2⟩
end DL
namespace DL
open PySem PySem.Spec PyProof.Rows L2
/-- the context stands in the ground B -/
def CtxB (B : Heap) (H : Hp) (vs : Array Value) : Prop := ∃ (e : Addr) (o2 : Obj) (vs2 : Array Value), vs[2]? = some (.ref e) ∧ B.get? e = some o2 ∧ H e = none ∧ o2.data = .fields vs2 ∧ vs2[2]? = some .none
def Zx (B : Heap) (H : Hp) (cls : Value) (d : Option Addr) : Obj → Prop := fun o => (o.cls = cls ∧ o.dict = d) ∧ ∀ vs : Array Value, o.data = .fields vs → CtxB B H vs
def XE2 (X : Cx) (W : WX) (u : Value) (s' : Shared) : Prop :=
  ∃ (a : Addr) (B : Heap) (sI : Shared) (pins : List (Addr × Obj)) (σ : L2.St) (H : Hp) (cls : Value) (d : Option Addr),
    u = .ref a ∧ L2.Inv X pins σ H sI ∧ (∀ b o, sI.heap.get? b = some o → b ∉ frs X.stack → B.get? b = some o) ∧ sI.heap.UpToSlots s'.heap ∧
      Sky B X.stack a (Zx B H cls d) X.env.locals s'.heap ∧ H a = none ∧ s'.os = sI.os ∧ AllBare s'.gens ∧ W cls d σ H
def Takes2 (X : Cx) (W : WX) : Prop := ∀ u s', XE2 X W u s' → X.xe u s'
theorem Takes2.imp {X : Cx} {W W' : WX} (t : Takes2 X W) (h : ∀ c d σ H, W' c d σ H → W c d σ H) : Takes2 X W' := fun u s' z => by
  obtain ⟨a, B, sI, pins, σ, H, cls, d, z1, z2, z3, z4, z5, z6, z7, z8, z9⟩ := z
  exact t u s' ⟨a, B, sI, pins, σ, H, cls, d, z1, z2, z3, z4, z5, z6, z7, z8, h _ _ _ _ z9⟩
def CX2 (P : Program) (w : World) (outer : List Env) (H : Hp) (s : Shared) (E : XK) (u : Value) (s' : Shared) : Prop :=
  ∃ (a : Addr) (B : Heap) (H' : Hp) (cls : Value) (d : Option Addr), u = .ref a ∧ HandSPX.FlyingZ B outer a (Zx B H' cls d) s'.heap ∧ HOk P w H' B ∧ UB (frs outer) H H' s.heap B s'.heap ∧ H' a = none ∧ s'.os = s.os ∧ AllBare s'.gens ∧ E cls d H'
section
variable {X : Cx} {pins : List (Addr × Obj)} {σ : L2.St} {H : Hp} {sI s s' : Shared} {B : Heap} {W : WX} {E : XK}
end
end DL
namespace DL
open PySem PySem.Spec PyProof.Rows L2
section
variable {X : Cx} {f₀ : Stmt} {fs : List Stmt} {tfs : TS} {Wout : WX}
end
end DL
namespace DL
open PySem PySem.Spec PyProof.Rows L2
structure FnX_2 (P : Program) (w : World) (K : PySem.W.Frag) (mg : Str → Option Value) (base : Heap) (k : Nat) (f : Addr) (fd : FuncData) (ps : List Str) (sp : Sp) : Prop where
  len : ∀ vs H Q E, sp vs H Q E → vs.length = ps.length
  run : ∀ (A : Around) (outer : List Env) (s : Shared) (H : Hp) (ag : Args) (us : List Value) (vs : List V) (Q : VK) (E : XK), Room k A → A.guards = some [] → Env0 P w K mg base A outer s H → BindsTo s fd ag (ps.zip us) → Vals vs us → sp vs H Q E →
    codeAny (model P w) A (.call (.ref f) ag) (CR (CX2 P w) outer P w H s Q E) s
section
variable {P : Program} {w : World} {K : PySem.W.Frag} {mg : Str → Option Value} {base : Heap}
end
section
variable {P : Program} {w : World} {K : PySem.W.Frag} {mg : Str → Option Value} {base : Heap}
end
section
variable {X : Cx} {k : Nat} {f C : Addr} {fd : FuncData} {ps : List Str} {sp : Sp} {W : WX} {pins : List (Addr × Obj)} {s : Shared} {σ : L2.St} {H : Hp} {us : List Value} {vs : List V} {Q : VK}
end
structure MDefX_2 (P : Program) (w : World) (K : PySem.W.Frag) (mg : Str → Option Value) (base : Heap) (k : Nat) (C : Addr) (m : Str) (n : Nat) (spec : SpecX) : Prop where
  cl : Cls K C
  ex : ∃ f fd ps, FnX_2 P w K mg base k f fd ps (spDX K mg n spec) ∧ Meth K C m f ∧ Binds K fd ps []
section
variable {X : Cx} {E : En} {k n : Nat} {L : List (Addr × Spec)} {LX : List (Addr × SpecX)} {m : Str} {o e : Expr} {es : List Expr} {pos apos : Pos} {do_ : DE} {da : DA} {W : XW}
end
section
variable {P : Program} {w : World} {K : PySem.W.Frag} {mg : Str → Option Value} {base : Heap}
theorem FnX_2.mono {j k : Nat} {f : Addr} {fd : FuncData} {ps : List Str} {sp : Sp} (F : FnX_2 P w K mg base j f fd ps sp) (h : j ≤ k) : FnX_2 P w K mg base k f fd ps sp :=
  ⟨F.len, fun A outer s H ag us vs Q E hr => F.run A outer s H ag us vs Q E (hr.mono h)⟩
theorem MDefX_2.mono {k k' n : Nat} {C : Addr} {m : Str} {spec : SpecX} (M : MDefX_2 P w K mg base k C m n spec) (h : k ≤ k') : MDefX_2 P w K mg base k' C m n spec := by
  obtain ⟨c, f, fd, ps, F, r⟩ := M
  exact ⟨c, f, fd, ps, F.mono h, r⟩
end
section
variable {X : Cx} {body : List Stmt} {h0 : ExceptHandler} {hds : List ExceptHandler} {pos : Pos} {tb : WX → TS} {Wout : WX}
end
section
variable {X : Cx} {E : En} {W : XW} {l : List TrE} {tb : XW → DS} {body : List Stmt} {h0 : ExceptHandler} {hds : List ExceptHandler} {pos : Pos}
end
section
variable {X : Cx} {E : En} {x f : Str} {p pos pos' : Pos} {e : Expr} {da : DE} {W : XW}
end
section
variable {X : Cx} {E : En} {W : XW} {b₀ f₀ : Stmt} {bs fs : List Stmt} {pos : Pos} {tb : XW → DS} {df : DS}
end
section
variable {X : Cx} {E : En} {o1 o2 value : Expr} {f h : Str} {pos p1 p2 p3 : Pos} {de1 de2 dv : DE} {Cs : List Addr} {kk : Nat}
end
end DL
set_option maxHeartbeats 2000000
namespace DL
open PySem PySem.Spec PyProof.Rows L2
section
variable {X : Cx} {E : En} {o e : Expr} {da db : DE} {pos apos : Pos}
end
section
variable {X : Cx} {d : Addr} {es : Array DictEntry} {n : Nat} {o e f : Expr} {apos cpos : Pos} {td ty tx : TE}
end
section
variable {X : Cx} {E : En} {a b : Expr} {da db : DE} {pos p2 apos : Pos} {x : Str} {l : List (Str × Int)}
end
end DL
set_option maxHeartbeats 2000000
namespace DL
open PySem PySem.Spec PyProof.Rows L2
section
variable {PD : PyData → Prop}
end
end DL
set_option maxHeartbeats 2000000
namespace DL
open PySem PySem.Spec PyProof.Rows L2
section
variable {K : PySem.W.Frag} {E : En} {g : Gh} {env : Ev} {c : Ct} {σ : L2.St} {H : Hp}
end
abbrev D3 := List PyData → PyData → PyData → Ct → Prop
abbrev DS3 := D3 → Ev → Ct → Prop
section
variable {X : Cx} {E : En} {st : Stmt} {rest : List Stmt} {t : DS} {u : DS3} {pos : Pos}
end
section
variable {P : Program} {w : World} {K : PySem.W.Frag} {mg : Str → Option Value} {base : Heap}
end
end DL
set_option maxHeartbeats 2000000
namespace DL
open PySem PySem.Spec PyProof.Rows L2
section
variable {i : Nat} {de : DE} {dt : DT} {df : DF} {D : DEnds} {env : Ev} {c : Ct} {P : Vl → Ct → Prop} {PB : Bool → Ct → Prop} {PL : List PyData → Ct → Prop}
end
end DL
set_option maxHeartbeats 2000000
namespace DL
open PySem PySem.Spec PyProof.Rows L2
end DL
set_option maxHeartbeats 2000000
namespace L2
open PySem PySem.Spec PyProof.Rows
end L2
namespace DL
open PySem PySem.Spec PyProof.Rows L2
section
variable {K : PySem.W.Frag} {E : En} {g g' : Gh} {env : Ev} {c : Ct} {σ : L2.St} {H H' : Hp}
end
theorem int_inj : ∀ {a b : List Int}, a.map PyData.int = b.map PyData.int → a = b
  | [], [], _ => rfl
  | [], _ :: _, h => by cases h
  | _ :: _, [], h => by cases h
  | x :: a, y :: b, h => by
    rw [List.map_cons, List.map_cons] at h
    injection h with h1 h2
    injection h1 with h1
    rw [h1, int_inj h2]
theorem entF_inj : ∀ {a b : List (List Int × Int)}, a.map entF = b.map entF → a = b
  | [], [], _ => rfl
  | [], _ :: _, h => by cases h
  | _ :: _, [], h => by cases h
  | x :: a, y :: b, h => by
    rw [List.map_cons, List.map_cons] at h
    injection h with h1 h2
    obtain ⟨k, v⟩ := x
    obtain ⟨k', v'⟩ := y
    unfold entF at h1
    injection h1 with h1
    injection h1 with h1
    injection h1 with h3 h1
    injection h1 with h1 _
    injection h1 with h1
    injection h3 with h3
    have h3 := int_inj h3
    have h1 : v = v' := h1
    have h3 : k = k' := h3
    rw [h1, h3, entF_inj h2]
section
variable {X : Cx} {E : En} {pos pos' : Pos} {o b e : Expr} {de db da : DE} {kk : Nat}
theorem Rel.dict {K : PySem.W.Frag} {E : En} {g : Gh} {env : Ev} {c : Ct} {σ : L2.St} {H : Hp} (r : Rel K E g env c σ H) {a : Addr} {kv : List (List Int × Int)} (h : c.ls a = some (kv.map entF)) : H a = some (.dT (kv.map entH)) := by
  obtain ⟨_, _, _, xs, e, kv', e1, e2⟩ := r.dk.ob.li a _ h
  rw [e, e1, entF_inj e2]
end
section
variable {X : Cx} {E : En} {a b e : Expr} {da db : DE} {pos p1 p2 p3 p4 px py pz pt pt2 : Pos} {kt k2 kk : Nat} {x y z : Str}
end
section
variable {n : Nat} {L : List (Addr × Ob)} {r : Rst} {a : Addr} {l : List Fv} {de da dv db : DE} {du : DF} {env : Ev} {c : Ct} {P : Vl → Ct → Prop} {DD : DEnds} {neg : Bool} {d : PyData} {kv : List (List Int × Int)} {ns : List Int}
end
end DL
set_option maxHeartbeats 2000000
namespace DL
open PySem PySem.Spec PyProof.Rows L2
section
variable {PD : PyData → Prop}
end
end DL
set_option maxHeartbeats 2000000
namespace DL
open PySem PySem.Spec PyProof.Rows L2
section
variable {X : Cx} {C f p0 : Addr} {mc : Value} {sp : List V → L2.St → Hp → VK → Prop} {m x : Str} {e : Expr} {es : List Expr} {p pos apos : Pos} {t : TA}
end
section
variable {X : Cx} {E : En} {k n i : Nat} {spx : SpecX} {m x y : Str} {C : Addr} {e : Expr} {es : List Expr} {p pos apos : Pos} {da : DA} {W : XW}
end
section
variable {n : Nat} {sp : SpecX} {C : Addr} {W : XW} {da : DA} {env : Ev} {c : Ct} {P : Vl → Ct → Prop}
end
open He (eqO eqO_ok ba ga ma)
end DL
set_option maxHeartbeats 2000000
namespace HandSHeadRun
noncomputable section
open PySem PySem.W PySem.Calls PyProof.Rows
theorem TopIs.left {α β : Type} {r : OpenRow} {M : Nat} {w : World} {f : SharedT → α} {g : SharedT → β} {a : α} {b : β} (h : TopIs r M w (fun s => (f s, g s)) (a, b)) : TopIs r M w f a := fun os => by
  have e := congrArg (Option.map Prod.fst) (h os)
  rw [Option.map_map] at e
  exact e
theorem TopIs.right {α β : Type} {r : OpenRow} {M : Nat} {w : World} {f : SharedT → α} {g : SharedT → β} {a : α} {b : β} (h : TopIs r M w (fun s => (f s, g s)) (a, b)) : TopIs r M w g b := fun os => by
  have e := congrArg (Option.map Prod.snd) (h os)
  rw [Option.map_map] at e
  exact e
end
end HandSHeadRun
namespace DL
open PySem PySem.Spec PyProof.Rows L2
abbrev AlOq : Type := AlO × AlOT
def obsOq (ca cb : List Ck) (fa fb : List He5.DefA) (ts : List He.Tab) (K : PySem.W.Frag) : AlOq := (obsO ca fa K, obsOT cb fb ts K)
def valOq (fa fb : List He5.DefA) (ts : List He.Tab) (w : World) : AlOq := (valO fa, valOT fb ts w)
def SaysOq (ca cb : List Ck) (fa fb : List He5.DefA) (ts : List He.Tab) (w : World) (K : PySem.W.Frag) : Prop := obsOq ca cb fa fb ts K = valOq fa fb ts w
def obsBGq (n : Nat) (ca cb : List Ck) (fa fb : List He5.DefA) (ts : List He.Tab) (g : Addr → Option Obj) : AlOq := bfsB g (fun all => fragB g (obsOq ca cb fa fb ts) all []) n [mainGlobals] (bitAdd 0 mainGlobals) [mainGlobals, cStatics]
theorem obsBGq_is (n : Nat) (ca cb : List Ck) (fa fb : List He5.DefA) (ts : List He.Tab) (g : Addr → Option Obj) : ∃ K, Holds g K ∧ obsBGq n ca cb fa fb ts g = obsOq ca cb fa fb ts K :=
  bfsB_is (Φ := fun z => ∃ K, Holds g K ∧ z = obsOq ca cb fa fb ts K) (fun all => fragB_is (Φ := fun z => ∃ K, Holds g K ∧ z = obsOq ca cb fa fb ts K) (fun K hK => ⟨K, hK, rfl⟩) all [] fun a o h => nomatch h) _ _ _ _
def hookBq (n : Nat) (ca cb : List Ck) (fa fb : List He5.DefA) (ts : List He.Tab) : PySem.W.Hook where
  α := AlOq
  obs := fun s => obsBGq n ca cb fa fb ts s.heap.get?
  val := fun w => valOq fa fb ts w
  says := fun w h => ∃ K : PySem.W.Frag, K.In h ∧ SaysOq ca cb fa fb ts w K
  of := fun _ s e => by
    obtain ⟨K, hK, q⟩ := obsBGq_is n ca cb fa fb ts s.heap.get?
    exact ⟨K, fun a o h => hK a o h, q.symm.trans e⟩
  keeps := fun _ _ _ ⟨K, hK, c⟩ k => ⟨K, PySem.W.Frag.In.keeps hK k, c⟩
theorem obsBGq_eq {n : Nat} {ca cb : List Ck} {fa fb : List He5.DefA} {ts : List He.Tab} {g : Addr → Option Obj} {s : Shared} (h : ∀ a, g a = s.heap.get? a) : obsBGq n ca cb fa fb ts g = (hookBq n ca cb fa fb ts).obs s := by
  have e : g = s.heap.get? := funext h
  rw [e] <;> rfl
theorem SaysOq.t {ca cb : List Ck} {fa fb : List He5.DefA} {ts : List He.Tab} {w : World} {K : PySem.W.Frag} (c : SaysOq ca cb fa fb ts w K) : SaysOT (ca ++ cb) (fa ++ fb) ts w K := by
  have c1 : obsO ca fa K = valO fa := congrArg (fun z : AlOq => z.1) c
  have c2 : obsOT cb fb ts K = valOT fb ts w := congrArg (fun z : AlOq => z.2) c
  have a1 : (ckAll ca K && fa.all fun d => d.ok K) = true := congrArg (fun z : AlO => z.1) c1
  have a2 : fa.map (fun d => He5.fnA K (d.at_ K)) = fa.map He5.DefA.val := congrArg (fun z : AlO => z.2) c1
  have b1 : (ckAll cb K && fb.all fun d => d.ok K) = true := congrArg (fun z : AlOT => z.1.1) c2
  have b2 : fb.map (fun d => He5.fnA K (d.at_ K)) = fb.map He5.DefA.val := congrArg (fun z : AlOT => z.1.2) c2
  obtain ⟨a3, a4⟩ := He.ba a1
  obtain ⟨b3, b4⟩ := He.ba b1
  have k1 : ckAll (ca ++ cb) K = true := by
    show (ca ++ cb).all _ = true
    rw [List.all_append, show ca.all (fun c => c K) = true from a3, show cb.all (fun c => c K) = true from b3]
    rfl
  have e : obsO (ca ++ cb) (fa ++ fb) K = valO (fa ++ fb) := by
    show (ckAll (ca ++ cb) K && (fa ++ fb).all fun d => d.ok K, (fa ++ fb).map fun d => He5.fnA K (d.at_ K)) = (true, (fa ++ fb).map He5.DefA.val)
    rw [k1, List.all_append, a4, b4, List.map_append, List.map_append, a2, b2]
    rfl
  have c3 : ts.map (fun t => He.dicW K (t.1 K)) = ts.map fun t => some (He.keysIn w.params t.2) := congrArg (fun z : AlOT => z.2) c2
  exact Prod.ext e c3
end DL

namespace RW
open PySem PySem.Spec PyProof.Rows L2 DL
/-! ### the text -/
def topS (i : Nat) : Stmt := PySem.Challenge.pw_ringwindows_k31_whole_steps_searched.main.body.getD i (.Pass ⟨0, 0, 0, 0⟩)
def clsS (i j : Nat) : Stmt := match topS i with | .ClassDef _ _ _ b _ _ _ _ _ _ _ => b.getD j (.Pass ⟨0, 0, 0, 0⟩) | _ => .Pass ⟨0, 0, 0, 0⟩
abbrev s_counts_of : Stmt := topS 5
abbrev s_heights_of : Stmt := topS 6
abbrev s_is_number : Stmt := topS 8
abbrev s_is_filling : Stmt := topS 9
abbrev s_covers : Stmt := topS 10
abbrev s_window_places : Stmt := topS 11
abbrev s_window_sum : Stmt := topS 12
abbrev s_broken_rules : Stmt := topS 13
abbrev s_fits : Stmt := topS 14
abbrev s_leads_of : Stmt := topS 16
abbrev s_least_steps : Stmt := topS 17
abbrev s_filling_after : Stmt := topS 18
abbrev s_find_way : Stmt := topS 19
abbrev s_is_step : Stmt := topS 20
abbrev s_way_holds : Stmt := topS 21
abbrev s__law_deck : Stmt := topS 23
abbrev s__law_draw : Stmt := topS 24
abbrev s__law_sum : Stmt := topS 25
abbrev s__law_rules : Stmt := topS 26
abbrev s__law_fits : Stmt := topS 27
abbrev s__law_all : Stmt := topS 28
abbrev s__law_flows : Stmt := topS 29
abbrev s__law_sent : Stmt := topS 30
abbrev s__law_reached : Stmt := topS 31
abbrev s_law : Stmt := topS 32
end RW
namespace RW
open PySem PySem.Spec PyProof.Rows L2 DL
section
open He (ga ma)
def csa0 : List Ck := (ckGlo "law") :: (ckGlo "counts_of") :: (ckGlo "heights_of") :: (ckGlo "is_number") :: (ckGlo "is_filling") :: (ckGlo "covers") :: (ckGlo "window_places") :: (ckGlo "window_sum") :: (ckGlo "broken_rules") :: (ckGlo "fits") :: (ckGlo "leads_of") :: (ckGlo "least_steps") :: []
def csa1 : List Ck := (ckGlo "filling_after") :: (ckGlo "find_way") :: (ckGlo "is_step") :: (ckGlo "way_holds") :: (ckGlo "_law_deck") :: (ckGlo "_law_draw") :: (ckGlo "_law_sum") :: (ckGlo "_law_rules") :: []
def csa : List Ck := csa0 ++ csa1
def csb0 : List Ck := (ckGlo "_law_fits") :: (ckGlo "_law_all") :: (ckGlo "_law_flows") :: (ckGlo "_law_sent") :: (ckGlo "_law_reached") :: (ckInt "LISTED" 500) :: (ckFree "abs") :: (ckFree "all") :: (ckFree "bool") :: (ckFree "enumerate") :: (ckFree "int") :: (ckFree "isinstance") :: []
def csb1 : List Ck := (ckFree "len") :: (ckFree "max") :: (ckFree "min") :: (ckFree "range") :: (ckFree "repr") :: (ckFree "sum") :: (ckFree "tuple") :: (ckFree "zip") :: []
def csb : List Ck := csb0 ++ csb1
def cs : List Ck := csa ++ csb
def fna0 : List He5.DefA := (dA (fun K => ga K "counts_of") "counts_of" "counts_of" s_counts_of) :: (dA (fun K => ga K "heights_of") "heights_of" "heights_of" s_heights_of) :: (dA (fun K => ga K "is_number") "is_number" "is_number" s_is_number) :: (dA (fun K => ga K "is_filling") "is_filling" "is_filling" s_is_filling) :: (dA (fun K => ga K "covers") "covers" "covers" s_covers) :: (dA (fun K => ga K "window_places") "window_places" "window_places" s_window_places) :: (dA (fun K => ga K "window_sum") "window_sum" "window_sum" s_window_sum) :: (dA (fun K => ga K "broken_rules") "broken_rules" "broken_rules" s_broken_rules) :: (dA (fun K => ga K "fits") "fits" "fits" s_fits) :: (dA (fun K => ga K "leads_of") "leads_of" "leads_of" s_leads_of) :: (dA (fun K => ga K "least_steps") "least_steps" "least_steps" s_least_steps) :: (dA (fun K => ga K "filling_after") "filling_after" "filling_after" s_filling_after) :: []
def fna1 : List He5.DefA := (dA (fun K => ga K "find_way") "find_way" "find_way" s_find_way) :: []
def fna : List He5.DefA := fna0 ++ fna1
def fnb0 : List He5.DefA := (dA (fun K => ga K "is_step") "is_step" "is_step" s_is_step) :: (dA (fun K => ga K "way_holds") "way_holds" "way_holds" s_way_holds) :: (dA (fun K => ga K "_law_deck") "_law_deck" "_law_deck" s__law_deck) :: (dA (fun K => ga K "_law_draw") "_law_draw" "_law_draw" s__law_draw) :: (dA (fun K => ga K "_law_sum") "_law_sum" "_law_sum" s__law_sum) :: (dA (fun K => ga K "_law_rules") "_law_rules" "_law_rules" s__law_rules) :: (dA (fun K => ga K "_law_fits") "_law_fits" "_law_fits" s__law_fits) :: (dA (fun K => ga K "_law_all") "_law_all" "_law_all" s__law_all) :: (dA (fun K => ga K "_law_flows") "_law_flows" "_law_flows" s__law_flows) :: (dA (fun K => ga K "_law_sent") "_law_sent" "_law_sent" s__law_sent) :: (dA (fun K => ga K "_law_reached") "_law_reached" "_law_reached" s__law_reached) :: (dA (fun K => ga K "law") "law" "law" s_law) :: []
def fnb : List He5.DefA := fnb0
def fn : List He5.DefA := fna ++ fnb
def ts : List He.Tab := []
end
end RW
namespace RWH
open PySem PySem.Spec PyProof.Rows L2 DL
set_option maxHeartbeats 0
abbrev R : PySem.W.OpenRow := PySem.W.OpenLaw.row PySem.Challenge.rw_ringwindows_k31_whole_steps_searched
abbrev hk : PySem.W.Hook := hookBq 5 RW.csa RW.csb RW.fna RW.fnb RW.ts
def ob (s : PySem.W.SharedT) : AlOq := obsBGq 5 RW.csa RW.csb RW.fna RW.fnb RW.ts (HandSHeadRun.getT s)
theorem ob_eq (s : PySem.W.SharedT) : ob s = hk.obs s.abs := obsBGq_eq (HandSHeadRun.getT_eq s)
def names0 : List PySem.Str := "LISTED" :: "__name__" :: "RingError" :: "TooMany" :: "counts_of" :: "heights_of" :: "is_number" :: "is_filling" :: "covers" :: "window_places" :: "window_sum" :: "broken_rules" :: "fits" :: "leads_of" :: "least_steps" :: "filling_after" :: []
def names1 : List PySem.Str := "find_way" :: "is_step" :: "way_holds" :: "_law_deck" :: "_law_draw" :: "_law_sum" :: "_law_rules" :: "_law_fits" :: "_law_all" :: "_law_flows" :: "_law_sent" :: "_law_reached" :: []
def names : List PySem.Str := names0 ++ names1
abbrev qv : Program := PySem.W.view R.prog [32]
theorem run_ls (w : World) : HandSHeadRun.TopIs R 20000 w (fun s => (HandSHeadRun.fLook R w s, HandSHeadRun.fSeen R qv names s)) (true, PySem.W.openGood qv names) := by
  intro os
  kernel_rfl
theorem run_oba (w : World) : HandSHeadRun.TopIs R 20000 w (fun s => (ob s).1) (valO RW.fna) := by
  intro os
  kernel_rfl
theorem run_obb (w : World) : HandSHeadRun.TopIs R 20000 w (fun s => (ob s).2) (valOT RW.fnb RW.ts w) := by
  intro os
  kernel_rfl
theorem run (w : World) : HandSHeadRun.RunEq R qv hk ob 20000 names w := HandSHeadRun.runEq_of (run_ls w).left (run_ls w).right (HandSHeadRun.TopIs.pair (v := hk.val w) (run_oba w) (run_obb w))
theorem headX (hw : R.promised) (hc : PySem.W.WalkO qv names (PySem.W.XL qv []) hk.says R.toRowW (HandSHeadRun.topDef R.prog 32) [] (fun f vs => PySem.call f vs)) : R.Holds :=
  HandSHeadRun.head_any (r := R) (q := qv) (H := hk) (ob := ob) (M := 20000) (loose := names) (d := HandSHeadRun.topDef R.prog 32) (kwd := []) ob_eq
    (by kernel_rfl) (fun s => by kernel_rfl) run (by kernel_rfl) (by kernel_rfl) (by kernel_rfl) (by rfl) (by first | assumption | decide +kernel) (by decide +kernel) ⟨rfl, rfl, rfl, rfl, rfl, by decide +kernel⟩ hw hc
end RWH
set_option Elab.async false
set_option linter.all false
set_option maxRecDepth 100000
set_option maxHeartbeats 4000000
namespace DL
open PySem PySem.Spec PyProof.Rows L2
/-- a number more has been drawn -/
def Ct.tick (c : Ct) : Ct := ⟨c.n + 1, c.os, c.ls, c.tb⟩
/-- at the law's beginning: no object, the tables of code objects -/
def CtT (T : List (Addr × Str)) : Ct := ⟨0, fun _ => none, fun _ => none, T⟩
abbrev Ct0 : Ct := CtT []
end DL
namespace DL
open PySem PySem.Spec PyProof.Rows L2

/-- where one place changes that is no table and neither stood nor was to stay -/
theorem Sty.map1 {g : Gh} {H H1 H2 : Hp} {x : Addr} (f : Sty g H H1) (keep : ∀ b u, b ≠ x → H1 b = some u → H2 b = some u) (hx : ∀ o, H x = some o → ¬ Nt g x o) (ht : ∀ ps, H1 x ≠ some (.tbl ps)) : Sty g H H2 :=
  ⟨fun a o e n => keep a o (fun z => hx o (z ▸ e) (z ▸ n)) (f.k a o e n), fun a ps e => by
    obtain ⟨ps', h⟩ := f.t a ps e
    exact ⟨ps', keep a _ (fun z => ht ps' (z ▸ h)) h⟩⟩
theorem seqT {K : PySem.W.Frag} {H H' : Hp} {a : Addr} {xs : List V} (e : Same H H') (h : SqT K H a xs) : SqT K H' a xs := by
  rcases h with (h | ⟨o, h⟩) | h
  · exact .inl (.inl (e _ _ h))
  · exact .inl (.inr ⟨o, e _ _ h⟩)
  · exact .inr h
mutual
/-- without dicts it is the hand layer's -/
theorem dp_l2 {K : PySem.W.Frag} {H : Hp} : ∀ {v : V} {d : PyData}, Dp K H v d → d.hasDict = false → L2.Dp K H v d
  | _, _, .non, _ => .non
  | _, _, .bl b, _ => .bl b
  | _, _, .int i, _ => .int i
  | _, _, .str x, _ => .str x
  | _, _, .lst s a, h => .lst s (dpAll_l2 a (by simpa [PyData.hasDict] using h))
  | _, _, .tup s a, h => .tup (.inl (.inl s)) (dpAll_l2 a (by simpa [PyData.hasDict] using h))
  | _, _, .dct s a, h => by simp [PyData.hasDict] at h
theorem dpAll_l2 {K : PySem.W.Frag} {H : Hp} : ∀ {vs : List V} {ds : List PyData}, DpAll K H vs ds → PyData.hasDictAll ds = false → L2.DpAll K H vs ds
  | _, _, .nil, _ => .nil
  | _, _, .cons h t, hd => by
    simp only [PyData.hasDictAll, Bool.or_eq_false_iff] at hd
    exact .cons (dp_l2 h hd.1) (dpAll_l2 t hd.2)
end
theorem DpAll.get {K : PySem.W.Frag} {H : Hp} : ∀ {vs : List V} {ds : List PyData} {i : Nat} {d : PyData}, DpAll K H vs ds → ds[i]? = some d → ∃ v, vs[i]? = some v ∧ Dp K H v d
  | _, _, _, _, .nil, h => by simp at h
  | _, _, 0, _, .cons h _, e => by
    simp at e
    subst e
    exact ⟨_, rfl, h⟩
  | _, _, i + 1, d, .cons _ t, e => by
    obtain ⟨v, h1, h2⟩ := DpAll.get (i := i) (d := d) t (by simpa using e)
    exact ⟨v, by simpa using h1, h2⟩
theorem DpAll.getV {K : PySem.W.Frag} {H : Hp} : ∀ {vs : List V} {ds : List PyData} {i : Nat} {v : V}, DpAll K H vs ds → vs[i]? = some v → ∃ d, ds[i]? = some d ∧ Dp K H v d
  | _, _, _, _, .nil, h => by simp at h
  | _, _, 0, _, .cons h _, e => by
    simp at e
    subst e
    exact ⟨_, rfl, h⟩
  | _, _, i + 1, v, .cons _ t, e => by
    obtain ⟨d, h1, h2⟩ := DpAll.getV (i := i) (v := v) t (by simpa using e)
    exact ⟨d, by simpa using h1, h2⟩
theorem DpAll.app {K : PySem.W.Frag} {H : Hp} : ∀ {vs ws : List V} {ds es : List PyData}, DpAll K H vs ds → DpAll K H ws es → DpAll K H (vs ++ ws) (ds ++ es)
  | _, _, _, _, .nil, t => t
  | _, _, _, _, .cons h r, t => .cons h (DpAll.app r t)
theorem DpAll.take {K : PySem.W.Frag} {H : Hp} : ∀ {vs : List V} {ds : List PyData} (n : Nat), DpAll K H vs ds → DpAll K H (vs.take n) (ds.take n)
  | _, _, 0, _ => .nil
  | _, _, _ + 1, .nil => .nil
  | _, _, n + 1, .cons h t => .cons h (DpAll.take n t)
theorem DpAll.drop {K : PySem.W.Frag} {H : Hp} : ∀ {vs : List V} {ds : List PyData} (n : Nat), DpAll K H vs ds → DpAll K H (vs.drop n) (ds.drop n)
  | _, _, 0, r => r
  | _, _, _ + 1, .nil => .nil
  | _, _, n + 1, .cons _ t => DpAll.drop n t
section
variable {K : PySem.W.Frag} {E : En} {g g' : Gh} {env : Ev} {c : Ct} {σ : L2.St} {H H' : Hp}
end

/-- the slots ws may have changed -/
def Ag (ws : List Nat) (σ σ' : L2.St) : Prop := σ'.length = σ.length ∧ ∀ i, i ∉ ws → σ'[i]? = σ[i]?
section
variable (K : PySem.W.Frag) (E : En)
def up (dt : DE) : TE := fun σ H Q => ∃ g env c P, Rel K E g env c σ H ∧ dt env c P ∧
  ∀ x c' g' H' v, P x c' → Mv g H g' H' → Rel K E g' env c' σ H' → VOk K g' H' v x → free x → Q v H'
def upT (dt : DT) : TT := fun σ H Q => ∃ g env c P, Rel K E g env c σ H ∧ dt env c P ∧
  ∀ b c' g' H', P b c' → Mv g H g' H' → Rel K E g' env c' σ H' → Q b H'
def upA (dt : DA) : TA := fun σ H Q => ∃ g env c P, Rel K E g env c σ H ∧ dt env c P ∧
  ∀ xs c' g' H' vs, P xs c' → Mv g H g' H' → Rel K E g' env c' σ H' → VOks K g' H' vs xs → (∀ x ∈ xs, free x) → Q vs H'
def upG (ws : List Nat) (dg : DG) : TG := fun v σ H Q => ∃ g env c x P, Rel K E g env c σ H ∧ VOk K g H v x ∧ free x ∧ dg x env P ∧
  ∀ env' g' σ' H', P env' → Mv g H g' H' → Rel K E g' env' c σ' H' → Ag ws σ σ' → Q σ' H'
def upGs (ws : List Nat) (dg : DGs) : TGs := fun vs σ H Q => ∃ g env c ds P, Rel K E g env c σ H ∧ DpAll K g.F vs ds ∧ dg ds env P ∧
  ∀ env' g' σ' H', P env' → Mv g H g' H' → Rel K E g' env' c σ' H' → Ag ws σ σ' → Q σ' H'
def upS (dt : DS) : TS := fun D σ H => ∃ g env c P, Rel K E g env c σ H ∧ dt P env c ∧
  (∀ env' c' g' σ' H', P.nx env' c' → Same g.F g'.F → Rel K E g' env' c' σ' H' → D.nx σ' H') ∧
  (∀ x c' env' g' σ' H' v, P.rt x c' → Same g.F g'.F → Rel K E g' env' c' σ' H' → VOk K g' H' v x → free x → D.rt v H') ∧
  (∀ env' c' g' σ' H', P.bk env' c' → Same g.F g'.F → Rel K E g' env' c' σ' H' → D.bk σ' H') ∧
  (∀ env' c' g' σ' H', P.ct env' c' → Same g.F g'.F → Rel K E g' env' c' σ' H' → D.ct σ' H')
end
abbrev DPE (X : Cx) (E : En) (e : Expr) (dt : DE) : Prop := PE X e (up X.K E dt)
abbrev DPT (X : Cx) (E : En) (e : Expr) (dt : DT) : Prop := PT X e (upT X.K E dt)
abbrev DPA (X : Cx) (E : En) (e : List Expr) (dt : DA) : Prop := PA X e (upA X.K E dt)
abbrev DPG (X : Cx) (E : En) (ws : List Nat) (e : Expr) (dt : DG) : Prop := PG X e (upG X.K E ws dt)
abbrev DPGs (X : Cx) (E : En) (ws : List Nat) (e : List Expr) (dt : DGs) : Prop := PGs X e (upGs X.K E ws dt)
abbrev DPS (X : Cx) (E : En) (e : Stmt) (dt : DS) : Prop := PS X e (upS X.K E dt)
abbrev DPSs (X : Cx) (E : En) (e : List Stmt) (dt : DS) : Prop := PSs X e (upS X.K E dt)

theorem pe_imp {X : Cx} {e : Expr} {t t' : TE} (h : PE X e t) (i : ∀ σ H Q, t' σ H Q → t σ H Q) : PE X e t' := ⟨fun pins s σ H Q I q => h.run pins s σ H Q I (i σ H Q q)⟩
theorem pt_imp {X : Cx} {e : Expr} {t t' : TT} (h : PT X e t) (i : ∀ σ H Q, t' σ H Q → t σ H Q) : PT X e t' := ⟨fun pins s σ H Q I q => h.run pins s σ H Q I (i σ H Q q)⟩
theorem pw_imp {X : Cx} {e : Expr} {t t' : TT} (h : PW X e t) (i : ∀ σ H Q, t' σ H Q → t σ H Q) : PW X e t' := ⟨fun wh pins s σ H Q I q => h.run wh pins s σ H Q I (i σ H Q q)⟩
theorem pa_imp {X : Cx} {e : List Expr} {t t' : TA} (h : PA X e t) (i : ∀ σ H Q, t' σ H Q → t σ H Q) : PA X e t' := ⟨fun pos pins s σ H Q I q => h.run pos pins s σ H Q I (i σ H Q q)⟩
theorem pg_imp {X : Cx} {e : Expr} {t t' : TG} (h : PG X e t) (i : ∀ v σ H Q, t' v σ H Q → t v σ H Q) : PG X e t' := ⟨fun pins s σ H v u Q I r q => h.run pins s σ H v u Q I r (i v σ H Q q)⟩
theorem ps_imp {X : Cx} {e : Stmt} {t t' : TS} (h : PS X e t) (i : ∀ D σ H, t' D σ H → t D σ H) : PS X e t' := ⟨fun pins s σ H D I q => h.run pins s σ H D I (i D σ H q)⟩
theorem pss_imp {X : Cx} {e : List Stmt} {t t' : TS} (h : PSs X e t) (i : ∀ D σ H, t' D σ H → t D σ H) : PSs X e t' := ⟨fun pins s σ H D I q => h.run pins s σ H D I (i D σ H q)⟩
theorem pi_imp {X : Cx} {tg e : Expr} {t t' : TI} (h : PI X tg e t) (i : ∀ σ H Q, t' σ H Q → t σ H Q) : PI X tg e t' := ⟨fun pins s σ H Q I q => h.run pins s σ H Q I (i σ H Q q)⟩

def datK (x : Vl) (k : PyData → Prop) : Prop := match x with
  | .dat d => k d
  | _ => False
def intK (d : PyData) (k : Int → Prop) : Prop := match d with
  | .int i => k i
  | _ => False
def dVar (i : Nat) : DE := fun env c P => match env[i]? with
  | some (some (.dat d)) => P (.dat d) c
  | some (some .deck) => P .deck c
  | some (some (.exc a)) => P (.exc a) c
  | some (some (.ob a)) => P (.ob a) c
  | _ => False
def dC (d : PyData) : DE := fun _ c P => P (.dat d) c
def dOp (rd : PyData → PyData → (PyData → Prop) → Prop) (da db : DE) : DE := fun env c P =>
  da env c fun x c1 => datK x fun d => db env c1 fun y c2 => datK y fun e => rd d e fun z => P (.dat z) c2
def dUn (rd : PyData → (PyData → Prop) → Prop) (da : DE) : DE := fun env c P => da env c fun x c1 => datK x fun d => rd d fun z => P (.dat z) c1
def aNil : DA := fun _ c P => P [] c
def aCons (da : DE) (dr : DA) : DA := fun env c P => da env c fun x c1 => dr env c1 fun xs c2 => P (x :: xs) c2
def dCall (sp : List Vl → Ct → (Vl → Ct → Prop) → Prop) (da : DA) : DE := fun env c P => da env c fun xs c1 => sp xs c1 P
def datsK : List Vl → (List PyData → Prop) → Prop
  | [], k => k []
  | .dat d :: r, k => datsK r fun ds => k (d :: ds)
  | _ :: _, _ => False
def dCB (rd : List PyData → (PyData → Prop) → Prop) (da : DA) : DE := fun env c P => da env c fun xs c1 => datsK xs fun ds => rd ds fun z => P (.dat z) c1

section
variable {X : Cx} {E : En} {a b : Expr} {da db : DE} {pos : Pos}
theorem de_var (i : Nat) {x : Str} (hN : X.N[i]? = some x := by rfl) (hv : Vis X.env.scope x := by first | exact Or.inl rfl | exact Or.inr (Or.inl rfl) | exact Or.inr (Or.inr rfl)) (h1 : (x == ("__debug__" : Str)) = false := by decide)
    (h2 : (x == ("__classdict__" : Str)) = false := by decide) : DPE X E (.Name x pos) (dVar i) := by
  refine pe_imp (pe_var hN hv h1 h2) fun σ H Q h => ?_
  obtain ⟨g, env, c, P, r, hd, k⟩ := h
  unfold dVar at hd
  split at hd
  · rename_i d e
    obtain ⟨v, e1, e2⟩ := r.sl i _ e
    exact ⟨v, e1, k _ _ g H v hd (Mv.refl g H) r e2 trivial⟩
  · rename_i e
    obtain ⟨v, e1, e2⟩ := r.sl i _ e
    exact ⟨v, e1, k _ _ g H v hd (Mv.refl g H) r e2 trivial⟩
  · rename_i a e
    obtain ⟨v, e1, e2⟩ := r.sl i _ e
    exact ⟨v, e1, k _ _ g H v hd (Mv.refl g H) r e2 trivial⟩
  · rename_i a e
    obtain ⟨v, e1, e2⟩ := r.sl i _ e
    exact ⟨v, e1, k _ _ g H v hd (Mv.refl g H) r e2 trivial⟩
  · exact hd.elim
theorem de_c {v : V} {d : PyData} (h : PE X a (tC v)) (hd : ∀ K F, Dp K F v d) : DPE X E a (dC d) := by
  refine pe_imp h fun σ H Q q => ?_
  obtain ⟨g, env, c, P, r, p, k⟩ := q
  exact k _ _ g H v p (Mv.refl g H) r (hd _ _) trivial
theorem de_int {i : Int} {j} : DPE X E (.Constant (.int i) j pos) (dC (.int i)) := de_c pe_int fun _ _ => .int i
theorem de_bl {i : Bool} {j} : DPE X E (.Constant (.bool i) j pos) (dC (.bool i)) := de_c pe_bl fun _ _ => .bl i
theorem de_str {i : Str} {j} : DPE X E (.Constant (.str i) j pos) (dC (.str i)) := de_c pe_str fun _ _ => .str i
theorem de_non {j} : DPE X E (.Constant .none j pos) (dC .none) := de_c pe_non fun _ _ => .non

/-- an operation of two values, over data -/
def OpD (K : PySem.W.Frag) (r : R2) (rd : PyData → PyData → (PyData → Prop) → Prop) : Prop :=
  ∀ (E : En) (g : Gh) (env : Ev) (c : Ct) (σ : L2.St) (H : Hp) (x y : V) (d e : PyData) (P : PyData → Prop) (Q : VK), Rel K E g env c σ H → Dp K g.F x d → Dp K g.F y e → rd d e P →
    (∀ z g' H' v, P z → Mv g H g' H' → Rel K E g' env c σ H' → Dp K g'.F v z → Q v H') → r x y H Q
def UnD (K : PySem.W.Frag) (r : V → Hp → VK → Prop) (rd : PyData → (PyData → Prop) → Prop) : Prop :=
  ∀ (E : En) (g : Gh) (env : Ev) (c : Ct) (σ : L2.St) (H : Hp) (x : V) (d : PyData) (P : PyData → Prop) (Q : VK), Rel K E g env c σ H → Dp K g.F x d → rd d P →
    (∀ z g' H' v, P z → Mv g H g' H' → Rel K E g' env c σ H' → Dp K g'.F v z → Q v H') → r x H Q
def CallD (K : PySem.W.Frag) (r : List V → Hp → VK → Prop) (rd : List PyData → (PyData → Prop) → Prop) : Prop :=
  ∀ (E : En) (g : Gh) (env : Ev) (c : Ct) (σ : L2.St) (H : Hp) (xs : List V) (ds : List PyData) (P : PyData → Prop) (Q : VK), Rel K E g env c σ H → DpAll K g.F xs ds → rd ds P →
    (∀ z g' H' v, P z → Mv g H g' H' → Rel K E g' env c σ H' → Dp K g'.F v z → Q v H') → r xs H Q

theorem op_up {r : R2} {rd : PyData → PyData → (PyData → Prop) → Prop} {K : PySem.W.Frag} (hd : OpD K r rd) {σ : L2.St} {H : Hp} {Q : VK} (h : up K E (dOp rd da db) σ H Q) : tOp r (up K E da) (up K E db) σ H Q := by
  obtain ⟨g, env, c, P, rel, q, k⟩ := h
  refine ⟨g, env, c, _, rel, q, fun x c1 g1 H1 v p1 m1 r1 o1 f1 => ?_⟩
  cases x with
  | deck => exact p1.elim
  | exc _ => exact p1.elim
  | ob _ => exact p1.elim
  | own l => exact p1.elim
  | dat d =>
    refine ⟨g1, env, c1, _, r1, p1, fun y c2 g2 H2 u p2 m2 r2 o2 f2 => ?_⟩
    cases y with
    | deck => exact p2.elim
    | exc _ => exact p2.elim
    | ob _ => exact p2.elim
    | own l => exact p2.elim
    | dat e => exact hd E g2 env c2 σ H2 v u d e _ Q r2 (dp_mono m2.f o1) o2 p2 fun z g3 H3 w pz m3 r3 dz => k _ _ g3 H3 w pz ((m1.trans m2).trans m3) r3 dz trivial
theorem de_op {op : Operator} {r : R2} {rd : PyData → PyData → (PyData → Prop) → Prop} (ho : OpR X (binaryOp op) r) (hd : OpD X.K r rd) (ha : DPE X E a da) (hb : DPE X E b db) : DPE X E (.BinOp a op b pos) (dOp rd da db) :=
  pe_imp (pe_op ho ha hb) fun _ _ _ h => op_up hd h
theorem de_cmp {op : CmpOp} {r : R2} {rd : PyData → PyData → (PyData → Prop) → Prop} (ho : OpR X (compareOp op) r) (hd : OpD X.K r rd) (ha : DPE X E a da) (hb : DPE X E b db) (hm : behindInMarks op b = false := by first | exact nobehind _ (by decide) (by decide) | rfl) :
    DPE X E (.Compare a [op] [b] pos) (dOp rd da db) := pe_imp (pe_cmpR ho ha hb hm) fun _ _ _ h => op_up hd h
theorem de_ix {r : R2} {rd : PyData → PyData → (PyData → Prop) → Prop} (ho : IxR X r) (hd : OpD X.K r rd) (ha : DPE X E a da) (hb : DPE X E b db) (hs : PlainIx b := by exact fun _ _ => rfl) : DPE X E (.Subscript a b pos) (dOp rd da db) :=
  pe_imp (pe_ix ho ha hb hs) fun _ _ _ h => op_up hd h
theorem de_un {op : UnaryOp} {r : V → Hp → VK → Prop} {rd : PyData → (PyData → Prop) → Prop} (ho : UnR X (unaryOp op) r) (hd : UnD X.K r rd) (ha : DPE X E a da) : DPE X E (.UnaryOp op a pos) (dUn rd da) := by
  refine pe_imp (pe_un ho ha) fun σ H Q h => ?_
  obtain ⟨g, env, c, P, rel, q, k⟩ := h
  refine ⟨g, env, c, _, rel, q, fun x c1 g1 H1 v p1 m1 r1 o1 f1 => ?_⟩
  cases x with
  | deck => exact p1.elim
  | exc _ => exact p1.elim
  | ob _ => exact p1.elim
  | own l => exact p1.elim
  | dat d => exact hd E g1 env c1 σ H1 v d _ Q r1 o1 p1 fun z g3 H3 w pz m3 r3 dz => k _ _ g3 H3 w pz (m1.trans m3) r3 dz trivial

theorem da_nil : DPA X E [] aNil := by
  refine pa_imp pa_nil fun σ H Q h => ?_
  obtain ⟨g, env, c, P, rel, q, k⟩ := h
  exact k [] c g H [] q (Mv.refl g H) rel trivial (fun _ h => nomatch h)
theorem da_cons {es : List Expr} {dr : DA} (ha : DPE X E a da) (hr : DPA X E es dr) (hs : starEach (a :: es) X.env = (false, eval a X.env) :: starEach es X.env := by rfl) : DPA X E (a :: es) (aCons da dr) := by
  refine pa_imp (pa_cons ha hr hs) fun σ H Q h => ?_
  obtain ⟨g, env, c, P, rel, q, k⟩ := h
  refine ⟨g, env, c, _, rel, q, fun x c1 g1 H1 v p1 m1 r1 o1 f1 => ⟨g1, env, c1, _, r1, p1, fun xs c2 g2 H2 vs p2 m2 r2 o2 f2 => ?_⟩⟩
  refine k _ _ g2 H2 (v :: vs) p2 (m1.trans m2) r2 ⟨VOk.mono m2.toMo f1 o1, o2⟩ fun y hy => ?_
  rcases List.mem_cons.mp hy with rfl | hy
  · exact f1
  · exact f2 y hy
theorem datsK_all {K : PySem.W.Frag} {g : Gh} {H : Hp} : ∀ {xs : List Vl} {vs : List V} {k : List PyData → Prop}, VOks K g H vs xs → datsK xs k → ∃ ds, k ds ∧ DpAll K g.F vs ds
  | [], [], k, _, h => ⟨[], h, .nil⟩
  | [], _ :: _, k, h, _ => h.elim
  | _ :: _, [], k, h, _ => h.elim
  | .dat d :: xs, v :: vs, k, h, q => by
    obtain ⟨ds, h1, h2⟩ := datsK_all h.2 q
    exact ⟨d :: ds, h1, .cons h.1 h2⟩
  | .deck :: _, _ :: _, _, _, h => h.elim
  | .exc _ :: _, _ :: _, _, _, h => h.elim
  | .ob _ :: _, _ :: _, _, _, h => h.elim
  | .own _ :: _, _ :: _, _, _, h => h.elim
theorem cb_up {r : List V → Hp → VK → Prop} {rd : List PyData → (PyData → Prop) → Prop} {K : PySem.W.Frag} (hd : CallD K r rd) {dr : DA} {σ : L2.St} {H : Hp} {Q : VK} (h : up K E (dCB rd dr) σ H Q) : tCB r (upA K E dr) σ H Q := by
  obtain ⟨g, env, c, P, rel, q, k⟩ := h
  refine ⟨g, env, c, _, rel, q, fun xs c1 g1 H1 vs p1 m1 r1 o1 f1 => ?_⟩
  obtain ⟨ds, h1, h2⟩ := datsK_all o1 p1
  exact hd E g1 env c1 σ H1 vs ds _ Q r1 h2 h1 fun z g3 H3 w pz m3 r3 dz => k _ _ g3 H3 w pz (m1.trans m3) r3 dz trivial
theorem de_callB {x : Str} {p : Pos} {id : String} {es : List Expr} {dr : DA} {r : List V → Hp → VK → Prop} {rd : List PyData → (PyData → Prop) → Prop} (hc : CallR X (.builtin id) r) (hd : CallD X.K r rd) (hm : X.mg x = none) (hv : bootBuiltins x = some (.builtin id)) (ha : DPA X E (a :: es) dr)
    (hg : Gl X x := by rfl) (hn : x ≠ "__name__" := by decide) (hdb : (x == ("__debug__" : Str)) = false := by decide)
    (he : starEach (a :: es) X.env = (false, eval a X.env) :: starEach es X.env := by rfl) (hpl : (backTo pos (starEach es X.env)).any (·.1) = false := by rfl) : DPE X E (.Call (.Name x p) (a :: es) [] pos) (dCB rd dr) :=
  pe_imp (pe_callB hc hg hm hv ha hn hdb he hpl) fun _ _ _ h => cb_up hd h
theorem de_callT {x : Str} {p : Pos} {id : String} {es : List Expr} {dr : DA} {r : List V → Hp → VK → Prop} {rd : List PyData → (PyData → Prop) → Prop} (hc : CallR X (.type id) r) (hd : CallD X.K r rd) (hm : X.mg x = none) (hv : bootBuiltins x = some (.type id)) (ha : DPA X E (a :: es) dr)
    (hg : Gl X x := by rfl) (hn : x ≠ "__name__" := by decide) (hdb : (x == ("__debug__" : Str)) = false := by decide)
    (he : starEach (a :: es) X.env = (false, eval a X.env) :: starEach es X.env := by rfl) (hpl : (backTo pos (starEach es X.env)).any (·.1) = false := by rfl) : DPE X E (.Call (.Name x p) (a :: es) [] pos) (dCB rd dr) :=
  pe_imp (pe_callTy hc hg hm hv ha hn hdb he hpl) fun _ _ _ h => cb_up hd h
end
end DL
namespace DL
open PySem PySem.Spec PyProof.Rows L2

def rdI (f : Int → Int → PyData) : PyData → PyData → (PyData → Prop) → Prop := fun d e P => intK d fun i => intK e fun j => P (f i j)
def rdIc (C : Int → Int → Prop) (f : Int → Int → PyData) : PyData → PyData → (PyData → Prop) → Prop := fun d e P => intK d fun i => intK e fun j => C i j ∧ P (f i j)
section
variable {K : PySem.W.Frag}
theorem dp_int {F : Hp} {v : V} {i : Int} (h : Dp K F v (.int i)) : v = .int i := by cases h; rfl
theorem dp_bl {F : Hp} {v : V} {i : Bool} (h : Dp K F v (.bool i)) : v = .bl i := by cases h; rfl
theorem dp_str {F : Hp} {v : V} {i : Str} (h : Dp K F v (.str i)) : v = .str i := by cases h; rfl
theorem opd_I0 {gV : Int → Int → V} {gD : Int → Int → PyData} (h : ∀ K F i j, Dp K F (gV i j) (gD i j)) : OpD K (rI0 gV) (rdI gD) := by
  intro E g env c σ H x y d e P Q r hx hy q k
  cases d <;> try exact q.elim
  cases e <;> try exact q.elim
  exact ⟨_, _, dp_int hx, dp_int hy, k _ g H _ q (Mv.refl g H) r (h _ _ _ _)⟩
theorem opd_I {C : Int → Int → Prop} {gV : Int → Int → V} {gD : Int → Int → PyData} (h : ∀ K F i j, Dp K F (gV i j) (gD i j)) : OpD K (rI C gV) (rdIc C gD) := by
  intro E g env c σ H x y d e P Q r hx hy q k
  cases d <;> try exact q.elim
  cases e <;> try exact q.elim
  exact ⟨_, _, dp_int hx, dp_int hy, q.1, k _ g H _ q.2 (Mv.refl g H) r (h _ _ _ _)⟩
abbrev rdAdd := rdI fun i j => .int (i + j)
abbrev rdSub := rdI fun i j => .int (i - j)
abbrev rdMod := rdIc (fun _ j => 0 < j) fun i j => .int (i % j)
abbrev rdDiv := rdIc CDiv fun i j => .int (i / j)
abbrev rdPow := rdIc CPow fun i j => .int (i ^ j.toNat)
abbrev rdLt := rdI fun i j => .bool (decide (i < j))
abbrev rdLe := rdI fun i j => .bool (decide (i ≤ j))
abbrev rdGt := rdI fun i j => .bool (decide (j < i))
abbrev rdGe := rdI fun i j => .bool (decide (j ≤ i))
end
section
variable {X : Cx} {E : En} {a b : Expr} {da db : DE} {pos : Pos}
theorem de_add (ha : DPE X E a da) (hb : DPE X E b db) : DPE X E (.BinOp a .Add b pos) (dOp rdAdd da db) := de_op op_add (opd_I0 fun _ _ _ _ => .int _) ha hb
theorem de_sub (ha : DPE X E a da) (hb : DPE X E b db) : DPE X E (.BinOp a .Sub b pos) (dOp rdSub da db) := de_op op_sub (opd_I0 fun _ _ _ _ => .int _) ha hb
theorem de_mod (ha : DPE X E a da) (hb : DPE X E b db) : DPE X E (.BinOp a .Mod b pos) (dOp rdMod da db) := de_op op_mod (opd_I fun _ _ _ _ => .int _) ha hb
theorem de_div (ha : DPE X E a da) (hb : DPE X E b db) : DPE X E (.BinOp a .FloorDiv b pos) (dOp rdDiv da db) := de_op op_fdiv (opd_I fun _ _ _ _ => .int _) ha hb
theorem de_pow (ha : DPE X E a da) (hb : DPE X E b db) : DPE X E (.BinOp a .Pow b pos) (dOp rdPow da db) := de_op op_pow (opd_I fun _ _ _ _ => .int _) ha hb
theorem de_lt (ha : DPE X E a da) (hb : DPE X E b db) : DPE X E (.Compare a [.Lt] [b] pos) (dOp rdLt da db) := de_cmp op_lt (opd_I0 fun _ _ _ _ => .bl _) ha hb
theorem de_le (ha : DPE X E a da) (hb : DPE X E b db) : DPE X E (.Compare a [.LtE] [b] pos) (dOp rdLe da db) := de_cmp op_le (opd_I0 fun _ _ _ _ => .bl _) ha hb
theorem de_ge (ha : DPE X E a da) (hb : DPE X E b db) : DPE X E (.Compare a [.GtE] [b] pos) (dOp rdGe da db) := de_cmp op_ge (opd_I0 fun _ _ _ _ => .bl _) ha hb
def rdNeg : PyData → (PyData → Prop) → Prop := fun d P => intK d fun i => P (.int (-i))
theorem de_neg (ha : DPE X E a da) : DPE X E (.UnaryOp .USub a pos) (dUn rdNeg da) := by
  refine de_un un_neg (fun E g env c σ H x d P Q r hx q k => ?_) ha
  cases d <;> try exact q.elim
  exact ⟨_, dp_int hx, k _ g H _ q (Mv.refl g H) r (.int _)⟩

def rdEq : PyData → PyData → (PyData → Prop) → Prop := fun d e P => match d, e with
  | .str x, .str y => P (.bool (decide (x = y)))
  | .int i, .int j => P (.bool (decide (i = j)))
  | d, e => SeqAt.shaped d = true ∧ SeqAt.shaped e = true ∧ P (.bool (PyData.eqv d e))
def rdNe : PyData → PyData → (PyData → Prop) → Prop := fun d e P => rdEq d e fun z => match z with
  | .bool b => P (.bool (!b))
  | _ => False
theorem op_or {f : Value → Value → Sem Value} {r r' : R2} (h : OpR X f r) (h' : OpR X f r') : OpR X f (fun x y H Q => r x y H Q ∨ r' x y H Q) := by
  intro pins s σ H x y v u Q I rx ry q
  rcases q with q | q
  · exact h pins s σ H x y v u Q I rx ry q
  · exact h' pins s σ H x y v u Q I rx ry q
theorem dpF {K : PySem.W.Frag} {E : En} {g : Gh} {env : Ev} {c : Ct} {σ : L2.St} {H : Hp} (r : Rel K E g env c σ H) {v : V} {d : PyData} (h : Dp K g.F v d) : Dp K H v d := dp_mono r.ex h
theorem opd_eq {K : PySem.W.Frag} : OpD K (fun x y H Q => rEq x y H Q ∨ rEqD K x y H Q) rdEq := by
  intro E g env c σ H x y d e P Q r hx hy q k
  unfold rdEq at q
  split at q
  · rename_i a b
    rw [dp_str hx, dp_str hy]
    refine .inl ⟨rfl, ?_⟩
    have := k _ g H (.bl (decide (a = b))) q (Mv.refl g H) r (.bl _)
    rwa [show decide (V.str a = V.str b) = decide (a = b) from by simp]
  · rename_i a b
    rw [dp_int hx, dp_int hy]
    refine .inl ⟨rfl, ?_⟩
    have := k _ g H (.bl (decide (a = b))) q (Mv.refl g H) r (.bl _)
    rwa [show decide (V.int a = V.int b) = decide (a = b) from by simp]
  · exact .inr ⟨_, _, dp_l2 (dpF r hx) (PyData.hasDict_of_canLay _ (SeqAt.canLay_of_shaped q.1)), dp_l2 (dpF r hy) (PyData.hasDict_of_canLay _ (SeqAt.canLay_of_shaped q.2.1)), q.1, q.2.1, k _ g H _ q.2.2 (Mv.refl g H) r (.bl _)⟩
theorem opd_ne {K : PySem.W.Frag} : OpD K (fun x y H Q => rNe x y H Q ∨ rNeD K x y H Q) rdNe := by
  intro E g env c σ H x y d e P Q r hx hy q k
  unfold rdNe rdEq at q
  split at q
  · rename_i a b
    rw [dp_str hx, dp_str hy]
    refine .inl ⟨rfl, ?_⟩
    have := k _ g H (.bl (!decide (a = b))) q (Mv.refl g H) r (.bl _)
    rwa [show decide (V.str a = V.str b) = decide (a = b) from by simp]
  · rename_i a b
    rw [dp_int hx, dp_int hy]
    refine .inl ⟨rfl, ?_⟩
    have := k _ g H (.bl (!decide (a = b))) q (Mv.refl g H) r (.bl _)
    rwa [show decide (V.int a = V.int b) = decide (a = b) from by simp]
  · exact .inr ⟨_, _, dp_l2 (dpF r hx) (PyData.hasDict_of_canLay _ (SeqAt.canLay_of_shaped q.1)), dp_l2 (dpF r hy) (PyData.hasDict_of_canLay _ (SeqAt.canLay_of_shaped q.2.1)), q.1, q.2.1, k _ g H _ q.2.2 (Mv.refl g H) r (.bl _)⟩
theorem de_eq {k : Nat} (hr : Room k X.A) (ha : DPE X E a da) (hb : DPE X E b db) : DPE X E (.Compare a [.Eq] [b] pos) (dOp rdEq da db) := de_cmp (op_or op_eq (op_eqD hr.units)) opd_eq ha hb
def rdIsN : PyData → (PyData → Prop) → Prop := fun d P => match d with
  | .none => P (.bool true)
  | _ => P (.bool false)
def rdNotN : PyData → (PyData → Prop) → Prop := fun d P => match d with
  | .none => P (.bool false)
  | _ => P (.bool true)
theorem dp_isN {K : PySem.W.Frag} {F : Hp} {v : V} {d : PyData} (h : Dp K F v d) : (d = .none ∧ v = .non) ∨ (d ≠ .none ∧ v ≠ .non) := by
  cases h <;> first | exact .inl ⟨rfl, rfl⟩ | exact .inr ⟨(fun z => nomatch z), (fun z => nomatch z)⟩
theorem de_notN {j} {p2 : Pos} (ha : DPE X E a da) : DPE X E (.Compare a [.IsNot] [.Constant .none j p2] pos) (dUn rdNotN da) := by
  refine pe_imp (pe_cmp (pc_notN ha) rfl) fun σ H Q h => ?_
  obtain ⟨g, env, c, P, rel, q, k⟩ := h
  refine ⟨g, env, c, _, rel, q, fun x c1 g1 H1 v p1 m1 r1 o1 f1 => ?_⟩
  cases x with
  | deck => exact p1.elim
  | exc _ => exact p1.elim
  | ob _ => exact p1.elim
  | own l => exact p1.elim
  | dat d =>
    rcases dp_isN o1 with ⟨rfl, rfl⟩ | ⟨n1, n2⟩
    · exact k _ _ g1 H1 (.bl (!decide (V.non = .non))) p1 m1 r1 (.bl _) trivial
    · have p1' : P (.dat (.bool true)) c1 := by
        cases d <;> first | exact absurd rfl n1 | exact p1
      rw [decide_eq_false n2]
      exact k _ _ g1 H1 (.bl true) p1' m1 r1 (.bl _) trivial

def ixK (ds : List PyData) (e : PyData) (P : PyData → Prop) : Prop := intK e fun i => match atI ds i with
  | some z => P z
  | none => False
def rdIx : PyData → PyData → (PyData → Prop) → Prop := fun d e P => match d with
  | .list ds => ixK ds e P
  | .tuple ds => ixK ds e P
  | _ => False
theorem atI_dp {K : PySem.W.Frag} {F : Hp} {xs : List V} {ds : List PyData} (h : DpAll K F xs ds) {i : Int} {d : PyData} (e : atI ds i = some d) : ∃ v, atI xs i = some v ∧ Dp K F v d := by
  unfold atI at e ⊢
  rw [DpAll.len h]
  cases hi : ixN ds.length i with
  | none => rw [hi] at e; cases e
  | some j =>
    rw [hi] at e
    exact DpAll.get h e
theorem opd_ix {K : PySem.W.Frag} : OpD K (fun x y H Q => rIxL K x y H Q ∨ rIxT K x y H Q) rdIx := by
  intro E g env c σ H x y d e P Q r hx hy q k
  cases d <;> try exact q.elim
  · rename_i ds
    have q1 : ixK ds e P := q
    clear q
    cases e <;> try exact q1.elim
    rename_i i
    cases hx with
    | lst hs ha =>
      have q : (match atI ds i with | some z => P z | none => False) := q1
      cases hz : atI ds i with
      | none => rw [hz] at q; exact q.elim
      | some z =>
        rw [hz] at q
        obtain ⟨v, h1, h2⟩ := atI_dp ha hz
        exact .inl ⟨_, _, i, v, rfl, dp_int hy, r.ex.seq hs, h1, k _ g H v q (Mv.refl g H) r h2⟩
  · rename_i ds
    have q1 : ixK ds e P := q
    clear q
    cases e <;> try exact q1.elim
    rename_i i
    cases hx with
    | tup hs ha =>
      have q : (match atI ds i with | some z => P z | none => False) := q1
      cases hz : atI ds i with
      | none => rw [hz] at q; exact q.elim
      | some z =>
        rw [hz] at q
        obtain ⟨v, h1, h2⟩ := atI_dp ha hz
        exact .inr ⟨_, _, i, v, rfl, dp_int hy, seqT r.ex (.inl (.inl hs)), h1, k _ g H v q (Mv.refl g H) r h2⟩
theorem de_item (ha : DPE X E a da) (hb : DPE X E b db) (hs : PlainIx b := by exact fun _ _ => rfl) : DPE X E (.Subscript a b pos) (dOp rdIx da db) := de_ix (IxR.or ix_list ix_tup) opd_ix ha hb hs

def dTup (dr : DA) : DE := fun env c P => dr env c fun xs c1 => datsK xs fun ds => ds.length ≤ sizeLine ∧ P (.dat (.tuple ds)) c1
def dLst (dr : DA) : DE := fun env c P => dr env c fun xs c1 => datsK xs fun ds => ds.length ≤ sizeLine ∧ P (.dat (.list ds)) c1
theorem de_tup {es : List Expr} {dr : DA} {x1} (h : DPA X E es dr) : DPE X E (.Tuple es x1 pos) (dTup dr) := by
  refine pe_imp (pe_tup h) fun σ H Q h => ?_
  obtain ⟨g, env, c, P, rel, q, k⟩ := h
  refine ⟨g, env, c, _, rel, q, fun xs c1 g1 H1 vs p1 m1 r1 o1 f1 => ?_⟩
  obtain ⟨ds, h1, h2⟩ := datsK_all o1 p1
  refine ⟨by rw [DpAll.len h2]; exact h1.1, fun p hp => ?_⟩
  obtain ⟨r2, m2⟩ := r1.new (.tup vs) hp
  exact k _ _ _ _ _ h1.2 (m1.trans m2) r2 (.tup upd_same (dpAll_mono m2.f h2)) trivial
theorem de_lst {es : List Expr} {dr : DA} (h : DPA X E es dr) : DPE X E (.List es pos) (dLst dr) := by
  refine pe_imp (pe_lst h) fun σ H Q h => ?_
  obtain ⟨g, env, c, P, rel, q, k⟩ := h
  refine ⟨g, env, c, _, rel, q, fun xs c1 g1 H1 vs p1 m1 r1 o1 f1 => ?_⟩
  obtain ⟨ds, h1, h2⟩ := datsK_all o1 p1
  refine ⟨by rw [DpAll.len h2]; exact h1.1, fun p hp => ?_⟩
  obtain ⟨r2, m2⟩ := r1.new (.lst vs) hp
  exact k _ _ _ _ _ h1.2 (m1.trans m2) r2 (.lst (.of upd_same) (dpAll_mono m2.f h2)) trivial

def rdLen : List PyData → (PyData → Prop) → Prop := fun ds P => match ds with
  | [.list xs] => P (.int xs.length)
  | [.tuple xs] => P (.int xs.length)
  | _ => False
theorem cd_len {K : PySem.W.Frag} : CallD K (fun xs H Q => ∃ p ys, xs = [V.ref p] ∧ (SqL K H p ys ∨ SqT K H p ys) ∧ Q (.int ys.length) H) rdLen := by
  intro E g env c σ H xs ds P Q r h q k
  unfold rdLen at q
  split at q
  · cases h with
    | cons h1 t =>
      cases t
      cases h1 with
      | lst hs ha => exact ⟨_, _, rfl, .inl (r.ex.seq hs), by rw [DpAll.len ha]; exact k _ g H _ q (Mv.refl g H) r (.int _)⟩
  · cases h with
    | cons h1 t =>
      cases t
      cases h1 with
      | tup hs ha => exact ⟨_, _, rfl, .inr (seqT r.ex (.inl (.inl hs))), by rw [DpAll.len ha]; exact k _ g H _ q (Mv.refl g H) r (.int _)⟩
  · exact q.elim
def rdTuple : List PyData → (PyData → Prop) → Prop := fun ds P => match ds with
  | [.list xs] => P (.tuple xs)
  | [.tuple xs] => P (.tuple xs)
  | _ => False
theorem cd_tuple {K : PySem.W.Frag} : CallD K (fun xs H Q => ∃ p ys, xs = [V.ref p] ∧ ((SqL K H p ys ∧ ∀ l, H l = none → Q (.ref l) (upd H l (.tup ys))) ∨ (SqT K H p ys ∧ Q (.ref p) H))) rdTuple := by
  intro E g env c σ H xs ds P Q r h q k
  unfold rdTuple at q
  split at q
  · cases h with
    | cons h1 t =>
      cases t
      cases h1 with
      | lst hs ha =>
        refine ⟨_, _, rfl, .inl ⟨r.ex.seq hs, fun l hl => ?_⟩⟩
        obtain ⟨r2, m2⟩ := r.new (.tup _) hl
        exact k _ _ _ _ q m2 r2 (.tup upd_same (dpAll_mono m2.f ha))
  · cases h with
    | cons h1 t =>
      cases t
      cases h1 with
      | tup hs ha => exact ⟨_, _, rfl, .inr ⟨seqT r.ex (.inl (.inl hs)), k _ g H _ q (Mv.refl g H) r (.tup hs ha)⟩⟩
  · exact q.elim
def intsOf : List PyData → Option (List Int)
  | [] => some []
  | .int i :: r => (intsOf r).map (i :: ·)
  | _ :: _ => none
theorem intsOf_dp {K : PySem.W.Frag} {F : Hp} : ∀ {ds : List PyData} {xs : List V} {ns : List Int}, intsOf ds = some ns → DpAll K F xs ds → xs = ns.map V.int
  | [], _, ns, e, h => by
    cases h
    cases e
    rfl
  | .int i :: r, _, ns, e, h => by
    cases h with
    | cons h1 t =>
      unfold intsOf at e
      cases hr : intsOf r with
      | none => rw [hr] at e; cases e
      | some ms =>
        rw [hr] at e
        cases e
        rw [dp_int h1, intsOf_dp hr t]
        rfl
  | .none :: _, _, _, e, _ => by cases e
  | .bool _ :: _, _, _, e, _ => by cases e
  | .str _ :: _, _, _, e, _ => by cases e
  | .list _ :: _, _, _, e, _ => by cases e
  | .tuple _ :: _, _, _, e, _ => by cases e
  | .dict _ :: _, _, _, e, _ => by cases e
theorem intsOf_map (ns : List Int) : intsOf (ns.map PyData.int) = some ns := by
  induction ns with
  | nil => rfl
  | cons n r ih => simp [intsOf, ih]
def rdMax2 : List PyData → (PyData → Prop) → Prop := fun ds P => match ds with
  | [.int i, .int j] => P (.int (max i j))
  | _ => False
def rdMin2 : List PyData → (PyData → Prop) → Prop := fun ds P => match ds with
  | [.int i, .int j] => P (.int (min i j))
  | _ => False
theorem cd_max2 {K : PySem.W.Frag} : CallD K (fun xs H Q => ∃ i j, xs = [V.int i, V.int j] ∧ Q (.int (if j > i then j else i)) H) rdMax2 := by
  intro E g env c σ H xs ds P Q r h q k
  unfold rdMax2 at q
  split at q
  · rename_i i j
    cases h with
    | cons h1 t =>
      cases t with
      | cons h2 t =>
        cases t
        rw [dp_int h1, dp_int h2]
        refine ⟨i, j, rfl, ?_⟩
        have e : (if j > i then j else i) = max i j := by
          split <;> omega
        rw [e]
        exact k _ g H _ q (Mv.refl g H) r (.int _)
  · exact q.elim
theorem cd_min2 {K : PySem.W.Frag} : CallD K (fun xs H Q => ∃ i j, xs = [V.int i, V.int j] ∧ Q (.int (if j < i then j else i)) H) rdMin2 := by
  intro E g env c σ H xs ds P Q r h q k
  unfold rdMin2 at q
  split at q
  · rename_i i j
    cases h with
    | cons h1 t =>
      cases t with
      | cons h2 t =>
        cases t
        rw [dp_int h1, dp_int h2]
        refine ⟨i, j, rfl, ?_⟩
        have e : (if j < i then j else i) = min i j := by
          split <;> omega
        rw [e]
        exact k _ g H _ q (Mv.refl g H) r (.int _)
  · exact q.elim
def rdInt1 : List PyData → (PyData → Prop) → Prop := fun ds P => match ds with
  | [.int i] => P (.int i)
  | [.bool b] => P (.int (if b then 1 else 0))
  | _ => False
theorem keys_reads {h : Heap} {P : Program} {w : World} : ∀ {es : List DictEntry} {kvs : List (Key × V)} {vs : List (Key × Value)}, Pairs (mixKind P w) es vs → KV kvs vs →
    (∃ as, ReadsAll h (es.map (·.key)) (kvs.map fun kv => keyD kv.1) as) ∧ Vals (kvs.map (·.2)) (es.map (·.val))
  | [], _, _, p, k => by
    cases p
    cases k
    exact ⟨⟨[], .nil⟩, .nil⟩
  | e :: es, _, _, p, k => by
    cases p with
    | cons h1 h2 h3 =>
      cases k with
      | @cons q r l1 l2 g1 g2 =>
        obtain ⟨⟨as, r1⟩, r2⟩ := keys_reads (h := h) h3 g2
        have hq : Reads h e.key (keyD q.1) [] := by
          rw [g1.1]
          rcases keyIs_shape h1 with ⟨i, t, e1, e2⟩ | ⟨x, t, e1, e2⟩
          · rw [e1, e2]
            exact .int i t
          · rw [e1, e2]
            exact .str x t
        refine ⟨⟨_, .cons hq r1⟩, .cons ?_ r2⟩
        show RelV q.2 e.val
        rw [h2]
        exact g1.2
theorem keys_nodict : ∀ (kvs : List (Key × V)), PyData.hasDictAll (kvs.map fun kv => keyD kv.1) = false
  | [] => rfl
  | (.inl _, _) :: r => by simpa [PyData.hasDictAll, keyD, PyData.hasDict] using keys_nodict r
  | (.inr _, _) :: r => by simpa [PyData.hasDictAll, keyD, PyData.hasDict] using keys_nodict r
mutual
/-- data with dicts, as repr sees it -/
theorem dp_shown {pins : List (Addr × Obj)} {s : Shared} {σ : L2.St} {H : Hp} (I : Inv X pins σ H s) : ∀ {v : V} {d : PyData}, Dp X.K H v d → ∀ {u : Value}, RelV v u → d.showable = true → d.shown.length ≤ sizeLine →
    (∃ as, Reads s.heap u d as) ∧ ∃ bs, ReadAtMost s.heap d.depth bs ∧ ReprK X.prog X.w bs s.heap d.depth u d.shown
  | _, _, .non, _, r, hs, hz => by
    cases r
    exact ⟨⟨_, .none⟩, ReprK.of_reads .none hs (PyData.noDict_hsm rfl) hz⟩
  | _, _, .bl b, _, r, hs, hz => by
    cases r
    exact ⟨⟨_, .bool b⟩, ReprK.of_reads (.bool b) hs (PyData.noDict_hsm rfl) hz⟩
  | _, _, .int i, _, r, hs, hz => by
    obtain ⟨t, rfl⟩ := r
    exact ⟨⟨_, .int i t⟩, ReprK.of_reads (.int i t) hs (PyData.noDict_hsm rfl) hz⟩
  | _, _, .str x, _, r, hs, hz => by
    obtain ⟨t, rfl⟩ := r
    exact ⟨⟨_, .str x t⟩, ReprK.of_reads (.str x t) hs (PyData.noDict_hsm rfl) hz⟩
  | _, _, .lst (a := a) (ds := xs) sq al, _, r, hs, hz => by
    cases r
    obtain ⟨its, rv, ⟨o, n, h1, h2, _, h3⟩, _⟩ := I.list sq
    have hz' : (listText (PyData.shownAll xs)).length ≤ sizeLine := by simpa only [PyData.shown] using hz
    obtain ⟨⟨as, h4⟩, bs, hb, hk⟩ := dpAll_shown I al rv (by simpa [PyData.showable] using hs) (fun t ht => Nat.le_trans (listText_mem_le ht) hz')
    have r : Reads s.heap (.ref a) (.list xs) _ := .list h1 h2 h3 h4
    have hna : a ∉ bs := not_mem_of_deeper r (by simp only [PyData.depth]; omega) hb
    refine ⟨⟨_, r⟩, a :: bs, ReadAtMost.cons r (by simp only [PyData.depth]; omega) hb, ?_⟩
    simp only [PyData.depth, PyData.shown]
    cases its with
    | nil =>
      cases h4
      simp only [PyData.shownAll, listText_nil]
      exact ReprK.listEmpty h1 h2 h3
    | cons x l => exact ReprK.list h1 h2 h3 hna (by simpa using hk.length_eq) (fun i y e => hk.item i y (by simpa using e))
  | _, _, .tup (a := a) (ds := xs) sq al, _, r, hs, hz => by
    cases r
    obtain ⟨its, rv, ⟨o, h1, h2, n, h3⟩, _⟩ := I.tuple (.inl (.inl sq))
    have hz' : (tupleText (PyData.shownAll xs)).length ≤ sizeLine := by simpa only [PyData.shown] using hz
    obtain ⟨⟨as, h4⟩, bs, hb, hk⟩ := dpAll_shown I al rv (by simpa [PyData.showable] using hs) (fun t ht => Nat.le_trans (tupleText_mem_le ht) hz')
    have r : Reads s.heap (.ref a) (.tuple xs) _ := .tuple h1 h2 h3 h4
    have hna : a ∉ bs := not_mem_of_deeper r (by simp only [PyData.depth]; omega) hb
    refine ⟨⟨_, r⟩, a :: bs, ReadAtMost.cons r (by simp only [PyData.depth]; omega) hb, ?_⟩
    simp only [PyData.depth, PyData.shown]
    exact ReprK.tuple h1 h2 h3 hna hk
  | _, _, .dct (a := a) (kvs := kvs) (ds := ds) e al, _, r, hs, hz => by
    cases r
    obtain ⟨_, hsys, vs, kv, o, es, ep, h1, h2, h3, _, pr, _⟩ := (show ObjOk X.prog X.w H s.heap a (.dK kvs) from I.hok a _ e)
    obtain ⟨⟨as₁, q4⟩, rv⟩ := keys_reads (h := s.heap) pr kv
    have hl : kvs.length = ds.length := by simpa using al.len
    have e1 : ((kvs.map fun kv => keyD kv.1).zip ds).map (·.1) = kvs.map fun kv => keyD kv.1 := List.map_fst_zip (by simp [hl])
    have e2 : ((kvs.map fun kv => keyD kv.1).zip ds).map (·.2) = ds := List.map_snd_zip (by simp [hl])
    generalize hg : (kvs.map fun kv => keyD kv.1).zip ds = KS at *
    have hz' : (dictText (PyData.shownKv KS)).length ≤ sizeLine := by simpa only [PyData.shown] using hz
    obtain ⟨hs1, hs2⟩ := PyData.showableKv_split KS (by simpa [PyData.showable] using hs)
    rw [← e1] at q4
    obtain ⟨b1, hb1, k1⟩ := ReprAllK.of_readsAll (prog := X.prog) (w := X.w) q4 hs1 (fun hx => by rw [e1, keys_nodict] at hx; cases hx) (fun t ht => let ⟨p, hp, hl⟩ := PyData.shownKv_key_le KS t ht; Nat.le_trans hl (Nat.le_trans (dictText_mem_le hp) hz'))
    obtain ⟨⟨bs₁, q5⟩, b2, hb2, k2⟩ := dpAll_shown I al rv (by rw [← e2]; exact hs2) (fun t ht => let ⟨p, hp, hl⟩ := PyData.shownKv_val_le KS t (by rw [e2]; exact ht); Nat.le_trans hl (Nat.le_trans (dictText_mem_le hp) hz'))
    rw [← e2] at q5 hb2 k2
    have r : Reads s.heap (.ref a) (.dict KS) _ := .dict h1 h2.1 h3 q4 q5
    have hb : ReadAtMost s.heap (PyData.depthKv KS) (b1 ++ b2) := (hb1.mono (PyData.depthAll_keys_le KS)).append (hb2.mono (PyData.depthAll_vals_le KS))
    have hna : a ∉ b1 ++ b2 := not_mem_of_deeper r (by simp only [PyData.depth]; omega) hb
    refine ⟨⟨_, r⟩, a :: (b1 ++ b2), ReadAtMost.cons r (by simp only [PyData.depth]; omega) hb, ?_⟩
    simp only [PyData.depth, PyData.shown, PyData.shownKv_eq]
    exact ReprK.dict h1 h2.1 h3 hsys hna (ReprEntriesK.of_two es.toList _ _
      (k1.more_le (fun b hb => List.mem_append_left _ hb) (PyData.depthAll_keys_le KS)) (k2.more_le (fun b hb => List.mem_append_right _ hb) (PyData.depthAll_vals_le KS)))
theorem dpAll_shown {pins : List (Addr × Obj)} {s : Shared} {σ : L2.St} {H : Hp} (I : Inv X pins σ H s) : ∀ {vs : List V} {ds : List PyData}, DpAll X.K H vs ds → ∀ {us : List Value}, Vals vs us → PyData.showableAll ds = true → (∀ t ∈ PyData.shownAll ds, t.length ≤ sizeLine) →
    (∃ as, ReadsAll s.heap us ds as) ∧ ∃ bs, ReadAtMost s.heap (PyData.depthAll ds) bs ∧ ReprAllK X.prog X.w bs s.heap (PyData.depthAll ds) us (PyData.shownAll ds)
  | _, _, .nil, _, r, _, _ => by
    cases r
    exact ⟨⟨_, .nil⟩, [], (fun _ h => nomatch h), by simp only [PyData.shownAll]; exact .nil⟩
  | _, _, .cons (d := d) (ds := ds) h t, _, r, hs, hz => by
    cases r with
    | cons r1 r2 =>
      have hs' : d.showable = true ∧ PyData.showableAll ds = true := by simpa [PyData.showableAll] using hs
      obtain ⟨⟨as, q1⟩, b1, hb1, k1⟩ := dp_shown I h r1 hs'.1 (hz _ (by simp only [PyData.shownAll]; exact List.mem_cons_self ..))
      obtain ⟨⟨cs, q2⟩, b2, hb2, k2⟩ := dpAll_shown I t r2 hs'.2 (fun t ht => hz t (by simp only [PyData.shownAll]; exact List.mem_cons_of_mem _ ht))
      refine ⟨⟨_, .cons q1 q2⟩, b1 ++ b2, ?_, ?_⟩
      · intro b hm
        simp only [PyData.depthAll]
        rcases List.mem_append.mp hm with hm | hm
        · obtain ⟨d', as', r', hd'⟩ := hb1 b hm
          exact ⟨d', as', r', Nat.le_trans hd' (Nat.le_max_left _ _)⟩
        · obtain ⟨d', as', r', hd'⟩ := hb2 b hm
          exact ⟨d', as', r', Nat.le_trans hd' (Nat.le_max_right _ _)⟩
      · simp only [PyData.depthAll, PyData.shownAll]
        exact .cons ((k1.more fun b hb => List.mem_append_left _ hb).level_le (Nat.le_max_left _ _)) (k2.more_le (fun b hb => List.mem_append_right _ hb) (Nat.le_max_right _ _))
end
def rRepr (K : PySem.W.Frag) : List V → Hp → VK → Prop := fun xs H Q => ∃ v d, xs = [v] ∧ Dp K H v d ∧ d.showable = true ∧ d.depth ≤ 60 ∧ d.shown.length ≤ sizeLine ∧ Q (.str d.shown) H
theorem cr_repr (hg : X.A.guards = some []) (hu : X.A.units + 64 < cLine) : CallR X (.builtin "repr") (rRepr X.K) := by
  intro pins s σ H xs us Q I r h
  obtain ⟨v, d, rfl, hd, h1, h2, h3, q⟩ := h
  obtain ⟨u, rfl, ru⟩ := vals1 r
  cases hd with
  | non =>
    cases ru
    exact PySem.P.repr_of_none ⟨.str _, H, I.tok _, ⟨_, rfl⟩, q⟩
  | bl b =>
    cases ru
    exact PySem.P.repr_of_bool ⟨.str _, H, I.tok _, ⟨_, rfl⟩, by cases b <;> exact q⟩
  | int i =>
    obtain ⟨t, rfl⟩ := ru
    exact PySem.P.repr_of_int (of_decide_eq_true h1) ⟨.str _, H, I.tok _, ⟨_, rfl⟩, q⟩
  | str x =>
    obtain ⟨t, rfl⟩ := ru
    exact PySem.P.repr_of_str ⟨.str _, H, I.tok _, ⟨_, rfl⟩, q⟩ h3
  | lst hs ha =>
    rename_i a vs xs
    cases ru
    obtain ⟨its, rv, ⟨o, n, g1, g2, _, g3⟩, _⟩ := I.list hs
    have hz' : (listText (PyData.shownAll xs)).length ≤ sizeLine := by simpa only [PyData.shown] using h3
    obtain ⟨⟨as, g4⟩, bs, hb, hk⟩ := dpAll_shown I ha rv (by simpa [PyData.showable] using h1) (fun t ht => Nat.le_trans (listText_mem_le ht) hz')
    have hna : a ∉ bs := not_mem_of_deeper (.list g1 g2 g3 g4) (by simp only [PyData.depth]; omega) hb
    have hq : ∀ h' u tk, (∀ b o, s.heap.get? b = some o → h'.get? b = some o) → ∃ x t, Value.str (listText (PyData.shownAll xs)) u = .str x t ∧ ∃ y H1, Inv X pins σ H1 { s with heap := h', toks := tk } ∧ RelV y (Value.str (listText (PyData.shownAll xs)) u) ∧ Q y H1 := fun h' u tk hk => ⟨_, _, rfl, .str _, H, I.kept hk, ⟨_, rfl⟩, by simpa only [PyData.shown] using q⟩
    refine call_repr_slot (by omega) ⟨o, g1, g2⟩ PySem.F.slot_list_repr.toG ?_
    cases its with
    | nil =>
      cases g4
      simp only [PyData.shownAll, listText_nil] at hq
      exact call_list_repr_empty ⟨o, g1, g2⟩ g1 g3 (hq s.heap _ _ fun _ _ e => e)
    | cons x l =>
      simp only [PyData.depth] at h2
      exact call_list_reprK g1 g2 g3 hna (by simpa using hk.length_eq) (fun i y e => hk.item i y (by simpa using e)) hg (fun b _ => Clear.nil b) (by show X.A.units + 1 + _ < cLine; omega) (fun _ _ e => e) hq hz'
  | tup hs ha =>
    rename_i a vs xs
    cases ru
    obtain ⟨its, rv, ⟨o, g1, g2, n, g3⟩, _⟩ := I.tuple (.inl (.inl hs))
    have hz' : (tupleText (PyData.shownAll xs)).length ≤ sizeLine := by simpa only [PyData.shown] using h3
    obtain ⟨⟨as, g4⟩, bs, hb, hk⟩ := dpAll_shown I ha rv (by simpa [PyData.showable] using h1) (fun t ht => Nat.le_trans (tupleText_mem_le ht) hz')
    have hna : a ∉ bs := not_mem_of_deeper (.tuple g1 g2 g3 g4) (by simp only [PyData.depth]; omega) hb
    have hq : ∀ h' u tk, (∀ b o, s.heap.get? b = some o → h'.get? b = some o) → ∃ x t, Value.str (tupleText (PyData.shownAll xs)) u = .str x t ∧ ∃ y H1, Inv X pins σ H1 { s with heap := h', toks := tk } ∧ RelV y (Value.str (tupleText (PyData.shownAll xs)) u) ∧ Q y H1 := fun h' u tk hk => ⟨_, _, rfl, .str _, H, I.kept hk, ⟨_, rfl⟩, by simpa only [PyData.shown] using q⟩
    refine call_repr_slot (by omega) ⟨o, g1, g2⟩ PySem.F.slot_tuple_repr ?_
    simp only [PyData.depth] at h2
    exact call_tuple_reprK g1 g2 g3 hna hk hg (fun b _ => Clear.nil b) (by show X.A.units + 1 + _ < cLine; omega) (fun _ _ e => e) hq hz'
  | dct hs ha =>
    rename_i a kvs ds
    cases ru
    obtain ⟨_, hsys, vs, kv, o, es, ep, g1, g2, g3, _, pr, _⟩ := (show ObjOk X.prog X.w H s.heap a (.dK kvs) from I.hok a _ hs)
    obtain ⟨⟨as₁, q4⟩, rv⟩ := keys_reads (h := s.heap) pr kv
    have hl : kvs.length = ds.length := by simpa using ha.len
    have e1 : ((kvs.map fun kv => keyD kv.1).zip ds).map (·.1) = kvs.map fun kv => keyD kv.1 := List.map_fst_zip (by simp [hl])
    have e2 : ((kvs.map fun kv => keyD kv.1).zip ds).map (·.2) = ds := List.map_snd_zip (by simp [hl])
    generalize hgen : (kvs.map fun kv => keyD kv.1).zip ds = KS at *
    have hz' : (dictText (PyData.shownKv KS)).length ≤ sizeLine := by simpa only [PyData.shown] using h3
    obtain ⟨hs1, hs2⟩ := PyData.showableKv_split KS (by simpa [PyData.showable] using h1)
    rw [← e1] at q4
    obtain ⟨b1, hb1, k1⟩ := ReprAllK.of_readsAll (prog := X.prog) (w := X.w) q4 hs1 (fun hx => by rw [e1, keys_nodict] at hx; cases hx) (fun t ht => let ⟨p, hp, hl⟩ := PyData.shownKv_key_le KS t ht; Nat.le_trans hl (Nat.le_trans (dictText_mem_le hp) hz'))
    obtain ⟨⟨bs₁, q5⟩, b2, hb2, k2⟩ := dpAll_shown I ha rv (by rw [← e2]; exact hs2) (fun t ht => let ⟨p, hp, hl⟩ := PyData.shownKv_val_le KS t (by rw [e2]; exact ht); Nat.le_trans hl (Nat.le_trans (dictText_mem_le hp) hz'))
    rw [← e2] at q5 hb2 k2
    have r : Reads s.heap (.ref a) (.dict KS) _ := .dict g1 g2.1 g3 q4 q5
    have hb : ReadAtMost s.heap (PyData.depthKv KS) (b1 ++ b2) := (hb1.mono (PyData.depthAll_keys_le KS)).append (hb2.mono (PyData.depthAll_vals_le KS))
    have hna : a ∉ b1 ++ b2 := not_mem_of_deeper r (by simp only [PyData.depth]; omega) hb
    refine call_repr_slot (by omega) ⟨o, g1, g2.1⟩ PySem.F.slot_dict_repr ?_
    simp only [PyData.depth] at h2
    simp only [PyData.shown, PyData.shownKv_eq] at q
    exact call_dict_reprK g1 g2.1 g3 hsys hna (ReprEntriesK.of_two es.toList _ _
      (k1.more_le (fun b hb => List.mem_append_left _ hb) (PyData.depthAll_keys_le KS)) (k2.more_le (fun b hb => List.mem_append_right _ hb) (PyData.depthAll_vals_le KS))) hg (fun b _ => Clear.nil b) (by show X.A.units + 1 + _ < cLine; omega) (fun _ _ e => e)
      (fun h' u tk hk => ⟨_, _, rfl, .str _, H, I.kept hk, ⟨_, rfl⟩, q⟩) (by rw [← PyData.shownKv_eq]; exact hz')
/-- what repr can show -/
def shows (d : PyData) : Prop := d.showable = true ∧ d.depth ≤ 60 ∧ d.shown.length ≤ sizeLine
def rdRepr : List PyData → (PyData → Prop) → Prop := fun ds P => match ds with
  | [d] => shows d ∧ P (.str d.shown)
  | _ => False
theorem cd_repr {K : PySem.W.Frag} : CallD K (rRepr K) rdRepr := by
  intro E g env c σ H xs ds P Q r h q k
  unfold rdRepr at q
  split at q
  · cases h with
    | cons h1 t =>
      cases t
      exact ⟨_, _, rfl, dpF r h1, q.1.1, q.1.2.1, q.1.2.2, k _ g H _ q.2 (Mv.refl g H) r (.str _)⟩
  · exact q.elim
end
end DL
namespace DL
open PySem PySem.Spec PyProof.Rows L2

def boolK (d : PyData) (k : Bool → Prop) : Prop := match d with
  | .bool b => k b
  | _ => False
def tVal (da : DE) : DT := fun env c P => da env c fun x c1 => datK x fun d => boolK d fun b => P b c1
def tNt (t : DT) : DT := fun env c P => t env c fun b c1 => P (!b) c1
def tAn (t u : DT) : DT := fun env c P => t env c fun b c1 => if b = true then u env c1 P else P false c1
def tOo (t u : DT) : DT := fun env c P => t env c fun b c1 => if b = true then P true c1 else u env c1 P
def dNt (da : DE) : DE := fun env c P => da env c fun x c1 => datK x fun d => boolK d fun b => P (.dat (.bool (!b))) c1
def dAn (da db : DE) : DE := fun env c P => da env c fun x c1 => datK x fun d => boolK d fun b => if b = true then db env c1 P else P (.dat (.bool false)) c1
def dOo (da db : DE) : DE := fun env c P => da env c fun x c1 => datK x fun d => boolK d fun b => if b = true then P (.dat (.bool true)) c1 else db env c1 P
def dIfE (t : DT) (da db : DE) : DE := fun env c P => t env c fun b c1 => if b = true then da env c1 P else db env c1 P
abbrev DPW (X : Cx) (E : En) (e : Expr) (dt : DT) : Prop := PW X e (upT X.K E dt)
section
variable {X : Cx} {E : En} {a b : Expr} {da db : DE} {ta tb : DT} {pos : Pos} {rest : List Expr}
theorem dt_val (h : DPE X E a da) (he : ∀ whole, isTrue a X.env whole = (do let v ← whole; standAt a.pos; holding [v] (truthy v)) := by intro _; rfl) : DPT X E a (tVal da) := by
  refine pt_imp (pt_val h he) fun σ H Q h => ?_
  obtain ⟨g, env, c, P, rel, q, k⟩ := h
  refine ⟨g, env, c, _, rel, q, fun x c1 g1 H1 v p1 m1 r1 o1 f1 => ?_⟩
  cases x with
  | deck => exact p1.elim
  | exc _ => exact p1.elim
  | ob _ => exact p1.elim
  | own l => exact p1.elim
  | dat d =>
    cases d <;> try exact p1.elim
    exact ⟨_, dp_bl o1, k _ _ g1 H1 p1 m1 r1⟩
theorem dt_not (h : DPT X E a ta) : DPT X E (.UnaryOp .Not a pos) (tNt ta) := by
  refine pt_imp (pt_not h) fun σ H Q h => ?_
  obtain ⟨g, env, c, P, rel, q, k⟩ := h
  exact ⟨g, env, c, _, rel, q, fun x c1 g1 H1 p1 m1 r1 => k _ _ g1 H1 p1 m1 r1⟩
theorem dw_and1 (h : DPT X E a ta) : DPW X E (.BoolOp .And [a] pos) ta := pw_and1 h
theorem dw_or1 (h : DPT X E a ta) : DPW X E (.BoolOp .Or [a] pos) ta := pw_or1 h
theorem dw_and (h : DPT X E a ta) (h2 : DPW X E (.BoolOp .And (b :: rest) pos) tb) : DPW X E (.BoolOp .And (a :: b :: rest) pos) (tAn ta tb) := by
  refine pw_imp (pw_and h h2) fun σ H Q h => ?_
  obtain ⟨g, env, c, P, rel, q, k⟩ := h
  refine ⟨g, env, c, _, rel, q, fun x c1 g1 H1 p1 m1 r1 => ?_⟩
  cases x with
  | true => exact iteT ⟨g1, env, c1, _, r1, p1, fun y c2 g2 H2 p2 m2 r2 => k _ _ g2 H2 p2 (m1.trans m2) r2⟩
  | false => exact iteF (k _ _ g1 H1 p1 m1 r1)
theorem dw_or (h : DPT X E a ta) (h2 : DPW X E (.BoolOp .Or (b :: rest) pos) tb) : DPW X E (.BoolOp .Or (a :: b :: rest) pos) (tOo ta tb) := by
  refine pw_imp (pw_or h h2) fun σ H Q h => ?_
  obtain ⟨g, env, c, P, rel, q, k⟩ := h
  refine ⟨g, env, c, _, rel, q, fun x c1 g1 H1 p1 m1 r1 => ?_⟩
  cases x with
  | true => exact iteT (k _ _ g1 H1 p1 m1 r1)
  | false => exact iteF ⟨g1, env, c1, _, r1, p1, fun y c2 g2 H2 p2 m2 r2 => k _ _ g2 H2 p2 (m1.trans m2) r2⟩
theorem dt_w (h : DPW X E a ta) : DPT X E a ta := PW.pt h
theorem de_not (h : DPE X E a da) : DPE X E (.UnaryOp .Not a pos) (dNt da) := by
  refine pe_imp (pe_not h) fun σ H Q h => ?_
  obtain ⟨g, env, c, P, rel, q, k⟩ := h
  refine ⟨g, env, c, _, rel, q, fun x c1 g1 H1 v p1 m1 r1 o1 f1 => ?_⟩
  cases x with
  | deck => exact p1.elim
  | exc _ => exact p1.elim
  | ob _ => exact p1.elim
  | own l => exact p1.elim
  | dat d =>
    cases d <;> try exact p1.elim
    exact ⟨_, dp_bl o1, k _ _ g1 H1 _ p1 m1 r1 (.bl _) trivial⟩
theorem de_one {op} (h : DPE X E a da) : DPE X E (.BoolOp op [a] pos) da := pe_one h
theorem de_and (h : DPE X E a da) (h2 : DPE X E (.BoolOp .And (b :: rest) pos) db) : DPE X E (.BoolOp .And (a :: b :: rest) pos) (dAn da db) := by
  refine pe_imp (pe_and h h2) fun σ H Q h => ?_
  obtain ⟨g, env, c, P, rel, q, k⟩ := h
  refine ⟨g, env, c, _, rel, q, fun x c1 g1 H1 v p1 m1 r1 o1 f1 => ?_⟩
  cases x with
  | deck => exact p1.elim
  | exc _ => exact p1.elim
  | ob _ => exact p1.elim
  | own l => exact p1.elim
  | dat d =>
    cases d <;> try exact p1.elim
    rename_i bb
    refine ⟨bb, dp_bl o1, ?_⟩
    cases bb with
    | true => exact iteT ⟨g1, env, c1, _, r1, p1, fun y c2 g2 H2 v2 p2 m2 r2 o2 f2 => k _ _ g2 H2 v2 p2 (m1.trans m2) r2 o2 f2⟩
    | false => exact iteF (k _ _ g1 H1 _ p1 m1 r1 (.bl _) trivial)
theorem de_ifE {t : Expr} (ht : DPT X E t ta) (h : DPE X E a da) (h2 : DPE X E b db) : DPE X E (.IfExp t a b pos) (dIfE ta da db) := by
  refine pe_imp (pe_ifExp ht h h2) fun σ H Q h => ?_
  obtain ⟨g, env, c, P, rel, q, k⟩ := h
  refine ⟨g, env, c, _, rel, q, fun x c1 g1 H1 p1 m1 r1 => ?_⟩
  cases x with
  | true => exact iteT ⟨g1, env, c1, _, r1, p1, fun y c2 g2 H2 v2 p2 m2 r2 o2 f2 => k _ _ g2 H2 v2 p2 (m1.trans m2) r2 o2 f2⟩
  | false => exact iteF ⟨g1, env, c1, _, r1, p1, fun y c2 g2 H2 v2 p2 m2 r2 o2 f2 => k _ _ g2 H2 v2 p2 (m1.trans m2) r2 o2 f2⟩
end

section
variable {K : PySem.W.Frag} {E : En} {g g' : Gh} {env env' : Ev} {c c' : Ct} {σ σ' : L2.St} {H H' : Hp}
/-- behind a block: the slots as they were -/
theorem Rel.back (r : Rel K E g env c σ H) (r' : Rel K E g' env' c' σ' H') (m : Mv g H g' H') : Rel K E g' env c' σ H' := by
  refine ⟨r'.mo, r'.om, r'.md, r'.mt, r'.dn, r'.on, r'.nf, r'.fr, r.nw, r'.ex, fun i x e => ?_, r.ap, r'.dk, r.len⟩
  obtain ⟨v, h1, h2⟩ := r.sl i x e
  refine ⟨v, h1, ?_⟩
  cases x with
  | dat d => exact dp_mono m.f h2
  | exc _ => exact h2
  | ob _ => first | exact h2 | exact ⟨h2.1, m.o _ h2.2⟩
  | deck =>
    obtain ⟨p, q, e, z⟩ := h2
    exact ⟨p, q, by rw [m.d]; exact e, z⟩
  | own l =>
    obtain ⟨a, xs, rfl, h3, h4, h5, h6⟩ := h2
    refine ⟨a, xs, rfl, ?_, fun z => h4 (m.dkIs h5 z), m.fr.k a _ h5 (ntL h4), dpAll_mono m.f h6⟩
    cases q : g'.F a with
    | none => rfl
    | some o =>
      rcases m.nf a o q with w | w
      · rw [h3] at w
        cases w
      · rw [h5] at w
        cases w
def wipeE (env : Ev) : List Nat → Ev
  | [] => env
  | v :: vs => (wipeE env vs).set v none
theorem wipeE_len : ∀ vs : List Nat, (wipeE env vs).length = env.length
  | [] => rfl
  | v :: vs => by
    unfold wipeE
    rw [List.length_set, wipeE_len vs]
theorem wipeE_some {i : Nat} {x : Vl} : ∀ {vs : List Nat}, (wipeE env vs)[i]? = some (some x) → env[i]? = some (some x) ∧ i ∉ vs
  | [], h => ⟨h, by simp⟩
  | v :: vs, h => by
    unfold wipeE at h
    by_cases hi : v = i
    · subst hi
      by_cases hv : v < (wipeE env vs).length
      · rw [List.getElem?_set_self hv] at h; cases h
      · rw [List.getElem?_eq_none (by simpa using hv)] at h; cases h
    · rw [List.getElem?_set_ne hi] at h
      obtain ⟨h1, h2⟩ := wipeE_some h
      exact ⟨h1, by simp only [List.mem_cons, not_or]; exact ⟨fun e => hi e.symm, h2⟩⟩
theorem wipe_out {i : Nat} : ∀ {vs : List Nat}, i ∉ vs → (wipe σ vs)[i]? = σ[i]?
  | [], _ => rfl
  | v :: vs, h => by
    unfold wipe
    rw [List.getElem?_set_ne (fun e => h (by rw [e]; exact List.mem_cons_self)), wipe_out fun z => h (List.mem_cons_of_mem _ z)]
theorem wipe_in {i : Nat} : ∀ {vs : List Nat}, i ∈ vs → i < σ.length → (wipe σ vs)[i]? = some none
  | [], h, _ => by cases h
  | v :: vs, h, hl => by
    unfold wipe
    by_cases e : v = i
    · subst e
      rw [List.getElem?_set_self (by rw [wipe_length]; exact hl)]
    · rw [List.getElem?_set_ne e]
      exact wipe_in ((List.mem_cons.mp h).resolve_left fun z => e z.symm) hl
theorem Rel.wipe (r : Rel K E g env c σ H) (vs : List Nat) : Rel K E g (wipeE env vs) c (L2.wipe σ vs) H := by
  refine ⟨r.mo, r.om, r.md, r.mt, r.dn, r.on, r.nf, r.fr, fun i l e a ea => ?_, r.ex, fun i x e => ?_, fun i j li lj a ne e1 e2 e3 e4 => ?_, r.dk, by rw [wipeE_len, wipe_length]; exact r.len⟩
  · obtain ⟨e1, n1⟩ := wipeE_some e
    rw [wipe_out n1] at ea
    exact r.nw i l e1 a ea
  · obtain ⟨e1, n1⟩ := wipeE_some e
    rw [wipe_out n1]
    exact r.sl i x e1
  · obtain ⟨f1, n1⟩ := wipeE_some e1
    obtain ⟨f2, n2⟩ := wipeE_some e2
    rw [wipe_out n1] at e3
    rw [wipe_out n2] at e4
    exact r.ap i j li lj a ne f1 f2 e3 e4
theorem ag_wipe {ws vs : List Nat} (h : Ag ws (wipe σ vs) σ') (hs : ∀ i ∈ ws, i ∈ vs) : wipe σ' vs = wipe σ vs := by
  have hl : σ'.length = σ.length := by rw [h.1, wipe_length]
  apply List.ext_getElem?
  intro i
  by_cases hv : i ∈ vs
  · by_cases hi : i < σ.length
    · rw [wipe_in hv hi, wipe_in hv (by rw [hl]; exact hi)]
    · rw [List.getElem?_eq_none (by rw [wipe_length, hl]; omega), List.getElem?_eq_none (by rw [wipe_length]; omega)]
  · rw [wipe_out hv, h.2 i fun z => hv (hs i z)]
end

def gNm (i : Nat) : DG := fun x env k => k (env.set i (some x))
def gsNil : DGs := fun ds env k => match ds with
  | [] => k env
  | _ => False
def gsCons (t : DG) (u : DGs) : DGs := fun ds env k => match ds with
  | d :: r => t (.dat d) env fun env' => u r env' k
  | [] => False
def gTu (n : Nat) (u : DGs) : DG := fun x env k => datK x fun d => match d with
  | .tuple ds => ds.length = n ∧ u ds env k
  | _ => False
section
variable {X : Cx} {E : En} {pos : Pos}
theorem dg_name (i : Nat) {x : Str} (hN : X.N.Nodup) (hi : X.N[i]? = some x := by rfl) (hx : Loc X.env.scope x := by first | exact Or.inl rfl | exact Or.inr rfl) (hf : X.fn x = true ∨ X.env.scope.names.lookup x = some .local := by first | exact .inl rfl | exact .inr rfl | assumption) : DPG X E [i] (.Name x pos) (gNm i) := by
  refine pg_imp (pg_name hN hi hx hf) fun v σ H Q h => ?_
  obtain ⟨g, env, c, x, P, rel, o, f, q, k⟩ := h
  exact k _ g _ H q (Mv.refl g H) (rel.set i o f) ⟨by simp, fun j hj => List.getElem?_set_ne fun e => hj (by simp [e])⟩
theorem dgs_nil : DPGs X E [] [] gsNil := by
  refine ⟨fun pins s σ H vs us Q I r h => pgs_nil.run pins s σ H vs us Q I r ?_⟩
  obtain ⟨g, env, c, ds, P, rel, o, q, k⟩ := h
  cases ds with
  | cons d r => exact q.elim
  | nil =>
    cases o
    exact ⟨rfl, k _ g _ H q (Mv.refl g H) rel ⟨rfl, fun _ _ => rfl⟩⟩
theorem dgs_cons {e : Expr} {es : List Expr} {t : DG} {u : DGs} {ws vs : List Nat} (h1 : DPG X E ws e t) (h2 : DPGs X E vs es u)
    (h3 : (assignEach (e :: es) X.env).map (·.2) = assign e X.env :: (assignEach es X.env).map (·.2) := by rfl) : DPGs X E (ws ++ vs) (e :: es) (gsCons t u) := by
  refine ⟨fun pins s σ H vs' us Q I r h => (pgs_cons h1 h2 h3).run pins s σ H vs' us Q I r ?_⟩
  obtain ⟨g, env, c, ds, P, rel, o, q, k⟩ := h
  cases ds with
  | nil => exact q.elim
  | cons d rr =>
    cases o with
    | cons o1 o2 =>
      refine ⟨_, _, rfl, g, env, c, .dat d, _, rel, o1, trivial, q, fun env1 g1 σ1 H1 p1 m1 r1 a1 => ⟨g1, env1, c, rr, _, r1, dpAll_mono m1.f o2, p1, fun env2 g2 σ2 H2 p2 m2 r2 a2 => k _ g2 σ2 H2 p2 (m1.trans m2) r2 ⟨a2.1.trans a1.1, fun i hi => ?_⟩⟩⟩
      rw [List.mem_append, not_or] at hi
      rw [a2.2 i hi.2, a1.2 i hi.1]
theorem dg_tup {es : List Expr} {kk : Nat} {t : DGs} {n : Nat} {ws : List Nat} (h : DPGs X E ws es t) (hc : X.calm = true := by rfl)
    (hn : (assignEach es X.env).length = n := by rfl) (hst : (assignEach es X.env).findIdx? (·.1) = none := by rfl) : DPG X E ws (.Tuple es kk pos) (gTu n t) := by
  refine pg_imp (pg_tup hc h hn hst) fun v σ H Q h => ?_
  obtain ⟨g, env, c, x, P, rel, o, f, q, k⟩ := h
  cases x with
  | deck => exact q.elim
  | exc _ => exact q.elim
  | ob _ => exact q.elim
  | own l => exact f.elim
  | dat d =>
    cases d <;> try exact q.elim
    rename_i ds
    have o : Dp X.K g.F v (.tuple ds) := o
    cases o with
    | tup hs ha => exact ⟨_, _, rfl, seqT rel.ex (.inl (.inl hs)), (DpAll.len ha).trans q.1, g, env, c, ds, _, rel, ha, q.2, k⟩
end
end DL
namespace DL
open PySem PySem.Spec PyProof.Rows L2
section
variable {X : Cx} {E : En} {a b : Expr} {da db : DE} {pos : Pos}
theorem tB_up {K : PySem.W.Frag} {t : TE} (i : ∀ σ H Q, up K E da σ H Q → t σ H Q) {σ : L2.St} {H : Hp} {Q : Bool → Hp → Prop} (h : upT K E (tVal da) σ H Q) : tB t σ H Q := by
  obtain ⟨g, env, c, P, rel, q, k⟩ := h
  refine i σ H _ ⟨g, env, c, _, rel, q, fun x c1 g1 H1 v p1 m1 r1 o1 f1 => ?_⟩
  cases x with
  | deck => exact p1.elim
  | exc _ => exact p1.elim
  | ob _ => exact p1.elim
  | own l => exact p1.elim
  | dat d =>
    cases d <;> try exact p1.elim
    exact ⟨_, dp_bl o1, k _ _ g1 H1 p1 m1 r1⟩
theorem dt_cmp {op : CmpOp} {r : R2} {rd : PyData → PyData → (PyData → Prop) → Prop} (ho : OpR X (compareOp op) r) (hd : OpD X.K r rd) (ha : DPE X E a da) (hb : DPE X E b db) (hm : behindInMarks op b = false := by first | exact nobehind _ (by decide) (by decide) | rfl) :
    DPT X E (.Compare a [op] [b] pos) (tVal (dOp rd da db)) := pt_imp (pt_cmpR ho ha hb hm) fun _ _ _ h => tB_up (fun _ _ _ h => op_up hd h) h
theorem dt_lt (ha : DPE X E a da) (hb : DPE X E b db) : DPT X E (.Compare a [.Lt] [b] pos) (tVal (dOp rdLt da db)) := dt_cmp op_lt (opd_I0 fun _ _ _ _ => .bl _) ha hb
theorem dt_gt (ha : DPE X E a da) (hb : DPE X E b db) : DPT X E (.Compare a [.Gt] [b] pos) (tVal (dOp rdGt da db)) := dt_cmp op_gt (opd_I0 fun _ _ _ _ => .bl _) ha hb
theorem dt_eq {k : Nat} (hr : Room k X.A) (ha : DPE X E a da) (hb : DPE X E b db) : DPT X E (.Compare a [.Eq] [b] pos) (tVal (dOp rdEq da db)) := dt_cmp (op_or op_eq (op_eqD hr.units)) opd_eq ha hb
theorem dt_ne {k : Nat} (hr : Room k X.A) (ha : DPE X E a da) (hb : DPE X E b db) : DPT X E (.Compare a [.NotEq] [b] pos) (tVal (dOp rdNe da db)) := dt_cmp (op_or op_ne (op_neD hr.units)) opd_ne ha hb
theorem isN_up {K : PySem.W.Frag} {σ : L2.St} {H : Hp} {Q : VK} (h : up K E (dUn rdIsN da) σ H Q) : tIsN (up K E da) σ H Q := by
  obtain ⟨g, env, c, P, rel, q, k⟩ := h
  refine ⟨g, env, c, _, rel, q, fun x c1 g1 H1 v p1 m1 r1 o1 f1 => ?_⟩
  cases x with
  | deck => exact p1.elim
  | exc _ => exact p1.elim
  | ob _ => exact p1.elim
  | own l => exact p1.elim
  | dat d =>
    rcases dp_isN o1 with ⟨rfl, rfl⟩ | ⟨n1, n2⟩
    · exact k _ _ g1 H1 (.bl (decide (V.non = .non))) p1 m1 r1 (.bl _) trivial
    · have p1' : P (.dat (.bool false)) c1 := by
        cases d <;> first | exact absurd rfl n1 | exact p1
      rw [decide_eq_false n2]
      exact k _ _ g1 H1 (.bl false) p1' m1 r1 (.bl _) trivial
theorem notN_up {K : PySem.W.Frag} {σ : L2.St} {H : Hp} {Q : VK} (h : up K E (dUn rdNotN da) σ H Q) : tNotN (up K E da) σ H Q := by
  obtain ⟨g, env, c, P, rel, q, k⟩ := h
  refine ⟨g, env, c, _, rel, q, fun x c1 g1 H1 v p1 m1 r1 o1 f1 => ?_⟩
  cases x with
  | deck => exact p1.elim
  | exc _ => exact p1.elim
  | ob _ => exact p1.elim
  | own l => exact p1.elim
  | dat d =>
    rcases dp_isN o1 with ⟨rfl, rfl⟩ | ⟨n1, n2⟩
    · exact k _ _ g1 H1 (.bl (!decide (V.non = .non))) p1 m1 r1 (.bl _) trivial
    · have p1' : P (.dat (.bool true)) c1 := by
        cases d <;> first | exact absurd rfl n1 | exact p1
      rw [decide_eq_false n2]
      exact k _ _ g1 H1 (.bl true) p1' m1 r1 (.bl _) trivial
theorem dt_isN {j} {p2 : Pos} (ha : DPE X E a da) : DPT X E (.Compare a [.Is] [.Constant .none j p2] pos) (tVal (dUn rdIsN da)) := pt_imp (pt_cmp (pc_isN ha) rfl) fun _ _ _ h => tB_up (fun _ _ _ h => isN_up h) h
theorem dt_notN {j} {p2 : Pos} (ha : DPE X E a da) : DPT X E (.Compare a [.IsNot] [.Constant .none j p2] pos) (tVal (dUn rdNotN da)) := pt_imp (pt_cmp (pc_notN ha) rfl) fun _ _ _ h => tB_up (fun _ _ _ h => notN_up h) h
end
end DL
namespace DL
open PySem PySem.Spec PyProof.Rows L2

def sNx : DS := fun D env c => D.nx env c
def sSeq (s t : DS) : DS := fun D env c => s { D with nx := t D } env c
def sRet (da : DE) : DS := fun D env c => da env c D.rt
def sRetN : DS := fun D _ c => D.rt (.dat .none) c
def sAsg (da : DE) (dg : DG) : DS := fun D env c => da env c fun x c1 => dg x env fun env' => D.nx env' c1
def sIf (t : DT) (s u : DS) : DS := fun D env c => t env c fun b c1 => if b = true then s D env c1 else u D env c1
def sDrop (da : DE) : DS := fun D env c => da env c fun _ c1 => D.nx env c1
def sBrk : DS := fun D env c => D.bk env c
def sCnt : DS := fun D env c => D.ct env c
section
variable {X : Cx} {E : En} {st : Stmt} {rest : List Stmt} {t u : DS} {a : Expr} {da : DE} {pos : Pos}
theorem ds_nil : DPSs X E [] sNx := by
  refine pss_imp pss_nil fun D σ H h => ?_
  obtain ⟨g, env, c, P, rel, q, k, _⟩ := h
  exact k _ _ g σ H q (Same.refl _) rel
theorem ds_cons (h1 : DPS X E st t) (h2 : DPSs X E rest u) : DPSs X E (st :: rest) (sSeq t u) := by
  refine pss_imp (pss_cons h1 h2) fun D σ H h => ?_
  obtain ⟨g, env, c, P, rel, q, k1, k2, k3, k4⟩ := h
  refine ⟨g, env, c, _, rel, q, fun env1 c1 g1 σ1 H1 p1 m1 r1 => ⟨g1, env1, c1, P, r1, p1, fun env2 c2 g2 σ2 H2 p2 m2 r2 => k1 env2 c2 g2 σ2 H2 p2 (m1.trans m2) r2, fun x c2 env2 g2 σ2 H2 v p2 m2 r2 => k2 x c2 env2 g2 σ2 H2 v p2 (m1.trans m2) r2,
    fun env2 c2 g2 σ2 H2 p2 m2 r2 => k3 env2 c2 g2 σ2 H2 p2 (m1.trans m2) r2, fun env2 c2 g2 σ2 H2 p2 m2 r2 => k4 env2 c2 g2 σ2 H2 p2 (m1.trans m2) r2⟩, k2, k3, k4⟩
theorem ds_one (h1 : DPS X E st t) : DPSs X E [st] t := pss_one h1
theorem ds_ret (h : DPE X E a da) : DPS X E (.Return (some a) pos) (sRet da) := by
  refine ps_imp (ps_ret h) fun D σ H h => ?_
  obtain ⟨g, env, c, P, rel, q, _, k, _⟩ := h
  exact ⟨g, env, c, _, rel, q, fun x c1 g1 H1 v p1 m1 r1 o1 f1 => k x c1 env g1 σ H1 v p1 m1.f r1 o1 f1⟩
theorem asg_up {K : PySem.W.Frag} {ws : List Nat} {dg : DG} {D : Ends} {σ : L2.St} {H : Hp} (h : upS K E (sAsg da dg) D σ H) : tAsg (up K E da) (upG K E ws dg) D σ H := by
  obtain ⟨g, env, c, P, rel, q, k, _⟩ := h
  exact ⟨g, env, c, _, rel, q, fun x c1 g1 H1 v p1 m1 r1 o1 f1 => ⟨g1, env, c1, x, _, r1, o1, f1, p1, fun env2 g2 σ2 H2 p2 m2 r2 _ => k env2 c1 g2 σ2 H2 p2 (m1.f.trans m2.f) r2⟩⟩
theorem asgN_up {K : PySem.W.Frag} {i : Nat} {D : Ends} {σ : L2.St} {H : Hp} (h : upS K E (sAsg da (gNm i)) D σ H) : tAsg (up K E da) (gName i) D σ H := by
  obtain ⟨g, env, c, P, rel, q, k, _⟩ := h
  exact ⟨g, env, c, _, rel, q, fun x c1 g1 H1 v p1 m1 r1 o1 f1 => k _ c1 g1 _ H1 p1 m1.f (r1.set i o1 f1)⟩
/-- x = e -/
theorem ds_set (i : Nat) {x : Str} {p2 : Pos} (hN : X.N.Nodup) (h : DPE X E a da) (hi : X.N[i]? = some x := by rfl) (hx : Loc X.env.scope x := by first | exact Or.inl rfl | exact Or.inr rfl) (hs : swapsWith a (some (.Name x p2)) pos.line X.env = pure false := by rfl) (hf : X.fn x = true ∨ X.env.scope.names.lookup x = some .local := by first | exact .inl rfl | exact .inr rfl | assumption) :
    DPS X E (.Assign [.Name x p2] a pos) (sAsg da (gNm i)) := ps_imp (ps_set hN hi hx h hs hf) fun _ _ _ h => asgN_up h
/-- target = e -/
theorem ds_asg {tg : Expr} {ws : List Nat} {dg : DG} (h : DPE X E a da) (hg : DPG X E ws tg dg) (hs : swapsWithSole [tg] a pos.line X.env = pure false := by rfl) (hw : swappedStores [tg] a X.env = pure none := by rfl)
    (h1 : (assignEach [tg] X.env).map (·.2) = [assign tg X.env] := by rfl) : DPS X E (.Assign [tg] a pos) (sAsg da dg) := ps_imp (ps_asg h hg hs hw h1) fun _ _ _ h => asg_up h
theorem ds_if {tt : DT} {s1 s2 : List Stmt} (h : DPT X E a tt) (h1 : DPSs X E s1 t) (h2 : DPSs X E s2 u) : DPS X E (.If a s1 s2 pos) (sIf tt t u) := by
  refine ps_imp (ps_if h h1 h2) fun D σ H h => ?_
  obtain ⟨g, env, c, P, rel, q, k1, k2, k3, k4⟩ := h
  refine ⟨g, env, c, _, rel, q, fun b c1 g1 H1 p1 m1 r1 => ?_⟩
  have fin : ∀ {w : DS}, w P env c1 → upS X.K E w D σ H1 := fun {w} p => ⟨g1, env, c1, P, r1, p, fun env2 c2 g2 σ2 H2 p2 m2 r2 => k1 env2 c2 g2 σ2 H2 p2 (m1.f.trans m2) r2, fun x c2 env2 g2 σ2 H2 v p2 m2 r2 => k2 x c2 env2 g2 σ2 H2 v p2 (m1.f.trans m2) r2,
    fun env2 c2 g2 σ2 H2 p2 m2 r2 => k3 env2 c2 g2 σ2 H2 p2 (m1.f.trans m2) r2, fun env2 c2 g2 σ2 H2 p2 m2 r2 => k4 env2 c2 g2 σ2 H2 p2 (m1.f.trans m2) r2⟩
  cases b with
  | true => exact iteT (fin p1)
  | false => exact iteF (fin p1)
/-- a, b = e1, e2 -/
def sPar (i j : Nat) (da : DA) : DS := fun D env c => da env c fun xs c1 => match xs with
  | [x, y] => D.nx ((env.set i (some x)).set j (some y)) c1
  | _ => False
theorem par_up {K : PySem.W.Frag} {i j : Nat} {dr : DA} {D : Ends} {σ : L2.St} {H : Hp} (h : upS K E (sPar i j dr) D σ H) : tPar i j (upA K E dr) D σ H := by
  obtain ⟨g, env, c, P, rel, q, k, _⟩ := h
  refine ⟨g, env, c, _, rel, q, fun xs c1 g1 H1 vs p1 m1 r1 o1 f1 => ?_⟩
  split at p1
  · rename_i x y
    match vs, o1 with
    | [v, w], o1 =>
      refine ⟨v, w, rfl, k _ c1 g1 _ H1 p1 m1.f ((r1.set i o1.1 (f1 x (by simp))).set j o1.2.1 (f1 y (by simp)))⟩
  · exact p1.elim
end

theorem ds_par {X : Cx} {E : En} (i j : Nat) {x y : Str} {a b : Expr} {dr : DA} {px py pt pos : Pos} {kt k2 pt2} (hN : X.N.Nodup) (ha : DPA X E [a, b] dr) (hij : i ≠ j := by decide) (hi : X.N[i]? = some x := by rfl) (hj : X.N[j]? = some y := by rfl)
    (hx : X.env.scope.names.lookup x = some .local := by rfl) (hy : X.env.scope.names.lookup y = some .local := by rfl) (hc : X.calm = true := by rfl)
    (hw : swappedStores [.Tuple [.Name x px, .Name y py] kt pt] (.Tuple [a, b] k2 pt2) X.env = pure (some [x, y]) := by rfl)
    (hs : swapsWithSole [.Tuple [.Name x px, .Name y py] kt pt] (.Tuple [a, b] k2 pt2) pos.line X.env = pure false := by rfl) : DPS X E (.Assign [.Tuple [.Name x px, .Name y py] kt pt] (.Tuple [a, b] k2 pt2) pos) (sPar i j dr) :=
  ps_imp (ps_par hc hN hi hj hij hx hy ha hw hs) fun _ _ _ h => par_up h

/-- the walk J gives the items, new pairs or what stands there -/
def WalkD (K : PySem.W.Frag) (g : Gh) (J : It) (items : List PyData) : Prop := ∃ G Y, Walk J items.length G Y ∧ (∀ (g' : Gh) (H' : Hp), Same g.F g'.F → Same g'.F H' → G H') ∧
  ∀ i H x H' d, items[i]? = some d → Y i H x H' → (H' = H ∧ Dp K g.F x d) ∨ ∃ T o, H T = none ∧ H' = upd H T o ∧ ∀ F, Same g.F F → F T = none → Dp K (upd F T o) x d
def upI (K : PySem.W.Frag) (E : En) (dw : DI) : TI := fun σ H R => ∃ g env c P, Rel K E g env c σ H ∧ dw env c P ∧
  ∀ items c' g' H' J, P items c' → Mv g H g' H' → Rel K E g' env c' σ H' → WalkD K g' J items → R J H'
abbrev DPI (X : Cx) (E : En) (tg e : Expr) (dw : DI) : Prop := PI X tg e (upI X.K E dw)
def wL (da : DE) : DI := fun env c P => da env c fun x c1 => datK x fun d => match d with
  | .list ds => P ds c1
  | _ => False
def wT (da : DE) : DI := fun env c P => da env c fun x c1 => datK x fun d => match d with
  | .tuple ds => P ds c1
  | _ => False
def rangeD (lo : Int) (n : Nat) : List PyData := (List.range n).map fun (k : Nat) => PyData.int (lo + k)
def wR1 (da : DA) : DI := fun env c P => da env c fun xs c1 => datsK xs fun ds => match ds with
  | [.int n] => -(2 ^ 62) ≤ n ∧ n < 2 ^ 62 ∧ P (rangeD 0 n.toNat) c1
  | _ => False
def wR2 (da : DA) : DI := fun env c P => da env c fun xs c1 => datsK xs fun ds => match ds with
  | [.int i, .int j] => (-(2 ^ 62) ≤ i ∧ i < 2 ^ 62 ∧ -(2 ^ 62) ≤ j ∧ j < 2 ^ 62) ∧ P (rangeD i (j - i).toNat) c1
  | _ => False
theorem rangeD_len (lo : Int) (n : Nat) : (rangeD lo n).length = n := by simp [rangeD]
theorem walkD_range {K : PySem.W.Frag} {g : Gh} {lo : Int} {n : Nat} : WalkD K g (Itr lo n) (rangeD lo n) := by
  refine ⟨_, _, by rw [rangeD_len]; exact walk_range, fun _ _ _ _ => trivial, fun i H x H' d e y => ?_⟩
  obtain ⟨rfl, rfl⟩ := y
  unfold rangeD at e
  rw [List.getElem?_map] at e
  by_cases hi : i < n
  · rw [List.getElem?_range hi] at e
    cases e
    exact .inl ⟨rfl, .int _⟩
  · rw [List.getElem?_eq_none (by simpa using hi)] at e
    cases e
section
variable {X : Cx} {E : En} {tg a b : Expr} {da db : DE} {dr : DA} {pos p : Pos}
theorem dw_list (h : DPE X E a da) : DPI X E tg a (wL da) := by
  refine pi_imp (pi_list h) fun σ H R h => ?_
  obtain ⟨g, env, c, P, rel, q, k⟩ := h
  refine ⟨g, env, c, _, rel, q, fun x c1 g1 H1 v p1 m1 r1 o1 f1 => ?_⟩
  cases x with
  | deck => exact p1.elim
  | exc _ => exact p1.elim
  | ob _ => exact p1.elim
  | own l => exact p1.elim
  | dat d =>
    cases d <;> try exact p1.elim
    rename_i ds
    have o1 : Dp X.K g1.F v (.list ds) := o1
    cases o1 with
    | lst hs ha =>
      refine ⟨_, rfl, ⟨_, r1.ex.seq hs⟩, k _ c1 g1 H1 _ p1 m1 r1 ⟨_, _, by rw [← DpAll.len ha]; exact walk_list, fun g' H' m e => e.seq (m.seq hs), fun i H2 x2 H3 d2 e y => ?_⟩⟩
      obtain ⟨rfl, hx⟩ := y
      obtain ⟨d3, e3, h3⟩ := DpAll.getV ha hx
      rw [e] at e3
      cases e3
      exact .inl ⟨rfl, h3⟩
theorem dw_tup (h : DPE X E a da) : DPI X E tg a (wT da) := by
  refine pi_imp (pi_tup h) fun σ H R h => ?_
  obtain ⟨g, env, c, P, rel, q, k⟩ := h
  refine ⟨g, env, c, _, rel, q, fun x c1 g1 H1 v p1 m1 r1 o1 f1 => ?_⟩
  cases x with
  | deck => exact p1.elim
  | exc _ => exact p1.elim
  | ob _ => exact p1.elim
  | own l => exact p1.elim
  | dat d =>
    cases d <;> try exact p1.elim
    rename_i ds
    have o1 : Dp X.K g1.F v (.tuple ds) := o1
    cases o1 with
    | tup hs ha =>
      refine ⟨_, rfl, ⟨_, seqT r1.ex (.inl (.inl hs))⟩, k _ c1 g1 H1 _ p1 m1 r1 ⟨_, _, by rw [← DpAll.len ha]; exact walk_tup, fun g' H' m e => seqT e (seqT m (.inl (.inl hs))), fun i H2 x2 H3 d2 e y => ?_⟩⟩
      obtain ⟨rfl, hx⟩ := y
      obtain ⟨d3, e3, h3⟩ := DpAll.getV ha hx
      rw [e] at e3
      cases e3
      exact .inl ⟨rfl, h3⟩
theorem dw_r1 (ha : DPA X E [a] dr) (hm : X.mg "range" = none) (hg : Gl X "range" := by rfl) (hs : starEach [a] X.env = [(false, eval a X.env)] := by rfl) : DPI X E tg (.Call (.Name "range" p) [a] [] pos) (wR1 dr) := by
  refine pi_imp (pi_range1 hg hm ha hs) fun σ H R h => ?_
  obtain ⟨g, env, c, P, rel, q, k⟩ := h
  refine ⟨g, env, c, _, rel, q, fun xs c1 g1 H1 vs p1 m1 r1 o1 f1 => ?_⟩
  obtain ⟨ds, h1, h2⟩ := datsK_all o1 p1
  split at h1
  · cases h2 with
    | cons h3 t =>
      cases t
      exact ⟨_, by rw [dp_int h3], h1.1, h1.2.1, k _ c1 g1 H1 _ h1.2.2 m1 r1 walkD_range⟩
  · exact h1.elim
end

def forL (dg : DG) (db : DS) (D : DEnds) : List PyData → Ev → Ct → Prop
  | [], env, c => D.nx env c
  | d :: ds, env, c => dg (.dat d) env fun env' => db { nx := forL dg db D ds, ct := forL dg db D ds, bk := D.nx, rt := D.rt } env' c
def sFor (dw : DI) (dg : DG) (db : DS) : DS := fun D env c => dw env c fun items c1 => forL dg db D items env c1
section
variable {X : Cx} {E : En} {tg a : Expr} {pos : Pos}
theorem drop_cons {α : Type} {l : List α} {i : Nat} (h : i < l.length) : l.drop i = l[i] :: l.drop (i + 1) := (List.drop_eq_getElem_cons h)
theorem ds_for {dw : DI} {ws : List Nat} {dg : DG} {db : DS} {body : List Stmt} (hi : DPI X E tg a dw) (hg : DPG X E ws tg dg) (hb : DPSs X E body db) (hp : PassesOwn (model X.prog X.w) X.A X.env X.xe := by exact PassesOwn.never) (hc : X.calm = true := by rfl)
    (hs : ∀ x, foldedSetIterable a X.env x = pure x := by intro _; rfl) : DPS X E (.For tg a body [] pos) (sFor dw dg db) := by
  refine ps_imp (ps_for hp hc hi hg hb hs) fun D σ H h => ?_
  obtain ⟨g, env, c, P, rel, q, k1, k2, k3, k4⟩ := h
  refine ⟨g, env, c, _, rel, q, fun items c1 g1 H1 J p1 m1 r1 wk => ?_⟩
  obtain ⟨G, Y, W, hG, hY⟩ := wk
  refine for_it W (fun i σ' H' => ∃ g' env' c', Same g1.F g'.F ∧ Rel X.K E g' env' c' σ' H' ∧ forL dg db P (items.drop i) env' c') ⟨g1, env, c1, Same.refl _, r1, p1⟩ (fun i σ' H' _ ⟨g', env', c', m, r, _⟩ => hG g' H' m r.ex) (fun i x σ' H' H2 hi hP y => ?_) (fun σ' H' hP => ?_)
  · obtain ⟨g', env', c', m, r, hf⟩ := hP
    rw [drop_cons hi] at hf
    have hd : items[i]? = some items[i] := List.getElem?_eq_getElem hi
    have step : ∃ g2, Mv g' H' g2 H2 ∧ Rel X.K E g2 env' c' σ' H2 ∧ Dp X.K g2.F x items[i] := by
      rcases hY i H' x H2 _ hd y with ⟨rfl, h1⟩ | ⟨T, o, hT, rfl, h1⟩
      · exact ⟨g', Mv.refl g' _, r, dp_mono m h1⟩
      · obtain ⟨r2, m2⟩ := r.new o hT
        exact ⟨_, m2, r2, h1 g'.F m (r.ex.free hT)⟩
    obtain ⟨g2, m2, r2, d2⟩ := step
    refine ⟨g2, env', c', .dat items[i], _, r2, d2, trivial, hf, fun env3 g3 σ3 H3 p3 m3 r3 _ => ⟨g3, env3, c', _, r3, p3, fun env4 c4 g4 σ4 H4 p4 m4 r4 => ?_, fun x4 c4 env4 g4 σ4 H4 v4 p4 m4 r4 => ?_, fun env4 c4 g4 σ4 H4 p4 m4 r4 => ?_, fun env4 c4 g4 σ4 H4 p4 m4 r4 => ?_⟩⟩
    · exact ⟨g4, env4, c4, (m.trans m2.f).trans (m3.f.trans m4), r4, p4⟩
    · exact k2 x4 c4 env4 g4 σ4 H4 v4 p4 (m1.f.trans ((m.trans m2.f).trans (m3.f.trans m4))) r4
    · exact k1 env4 c4 g4 σ4 H4 p4 (m1.f.trans ((m.trans m2.f).trans (m3.f.trans m4))) r4
    · exact ⟨g4, env4, c4, (m.trans m2.f).trans (m3.f.trans m4), r4, p4⟩
  · obtain ⟨g', env', c', m, r, hf⟩ := hP
    rw [List.drop_eq_nil_of_le (Nat.le_refl _)] at hf
    exact k1 env' c' g' σ' H' hf (m1.f.trans m) r
end

def lcL (dg : DG) (dt : DT) (de : DE) (env : Ev) : List PyData → List PyData → Ct → (List PyData → Ct → Prop) → Prop
  | [], acc, c, k => k acc c
  | d :: ds, acc, c, k => dg (.dat d) env fun env' => dt env' c fun b c1 => if b = true then de env' c1 fun x c2 => datK x fun z => lcL dg dt de env ds (acc ++ [z]) c2 k else lcL dg dt de env ds acc c1 k
def dLc (dw : DI) (dg : DG) (dt : DT) (de : DE) (vs : List Nat) : DE := fun env c P => dw env c fun items c1 => items.length < sizeLine ∧ lcL dg dt de (wipeE env vs) items [] c1 fun out c2 => P (.dat (.list out)) c2
def tOn : DT := fun _ c P => P true c
abbrev DPTs (X : Cx) (E : En) (e : List Expr) (dt : DT) : Prop := PTs X e (upT X.K E dt)
/-- a value that is a new list, known to nobody -/
def upF (K : PySem.W.Frag) (E : En) (dt : DF) : TE := fun σ H Q => ∃ g env c P, Rel K E g env c σ H ∧ dt env c P ∧
  ∀ l c' g' H' p xs, P l c' → Mv g H g' H' → Rel K E g' env c' σ H' → H p = none → H' p = some (.lst xs) → g'.F p = none → ¬ isDk g' p → DpAll K g'.F xs l → Q (.ref p) H'
abbrev DPF (X : Cx) (E : En) (e : Expr) (dt : DF) : Prop := PE X e (upF X.K E dt)
/-- a new object that nobody knows -/
theorem Rel.skip {K : PySem.W.Frag} {E : En} {g : Gh} {env : Ev} {c : Ct} {σ : L2.St} {H : Hp} (r : Rel K E g env c σ H) {p : Addr} (o : HO) (hp : H p = none) : Rel K E g env c σ (upd H p o) ∧ Mv g H g (upd H p o) := by
  have keep : ∀ b x, H b = some x → upd H p o b = some x := fun b x e => by
    rw [upd_ne (ne_of_none e hp)]
    exact e
  refine ⟨⟨r.mo, r.om, r.md, r.mt, r.dn, r.on, r.nf, r.fr.map keep, r.nw, fun b x e => keep b x (r.ex b x e), fun i x e => ?_, r.ap, r.dk.move (Same.refl _) rfl rfl (fun a o _ e => keep a o e) (fun a h => r.dk.noF h), r.len⟩, ⟨Mo.refl _, (Sty.refl _ _).map keep, fun b x e => ⟨x, keep b x e⟩, fun b x e => .inl e, fun b h => .inl h⟩⟩
  · obtain ⟨v, h1, h2⟩ := r.sl i x e
    refine ⟨v, h1, ?_⟩
    cases x with
    | dat d => exact h2
    | deck => exact h2
    | exc _ => exact h2
    | ob _ => first | exact h2 | exact ⟨h2.1, m.o _ h2.2⟩
    | own l =>
      obtain ⟨b, xs, e1, h3, h4, h5, h6⟩ := h2
      exact ⟨b, xs, e1, h3, h4, keep b _ h5, h6⟩
/-- a list that nobody knew becomes data -/
theorem Rel.know {K : PySem.W.Frag} {E : En} {g : Gh} {env : Ev} {c : Ct} {σ : L2.St} {H : Hp} (r : Rel K E g env c σ H) {p : Addr} {xs : List V} (hl : H p = some (.lst xs)) (hF : g.F p = none) (nd : ¬ isDk g p) (hE : E.H p = none)
    (no : ∀ (j : Nat) (l : List PyData), env[j]? = some (some (.own l)) → σ[j]? ≠ some (some (.ref p))) : Rel K E ⟨upd g.F p (.lst xs), g.dk, g.ob⟩ env c σ H ∧ Same g.F (upd g.F p (.lst xs)) := by
  have sF : Same g.F (upd g.F p (.lst xs)) := fun b o e => by
    rw [upd_ne (ne_of_none e hF)]
    exact e
  refine ⟨⟨r.mo.trans sF, r.om, r.md, r.mt, r.dn, r.on, fun b o e => ?_, r.fr, r.nw, fun b o e => ?_, fun j y e => ?_, r.ap, r.dk.move sF rfl rfl (fun a o _ e => e) (fun a h => ?_) (tb_upd fun ps z => by rw [hl] at z; cases z), r.len⟩, sF⟩
  · have e : upd g.F p (.lst xs) b = some o := e
    by_cases hb : b = p
    · exact .inr (by rw [hb]; exact hE)
    · rw [upd_ne hb] at e
      exact r.nf b o e
  · have e : upd g.F p (.lst xs) b = some o := e
    by_cases hb : b = p
    · subst hb
      rw [upd_same] at e
      rw [hl]
      exact e
    · rw [upd_ne hb] at e
      exact r.ex b o e
  · obtain ⟨v, h1, h2⟩ := r.sl j y e
    refine ⟨v, h1, ?_⟩
    cases y with
    | dat d => exact dp_mono sF h2
    | deck => exact h2
    | exc _ => exact h2
    | ob _ => first | exact h2 | exact ⟨h2.1, m.o _ h2.2⟩
    | own l =>
      obtain ⟨b, ys, e1, h3, h4, h5, h6⟩ := h2
      refine ⟨b, ys, e1, ?_, h4, h5, dpAll_mono sF h6⟩
      show upd g.F p (.lst xs) b = none
      rw [upd_ne fun z => no j l e (by rw [h1, e1, z])]
      exact h3
  · show upd g.F p (.lst xs) a = none
    rw [upd_ne (fun z : a = p => nd (by rw [← z]; exact h))]
    exact r.dk.noF h
theorem Rel.freeDk {K : PySem.W.Frag} {E : En} {g : Gh} {env : Ev} {c : Ct} {σ : L2.St} {H : Hp} (r : Rel K E g env c σ H) {p : Addr} (hp : H p = none) : ¬ isDk g p := fun h => by
  obtain ⟨o, e⟩ := r.deckLive h
  rw [hp] at e
  cases e
/-- as data -/
theorem f_up {K : PySem.W.Frag} {E : En} {dt : DF} {σ : L2.St} {H : Hp} {Q : VK} (h : up K E (fun env c P => dt env c fun l c' => P (.dat (.list l)) c') σ H Q) : upF K E dt σ H Q := by
  obtain ⟨g, env, c, P, rel, q, k⟩ := h
  refine ⟨g, env, c, _, rel, q, fun l c' g' H' p xs hl m r hp hp' hF hnd ha => ?_⟩
  obtain ⟨r2, sF⟩ := r.know hp' hF hnd (rel.oldN hp) (fun j l e => rel.noOwn hp j l e)
  refine k _ c' ⟨upd g'.F p (.lst xs), g'.dk, g'.ob⟩ H' _ hl ⟨⟨m.f.trans sF, m.d, m.o⟩, m.fr, m.lv, fun a o e => ?_, m.on⟩ r2 (.lst (.of upd_same) (dpAll_mono sF ha)) trivial
  have e : upd g'.F p (.lst xs) a = some o := e
  by_cases ha : a = p
  · right
    rw [ha]
    exact hp
  · rw [upd_ne ha] at e
    exact m.nf a o e
def fLc (dw : DI) (dg : DG) (dt : DT) (de : DE) (vs : List Nat) : DF := fun env c P => dw env c fun items c1 => items.length < sizeLine ∧ lcL dg dt de (wipeE env vs) items [] c1 P
section
variable {X : Cx} {E : En} {tg a elt : Expr} {pos : Pos}
theorem dts_nil : DPTs X E [] tOn := by
  refine ⟨fun pins s σ H Q I h => pts_nil.run pins s σ H Q I ?_⟩
  obtain ⟨g, env, c, P, rel, q, k⟩ := h
  exact k true c g H q (Mv.refl g H) rel
theorem dts_one {e : Expr} {t : DT} (h : DPT X E e t) : DPTs X E [e] t := pts_one h
theorem lcF_up {K : PySem.W.Frag} {dw : DI} {ws vs : List Nat} {dg : DG} {dt : DT} {de : DE} (hws : ∀ i ∈ ws, i ∈ vs) {σ : L2.St} {H : Hp} {Q : VK} (h : upF K E (fLc dw dg dt de vs) σ H Q) : tLc (upI K E dw) (upG K E ws dg) (upT K E dt) (up K E de) vs σ H Q := by
  obtain ⟨g, env, c, P, rel, q, k⟩ := h
  refine ⟨g, env, c, _, rel, q, fun items c1 g1 H1 J p1 m1 r1 wk Dl hD => ?_⟩
  obtain ⟨hlen, p1⟩ := p1
  obtain ⟨G, Y, W, hG, hY⟩ := wk
  have fresh0 : g1.F Dl = none := r1.ex.free hD
  -- the state between two turns: the list at Dl is known to nobody
  have out0 : ∀ {g' : Gh} {H' : Hp}, Mv g1 H1 g' H' → H1 Dl = none → True := fun _ _ => trivial
  have rel0 : Rel K E g1 env c1 σ (upd H1 Dl (.lst [])) ∧ Mv g1 H1 g1 (upd H1 Dl (.lst [])) := by
    have keep : ∀ b o, H1 b = some o → upd H1 Dl (.lst []) b = some o := fun b o e => by
      rw [upd_ne (ne_of_none e hD)]
      exact e
    refine ⟨⟨r1.mo, r1.om, r1.md, r1.mt, r1.dn, r1.on, r1.nf, r1.fr.map keep, r1.nw, fun b o e => keep b o (r1.ex b o e), fun i x e => ?_, r1.ap, r1.dk.move (Same.refl _) rfl rfl (fun a o _ e => keep a o e) (fun a h => r1.dk.noF h), r1.len⟩, ⟨Mo.refl _, (Sty.refl _ _).map keep, fun b o e => ⟨o, keep b o e⟩, fun b o e => .inl e, fun b h => .inl h⟩⟩
    · obtain ⟨v, h1, h2⟩ := r1.sl i x e
      refine ⟨v, h1, ?_⟩
      cases x with
      | dat d => exact h2
      | deck => exact h2
      | exc _ => exact h2
      | ob _ => first | exact h2 | exact ⟨h2.1, m.o _ h2.2⟩
      | own l =>
        obtain ⟨b, xs, e1, h3, h4, h5, h6⟩ := h2
        exact ⟨b, xs, e1, h3, h4, keep b _ h5, h6⟩
  refine lc_it W (fun i H' => ∃ g' c' xs acc, Mv g1 H1 g' H' ∧ (g'.F Dl = none ∧ ¬ isDk g' Dl) ∧ Rel K E g' env c' σ H' ∧ H' Dl = some (.lst xs) ∧ DpAll K g'.F xs acc ∧ acc.length ≤ i ∧ lcL dg dt de (wipeE env vs) (items.drop i) acc c' P)
    ⟨g1, c1, [], [], rel0.2, ⟨fresh0, r1.freeDk hD⟩, rel0.1, upd_same, .nil, Nat.le_refl _, p1⟩ (fun i H' _ ⟨g', c', xs, acc, m, _, r, _⟩ => hG g' H' m.f r.ex) (fun i x H' H2 hi hP y => ?_) (fun H' hP => ?_)
  · obtain ⟨g', c', xs, acc, m, ⟨fD, nd0⟩, r, hl, ha, hle, hf⟩ := hP
    rw [drop_cons hi] at hf
    have hd : items[i]? = some items[i] := List.getElem?_eq_getElem hi
    have nd : ∀ {g3 : Gh} {H3 : Hp}, Mv g' H' g3 H3 → ¬ isDk g3 Dl := fun {g3 H3} m3 z => nd0 (m3.dkIs hl z)
    have step : ∃ g2, Mv g' H' g2 H2 ∧ Rel K E g2 env c' σ H2 ∧ Dp K g2.F x items[i] := by
      rcases hY i H' x H2 _ hd y with ⟨rfl, h1⟩ | ⟨T, o, hT, rfl, h1⟩
      · exact ⟨g', Mv.refl g' _, r, dp_mono m.f h1⟩
      · obtain ⟨r2, m2⟩ := r.new o hT
        exact ⟨_, m2, r2, h1 g'.F m.f (r.ex.free hT)⟩
    obtain ⟨g2, m2, r2, d2⟩ := step
    have freshD : ∀ {g3 : Gh} {H3 : Hp}, Mv g' H' g3 H3 → g3.F Dl = none := fun {g3 H3} m3 => by
      cases w : g3.F Dl with
      | none => rfl
      | some o =>
        rcases m3.nf Dl o w with z | z
        · rw [fD] at z
          cases z
        · rw [hl] at z
          cases z
    have atD : ∀ {g3 : Gh} {H3 : Hp}, Mv g' H' g3 H3 → H3 Dl = some (.lst xs) := fun m3 => m3.fr.k Dl _ hl (ntL (nd (Mv.refl g' H')))
    refine ⟨g2, wipeE env vs, c', .dat items[i], _, r2.wipe vs, d2, trivial, hf, fun env3 g3 σ3 H3 p3 m3 r3 a3 => ⟨ag_wipe a3 hws, g3, env3, c', _, r3, p3, fun b c4 g4 H4 p4 m4 r4 => ?_⟩⟩
    cases b with
    | false =>
      refine iteF ⟨g4, c4, xs, acc, m.trans (m2.trans (m3.trans m4)), ⟨freshD (m2.trans (m3.trans m4)), nd (m2.trans (m3.trans m4))⟩, r.back r4 (m2.trans (m3.trans m4)), atD (m2.trans (m3.trans m4)), dpAll_mono (m2.trans (m3.trans m4)).f ha, Nat.le_succ_of_le hle, p4⟩
    | true =>
      refine iteT ⟨g4, env3, c4, _, r4, p4, fun x5 c5 g5 H5 v5 p5 m5 r5 o5 f5 => ?_⟩
      have mm : Mv g' H' g5 H5 := m2.trans (m3.trans (m4.trans m5))
      cases x5 with
      | deck => exact p5.elim
      | exc _ => exact p5.elim
      | ob _ => exact p5.elim
      | own l => exact p5.elim
      | dat z =>
        have hlx : xs.length = acc.length := DpAll.len ha
        refine ⟨xs, atD mm, by omega, ?_⟩
        have rb : Rel K E g5 env c5 σ H5 := r.back r5 mm
        have keep : ∀ b o, b ≠ Dl → H5 b = some o → upd H5 Dl (.lst (xs ++ [v5])) b = some o := fun b o n e => by
          rw [upd_ne n]
          exact e
        have fd5 : g5.F Dl = none := freshD mm
        have nf5 : ∀ b o, g5.F b = some o → b ≠ Dl := fun b o e z => by
          rw [z, fd5] at e
          cases e
        refine ⟨g5, c5, xs ++ [v5], acc ++ [z], ?_, ⟨fd5, nd mm⟩, ?_, upd_same, DpAll.app (dpAll_mono mm.f ha) (.cons o5 .nil), by simp; omega, p5⟩
        · refine ⟨(m.trans mm).toMo, (m.trans mm).fr.map1 keep (fun o e => by rw [hD] at e; cases e) (fun ps e => by rw [atD mm] at e; cases e), fun b o e => ?_, (m.trans mm).nf, (m.trans mm).on⟩
          obtain ⟨o', e'⟩ := (m.trans mm).lv b o e
          exact ⟨o', keep b o' (ne_of_none e hD) e'⟩
        · have oldD : E.H Dl = none := r1.oldN hD
          refine ⟨rb.mo, rb.om, rb.md, rb.mt, rb.dn, rb.on, rb.nf, rb.fr.map1 keep (fun o e => by rw [oldD] at e; cases e) (fun ps e => by rw [atD mm] at e; cases e), rb.nw, fun b o e => keep b o (nf5 b o e) (rb.ex b o e), fun j y e => ?_, rb.ap, rb.dk.move (Same.refl _) rfl rfl (fun a o hd e => keep a o (fun z => hd.elim (fun hd => nd mm (z ▸ hd)) fun ht => by rw [z, atD mm] at e; cases e; exact ht) e) (fun a h => rb.dk.noF h), rb.len⟩
          · obtain ⟨v, h1, h2⟩ := rb.sl j y e
            refine ⟨v, h1, ?_⟩
            cases y with
            | dat d => exact h2
            | deck => exact h2
            | exc _ => exact h2
            | ob _ => first | exact h2 | exact ⟨h2.1, m.o _ h2.2⟩
            | own l =>
              obtain ⟨b, ys, e1, h3, h4, h5, h6⟩ := h2
              refine ⟨b, ys, e1, h3, h4, keep b _ (fun z => ?_) h5, h6⟩
              obtain ⟨v', h1', b', ys', e1', h3', h4', h5', h6'⟩ := r1.sl j _ e
              rw [h1] at h1'
              cases h1'
              subst e1
              cases e1'
              rw [z, hD] at h5'
              cases h5'
  · obtain ⟨g', c', xs, acc, m, fD, r, hl, ha, hle, hf⟩ := hP
    rw [List.drop_eq_nil_of_le (Nat.le_refl _)] at hf
    refine k acc c' g' H' Dl xs hf (m1.trans m) r ?_ hl fD.1 fD.2 ha
    cases w : H Dl with
    | none => rfl
    | some o2 =>
      obtain ⟨o3, e3⟩ := m1.lv Dl o2 w
      rw [hD] at e3
      cases e3
theorem lc_up {K : PySem.W.Frag} {dw : DI} {ws vs : List Nat} {dg : DG} {dt : DT} {de : DE} (hws : ∀ i ∈ ws, i ∈ vs) {σ : L2.St} {H : Hp} {Q : VK} (h : up K E (dLc dw dg dt de vs) σ H Q) : tLc (upI K E dw) (upG K E ws dg) (upT K E dt) (up K E de) vs σ H Q := lcF_up hws (f_up h)
end
end DL
namespace DL
open PySem PySem.Spec PyProof.Rows L2

section
variable {X : Cx} {E : En} {tg a elt : Expr} {pos : Pos}
theorem de_lc {ifs : List Expr} {scope : Scope} (own : List (Str × Nat)) {dw : DI} {ws : List Nat} {dg : DG} {dt : DT} {de : DE} (hN : X.N.Nodup) (hi : DPI X E tg a dw) (ok : BlkOk X.N X.env.scope scope own)
    (hg : ∀ (s : Shared) (H : Hp) (C : Addr) (cl : List (Str × Addr)) (fp : List Addr), DPG (X.blk s H scope (compEnvC scope cl C X.env) fp) E ws tg dg)
    (ht : ∀ (s : Shared) (H : Hp) (C : Addr) (cl : List (Str × Addr)) (fp : List Addr), DPTs (X.blk s H scope (compEnvC scope cl C X.env) fp) E ifs dt)
    (he : ∀ (s : Shared) (H : Hp) (C : Addr) (cl : List (Str × Addr)) (fp : List Addr), DPE (X.blk s H scope (compEnvC scope cl C X.env) fp) E elt de)
    (hws : ∀ i ∈ ws, i ∈ own.map (·.2) := by decide) (hc : X.calm = true := by rfl) (hs : ∀ x, foldedSetIterable a X.env x = pure x := by intro _; rfl) :
    DPE X E (.ListComp elt [⟨tg, a, ifs, 0⟩] scope pos) (dLc dw dg dt de (own.map (·.2))) :=
  pe_imp (pe_lc hc hN hi ok hg ht he hs) fun _ _ _ h => lc_up hws h
/-- y = [..] -/
theorem ds_setLc {ifs : List Expr} {scope : Scope} {spos py : Pos} {y : Str} (i : Nat) (own : List (Str × Nat)) {dw : DI} {ws : List Nat} {dg : DG} {dt : DT} {de : DE} (hN : X.N.Nodup) (hi : DPI X E tg a dw) (ok : BlkOk X.N X.env.scope scope own)
    (hg : ∀ (s : Shared) (H : Hp) (C : Addr) (cl : List (Str × Addr)) (fp : List Addr), DPG (X.blk s H scope (compEnvC scope cl C X.env) fp) E ws tg dg)
    (ht : ∀ (s : Shared) (H : Hp) (C : Addr) (cl : List (Str × Addr)) (fp : List Addr), DPTs (X.blk s H scope (compEnvC scope cl C X.env) fp) E ifs dt)
    (he : ∀ (s : Shared) (H : Hp) (C : Addr) (cl : List (Str × Addr)) (fp : List Addr), DPE (X.blk s H scope (compEnvC scope cl C X.env) fp) E elt de)
    (hsw : swapsWith (.ListComp elt [⟨tg, a, ifs, 0⟩] scope pos) (some (.Name y py)) spos.line X.env = pure true)
    (hws : ∀ i ∈ ws, i ∈ own.map (·.2) := by decide) (hy : X.N[i]? = some y := by rfl) (hyl : X.env.scope.names.lookup y = some .local := by rfl) (hc : X.calm = true := by rfl) (hs : ∀ x, foldedSetIterable a X.env x = pure x := by intro _; rfl) :
    DPS X E (.Assign [.Name y py] (.ListComp elt [⟨tg, a, ifs, 0⟩] scope pos) spos) (sAsg (dLc dw dg dt de (own.map (·.2))) (gNm i)) := by
  refine ps_imp (ps_setLc (g := upG X.K E ws dg) (tt := upT X.K E dt) (te := up X.K E de) hc hN hy hyl hsw hi ok hg ht he hs) fun D σ H h => ?_
  have h2 := asgN_up h
  exact lc_up hws h2
end

section
variable {P : Program} {w : World} {K : PySem.W.Frag} {mg : Str → Option Value} {base : Heap}
theorem fnG_of {x qual : Str} {st : Stmt} {f : Addr} {fd : FuncData} {N ps : List Str} {k : Nat} {sp : Sp} (F : Fun K x qual st f fd) (S : FnScope N ps (defScope st)) (len : ∀ vs H Q E, sp vs H Q E → vs.length = ps.length)
    (hb : ∀ (cdv : Value) (A : Around) (outer : List Env) (s : Shared) (H : Hp) (vs : List V) (Q : VK), Room k (A.deeper (envOfC qual (defScope st) s.heap.objs.size f cdv)) → A.guards = some [] → sp vs H Q E0 →
      ∃ t, PSs (cxOf CX0 P w K mg base N qual (defScope st) f cdv A outer s H E0).nox (defBody st) t ∧ t { nx := fun _ H' => Q .non H', rt := Q } (start N vs) H) : FnG P w K mg base (k + 1) f fd ps sp := by
  obtain ⟨oc, od, kV, doc, pm, an, cdv, ct, osl, rfl, lk, hcd⟩ := F.ex
  refine ⟨len, fun A outer s H ag us vs Q room quiet env0 bind vals want => ?_⟩
  have inK := env0.mod.kin.keeps fun b o e => (env0.bs b o e).1
  have nolim := env0.mod.nolimit.keeps fun b o e => (env0.bs b o e).1
  refine codeAny_call_function room.depth (inK _ _ lk) rfl S.co S.gen rfl (PySem.W.codeRec_of inK hcd) (bind _ _ _ _ ?_)
  refine wpAny_newFunctionEnv_cells S.kind (fun y hy => ?_) fun env he s1 ic => ?_
  · rcases S.par y.1 (List.of_mem_zip (a := y.1) (b := y.2) hy).1 with q | q
    · exact Or.inl q
    · exact Or.inr ⟨q, PySem.W.cellsFrom_some _ _ _ (Or.inl q)⟩
  · subst he
    refine ⟨nolim.keeps ic.toInCall.keep, codeAny_func ?_⟩
    obtain ⟨t, derivation, reading⟩ := hb cdv A outer s H vs Q (room.deeper _) quiet want
    have J0 := inv_start (CX := CX0) (E := E0) (P := P) (w := w) (mg := mg) S room.hd env0 (len _ _ _ _ want) vals ic
    refine wpAny_mono (derivation.nox.run [] s1 (start N vs) H _ J0 reading) (fun fl s' done => ?_) (fun e s' bad => bad)
    cases fl with
    | next =>
      obtain ⟨σ', H', J, q⟩ := done
      exact ⟨V.non, H', J.os, J.bare, J.base, J.hok, rfl, q⟩
    | ret u =>
      obtain ⟨v, σ', H', J, rv, q⟩ := done
      exact ⟨v, H', J.os, J.bare, J.base, J.hok, rv, q⟩
    | brk =>
      obtain ⟨σ', H', J, q⟩ := done
      exact False.elim q
    | cont =>
      obtain ⟨σ', H', J, q⟩ := done
      exact False.elim q
end
section
variable {X : Cx} {k : Nat} {f : Addr} {fd : FuncData} {ps : List Str} {sp : Sp} {x : Str} {p pos : Pos} {e : Expr} {es : List Expr} {t : TA}
theorem pe_callG (F : FnG X.prog X.w X.K X.mg X.base k f fd ps sp) (hr : Room k X.A) (hgd : X.A.guards = some []) (hg : Gl X x) (hm : X.mg x = some (.ref f)) (hk : PySem.W.keepIn X.K (.ref f) = true) (hb : Binds X.K fd ps []) (ha : PA X (e :: es) t)
    (hdb : (x == ("__debug__" : Str)) = false := by decide) (he : starEach (e :: es) X.env = (false, eval e X.env) :: starEach es X.env := by rfl) (hpl : (backTo pos (starEach es X.env)).any (·.1) = false := by rfl) :
    PE X (.Call (.Name x p) (e :: es) [] pos) (tCall sp [] E0 t) := by
  constructor
  intro pins s σ H Q I h
  refine wpAny_Call_Name_kw (ld_glob I hg hm (PySem.W.callWith_K (h₀ := X.base) I.ok.mod.kin hk ?_ he hpl) hdb)
  refine thn (ha.run pos pins s σ H _ I h) fun us s1 hq => ?_
  obtain ⟨vs, H1, I1, r, q⟩ := hq
  have q2 : sp vs H1 Q E0 := by
    have q3 : sp (vs ++ []) H1 Q E0 := q
    rwa [List.append_nil] at q3
  have hl : us.length = ps.length := by
    rw [← r.length]
    exact F.len _ _ _ _ q2
  have hbd := hb s1 us I1.kIn (by rw [List.append_nil]; exact hl)
  rw [List.append_nil] at hbd
  refine ⟨I1.kIn, wpAny_call (codeAny_mono (F.run X.A X.stack s1 H1 ⟨us, []⟩ us vs Q hr hgd I1.env0 hbd r q2) fun rr s' hrr => ?_)⟩
  match rr, hrr with
  | .error _, z => exact z.elim
  | .ok .next, z => exact z.elim
  | .ok .brk, z => exact z.elim
  | .ok .cont, z => exact z.elim
  | .ok (.ret u), z => exact I1.after z
end

section
variable {X : Cx} {E : En} {k n : Nat} {f : Addr} {fd : FuncData} {ps : List Str} {spec : Spec} {x : Str} {p pos : Pos} {e : Expr} {es : List Expr} {dr : DA}
/-- what a caller holds of a def -/
structure Def (P : Program) (w : World) (K : PySem.W.Frag) (mg : Str → Option Value) (base : Heap) (k : Nat) (x : Str) (n : Nat) (spec : Spec) : Prop where
  ex : ∃ f fd ps, FnG P w K mg base k f fd ps (spD K n spec) ∧ mg x = some (.ref f) ∧ PySem.W.keepIn K (.ref f) = true ∧ Binds K fd ps []
theorem de_call (F : Def X.prog X.w X.K X.mg X.base k x n spec) (hr : Room k X.A) (hgd : X.A.guards = some []) (ha : DPA X E (e :: es) dr) (hn : (e :: es).length = n := by rfl) (hg : Gl X x := by rfl)
    (hdb : (x == ("__debug__" : Str)) = false := by decide) (he : starEach (e :: es) X.env = (false, eval e X.env) :: starEach es X.env := by rfl) (hpl : (backTo pos (starEach es X.env)).any (·.1) = false := by rfl) :
    DPE X E (.Call (.Name x p) (e :: es) [] pos) (dCall (fun xs c P => xs.length = n ∧ spec xs c P) dr) := by
  obtain ⟨f, fd, ps, F, hm, hk, hb⟩ := F.ex
  refine pe_imp (pe_callG F hr hgd hg hm hk hb ha hdb he hpl) fun σ H Q h => ?_
  obtain ⟨g, env, c, P, rel, q, kk⟩ := h
  refine ⟨g, env, c, _, rel, q, fun xs c1 g1 H1 vs p1 m1 r1 o1 f1 => ?_⟩
  show spD X.K n spec (vs ++ []) H1 Q E0
  rw [List.append_nil]
  exact ⟨g1, c1, xs, P, r1.ex, r1.dk, o1, f1, p1.1, p1.2, fun y c2 g2 H2 v p2 m2 ex dk ok fr => kk y c2 g2 H2 v p2 (m1.trans m2) (r1.call m2 ex dk) ok fr⟩
end
/-- the slots at the entry -/
def startE (N : Nat) (args : List Vl) : Ev := args.map some ++ List.replicate (N - args.length) none
def bodySpec (N : Nat) (dt : DS) : Spec := fun args c P => dt { nx := fun _ c' => P (.dat .none) c', rt := P, bk := fun _ _ => False, ct := fun _ _ => False } (startE N args) c
theorem start_rel {K : PySem.W.Frag} {g : Gh} {c : Ct} {N : List Str} {vs : List V} {args : List Vl} {H : Hp} (ex : Same g.F H) (dk : DeckOk K g H c) (ok : VOks K g H vs args) (fr : ∀ x ∈ args, free x) : Rel K ⟨g, H, false⟩ g (startE N.length args) c (start N vs) H := by
  have hl := VOks.len ok
  have key : ∀ (i : Nat) (x : Vl), (startE N.length args)[i]? = some (some x) → args[i]? = some x := fun i x e => by
    unfold startE at e
    by_cases hi : i < args.length
    · rw [List.getElem?_append_left (by simpa using hi), List.getElem?_map] at e
      cases q : args[i]? with
      | none => rw [q] at e; cases e
      | some y => rw [q] at e; cases e; rfl
    · rw [List.getElem?_append_right (by simpa using hi), List.getElem?_replicate] at e
      split at e <;> cases e
  have noown : ∀ (i : Nat) (l : List PyData), (startE N.length args)[i]? ≠ some (some (Vl.own l)) := fun i l e => fr _ (List.mem_of_getElem? (key i _ e))
  refine ⟨Same.refl _, fun _ h => h, fun _ => rfl, (fun z => by cases z), fun a h => Or.inl h, fun a h => Or.inl h, fun a o h => Or.inl h, Sty.refl _ _, fun i l e => absurd e (noown i l), ex, fun i x e => ?_, fun i j li lj a _ e => absurd e (noown i li), dk, by simp [startE, L2.start, hl]⟩
  have e2 := key i x e
  obtain ⟨v, h1, h2⟩ := VOks.at ok e2
  refine ⟨v, ?_, h2⟩
  unfold L2.start
  have hi : i < vs.length := (List.getElem?_eq_some_iff.mp h1).1
  rw [List.getElem?_append_left (by simpa using hi), List.getElem?_map, h1]
  rfl
section
variable {P : Program} {w : World} {K : PySem.W.Frag} {mg : Str → Option Value} {base : Heap}
/-- the context of a def's body -/
abbrev bodyCx (P : Program) (w : World) (K : PySem.W.Frag) (mg : Str → Option Value) (base : Heap) (N : List Str) (qual : Str) (st : Stmt) (f : Addr) (cdv : Value) (A : Around) (outer : List Env) (s : Shared) (H : Hp) : Cx :=
  (cxOf CX0 P w K mg base N qual (defScope st) f cdv A outer s H E0).nox
theorem def_of {x qual : Str} {st : Stmt} {f : Addr} {fd : FuncData} {N ps : List Str} {k n : Nat} {dt : DS} (F : Fun K x qual st f fd) (S : FnScope N ps (defScope st)) (hm : mg x = some (.ref f)) (hb : Binds K fd ps []) (hn : ps.length = n)
    (h : ∀ (cdv : Value) (A : Around) (outer : List Env) (s : Shared) (H : Hp) (E : En), Room k (A.deeper (envOfC qual (defScope st) s.heap.objs.size f cdv)) → (A.deeper (envOfC qual (defScope st) s.heap.objs.size f cdv)).guards = some [] →
      DPSs (bodyCx P w K mg base N qual st f cdv A outer s H) E (defBody st) dt) : Def P w K mg base (k + 1) x n (bodySpec N.length dt) := by
  refine ⟨f, fd, ps, fnG_of F S (fun vs H Q E q => ?_) (fun cdv A outer s H vs Q hr hgd q => ?_), hm, F.kp, hb⟩
  · obtain ⟨g, c, args, P, _, _, ok, _, hl, _⟩ := q
    rw [VOks.len ok, hl, hn]
  · obtain ⟨g, c, args, P', ex, dk, ok, fr, hl, hs, kk⟩ := q
    refine ⟨_, h cdv A outer s H ⟨g, H, false⟩ hr hgd, g, _, c, _, start_rel ex dk ok fr, hs, fun env' c' g' σ' H' p m r => ?_, fun y c' env' g' σ' H' v p m r o f => ?_, fun _ _ _ _ _ p => p.elim, fun _ _ _ _ _ p => p.elim⟩
    · exact kk _ c' g' H' .non p ⟨⟨r.mo, r.md rfl, r.om⟩, r.fr, fun a o e => r.old e, r.nf, r.on⟩ r.ex r.dk .non trivial
    · exact kk y c' g' H' v p ⟨⟨r.mo, r.md rfl, r.om⟩, r.fr, fun a o e => r.old e, r.nf, r.on⟩ r.ex r.dk o f
end
end DL
namespace DL
open PySem PySem.Spec PyProof.Rows L2

def drawSpec : Spec := fun args c P => match args with
  | [.deck, .dat (.int m)] => 0 < m ∧ m < 2 ^ 200 ∧ c.n < 1000000000 ∧ ∀ r : Int, 0 ≤ r → r < m → P (.dat (.int r)) c.tick
  | _ => False
/-- the deck behind a draw -/
theorem deck_after {K : PySem.W.Frag} {g : Gh} {H H' : Hp} {c : Ct} {n' : Nat} {p q : Addr} {ns : List Int} {ys : List V} (dk : DeckOk K g H c) (ex : Same g.F H) (hd : g.dk = some (p, q)) (hpq : p ≠ q) (fp : g.F p = none) (fq : g.F q = none) (hs : ∀ b o, b ≠ p → b ≠ q → H b = some o → H' b = some o)
    (h0 : ∀ n ∈ ns, 0 ≤ n) (h1 : ns.length ≤ 63) (hq : H' q = some (.lst (ns.map V.int))) (hp : H' p = some (.lst ys)) (hy : DShape g.F q n' ys ns) : Mv g H g H' ∧ Same g.F H' ∧ DeckOk K g H' ⟨n', c.os, c.ls, c.tb⟩ := by
  obtain ⟨_, _, _, ns0, _, _, hq0, ys0, hp0, _⟩ := dk.dk p q hd
  have np : ∀ {a : Addr} {C dx : Addr} {vs : List (Str × V)}, H a = some (.ins C dx vs) → a ≠ p ∧ a ≠ q := fun {a C dx vs} e => ⟨(fun z => by rw [z, hp0] at e; cases e), (fun z => by rw [z, hq0] at e; cases e)⟩
  refine ⟨⟨Mo.refl g, ⟨fun a o e n => hs a o (fun z => n.1 (.inl ⟨p, q, hd, .inl z⟩)) (fun z => n.1 (.inl ⟨p, q, hd, .inr z⟩)) e, fun a ps e => ⟨ps, hs a _ (fun z => by rw [z, hp0] at e; cases e) (fun z => by rw [z, hq0] at e; cases e) e⟩⟩, fun a o e => ?_, fun a o e => .inl e, fun a e => .inl e⟩, fun a o e => ?_, ⟨fun p' q' e => ?_, ⟨dk.ob.al, fun a o e => ?_, fun a l e => ?_⟩, tabs_keep (fun a o ht e => hs a o (fun z => by rw [z, hp0] at e; cases e; exact ht) (fun z => by rw [z, hq0] at e; cases e; exact ht) e) dk.tb⟩⟩
  · by_cases z : a = p
    · exact ⟨_, by rw [z]; exact hp⟩
    · by_cases z2 : a = q
      · exact ⟨_, by rw [z2]; exact hq⟩
      · exact ⟨o, hs a o z z2 e⟩
  · exact hs a o (ne_of_none e fp) (ne_of_none e fq) (ex a o e)
  · rw [hd] at e
    cases e
    exact ⟨hpq, fp, fq, ns, h0, h1, hq, ys, hp, hy⟩
  · obtain ⟨k1, k2, dx, vs, k3, k4⟩ := dk.ob.is a o e
    exact ⟨k1, k2, dx, vs, hs a _ (np k3).1 (np k3).2 k3, k4⟩
  · obtain ⟨k1, k2, k5, xs, k3, k4⟩ := dk.ob.li a l e
    exact ⟨k1, k2, k5, xs, hs a _ (k5 p q hd).1 (k5 p q hd).2 k3, k4⟩
/-- what _law_deck hands back -/
def spDeck (K : PySem.W.Frag) : Sp := fun vs H Q _ => ∃ (a : Addr) (ns : List Int), vs = [.ref a] ∧ SqL K H a (ns.map V.int) ∧ ns.length ≤ 63 ∧
  ∀ H' p q (ms : List Int) (ys : List V) (F0 : Hp), Same H H' → H p = none → H q = none → p ≠ q → (∀ n ∈ ms, 0 ≤ n) → ms.length ≤ 63 → H' q = some (.lst (ms.map V.int)) → H' p = some (.lst ys) →
    Same F0 H' → (∀ a o, F0 a = some o → H a = none) → F0 p = none → F0 q = none → DShape F0 q 0 ys ms → Q (.ref p) H'
def jn (F F0 : Hp) : Hp := fun a => match F a with
  | some o => some o
  | none => F0 a
theorem jn_l {F F0 : Hp} : Same F (jn F F0) := fun a o e => by
  show (match F a with | some o => some o | none => F0 a) = some o
  rw [e]
theorem jn_r {F F0 : Hp} (h : ∀ a o, F0 a = some o → F a = none) : Same F0 (jn F F0) := fun a o e => by
  show (match F a with | some o => some o | none => F0 a) = some o
  rw [h a o e]
  exact e
theorem jn_or {F F0 : Hp} {a : Addr} {o : HO} (h : jn F F0 a = some o) : F a = some o ∨ F0 a = some o := by
  have h : (match F a with | some o => some o | none => F0 a) = some o := h
  cases e : F a with
  | some x =>
    rw [e] at h
    exact .inl h
  | none =>
    rw [e] at h
    exact .inr h
theorem jn_none {F F0 : Hp} {a : Addr} (h : F a = none) (h0 : F0 a = none) : jn F F0 a = none := by
  show (match F a with | some o => some o | none => F0 a) = none
  rw [h]
  exact h0
/-- deck = _law_deck(script): the script stands in slot j -/
def plain : Option Vl → Prop
  | some (.dat _) => True
  | none => True
  | _ => False
def sDeck (i j : Nat) : DS := fun D env c => (∃ T, c = CtT T) ∧ (∃ ns : List Int, ns.length ≤ 63 ∧ env[j]? = some (some (.dat (.list (ns.map PyData.int))))) ∧ (∀ x ∈ env, plain x) ∧ D.nx (env.set i (some .deck)) c
theorem dp_ints {K : PySem.W.Frag} {F : Hp} : ∀ {xs : List V} {ns : List Int}, DpAll K F xs (ns.map PyData.int) → xs = ns.map V.int := fun {xs ns} h => intsOf_dp (intsOf_map ns) h
theorem ds_deck {X : Cx} {E : En} {k : Nat} {f : Addr} {fd : FuncData} {ps : List Str} {x y z : Str} {p1 p2 p3 p4 p5 : Pos} (i j : Nat) (F : FnG X.prog X.w X.K X.mg X.base k f fd ps (spDeck X.K)) (hr : Room k X.A) (hgd : X.A.guards = some []) (hm : X.mg x = some (.ref f)) (hk : PySem.W.keepIn X.K (.ref f) = true) (hb : Binds X.K fd ps [])
    (hN : X.N.Nodup) (ht : E.top = true) (hj : PE X (.Name z p3) (tVar j)) (hg : Gl X x := by rfl) (hi : X.N[i]? = some y := by rfl) (hx : Loc X.env.scope y := by first | exact Or.inl rfl | exact Or.inr rfl)
    (hdb : (x == ("__debug__" : Str)) = false := by decide) (he : starEach [.Name z p3] X.env = (false, eval (.Name z p3) X.env) :: starEach [] X.env := by rfl) (hpl : (backTo p4 (starEach [] X.env)).any (·.1) = false := by rfl)
    (hs : swapsWith (.Call (.Name x p2) [.Name z p3] [] p4) (some (.Name y p1)) p5.line X.env = pure false := by rfl) (hf : X.fn y = true ∨ X.env.scope.names.lookup y = some .local := by first | exact .inl rfl | exact .inr rfl | assumption) :
    DPS X E (.Assign [.Name y p1] (.Call (.Name x p2) [.Name z p3] [] p4) p5) (sDeck i j) := by
  refine ps_imp (ps_set hN hi hx (pe_callG F hr hgd hg hm hk hb (pa_cons hj pa_nil he) hdb he hpl) hs hf) fun D σ H h => ?_
  obtain ⟨g, env, c, P, rel, ⟨⟨T, rfl⟩, ⟨ns, hlen, hv⟩, hpl, q⟩, k1, _⟩ := h
  have noob : ∀ a, ¬ g.ob a := fun a h => by
    rcases rel.dk.ob.al a h with ⟨o, e⟩ | ⟨l, e⟩
    · cases e
    · cases e
  obtain ⟨v, e1, o1⟩ := rel.sl j _ hv
  have o1 : Dp X.K g.F v (.list (ns.map PyData.int)) := o1
  cases o1 with
  | lst hsq ha =>
    have ex := dp_ints ha
    subst ex
    refine ⟨_, e1, ?_⟩
    refine ⟨_, ns, rfl, rel.ex.seq hsq, hlen, fun H' p q' ms ys F0 sm hp hq hpq h0 h63 hq' hp' f0 fn fp fq hy => ?_⟩
    have dj : ∀ a o, F0 a = some o → g.F a = none := fun a o e => rel.ex.free (fn a o e)
    refine k1 _ (CtT T) ⟨jn g.F F0, some (p, q'), g.ob⟩ _ H' q jn_l ?_
    have exF : Same (jn g.F F0) H' := fun a o e => by
      rcases jn_or e with z | z
      · exact sm a o (rel.ex a o z)
      · exact f0 a o z
    have notown : ∀ (n : Nat) (l : List PyData), (env.set i (some Vl.deck))[n]? ≠ some (some (Vl.own l)) := fun n l e => by
      rcases set_get e with ⟨_, _, z⟩ | ⟨_, z⟩
      · cases z
      · exact hpl _ (List.mem_of_getElem? z)
    refine ⟨rel.mo.trans jn_l, rel.om, (fun z => by rw [ht] at z; cases z), rel.mt, fun a hd => .inr ?_, fun a h => (noob a h).elim, fun a o e => ?_, rel.fr.map sm, fun n l e => absurd e (notown n l), exF, fun n y2 e => ?_, fun n m ln lm a _ e => absurd e (notown n ln), ⟨fun p2 q2 e => ?_, ⟨fun a h => (noob a h).elim, (fun a o e => by cases e), fun a l e => by cases e⟩, tabs_keep (fun a o _ e => sm a o e) rel.dk.tb (fun a ps e h => by
      show jn g.F F0 a = none
      cases z : jn g.F F0 a with
      | none => rfl
      | some o =>
        rcases jn_or z with w | w
        · rw [h] at w; cases w
        · rw [fn a o w] at e; cases e)⟩, by simpa using rel.len⟩
    · obtain ⟨u, v2, e, z⟩ := hd.resolve_right (noob a)
      cases e
      rcases z with rfl | rfl
      · exact rel.oldN hp
      · exact rel.oldN hq
    · rcases jn_or e with z | z
      · exact rel.nf a o z
      · exact .inr (rel.oldN (fn a o z))
    · rcases set_get e with ⟨rfl, hl, rfl⟩ | ⟨ne, e2⟩
      · exact ⟨.ref p, by rw [List.getElem?_set_self (by rw [← rel.len]; exact hl)], p, q', rfl, rfl⟩
      · obtain ⟨u, h1, h2⟩ := rel.sl n y2 e2
        refine ⟨u, by rw [List.getElem?_set_ne (Ne.symm ne)]; exact h1, ?_⟩
        cases y2 with
        | dat d => exact dp_mono jn_l h2
        | deck => exact (hpl _ (List.mem_of_getElem? e2)).elim
        | exc _ => exact (hpl _ (List.mem_of_getElem? e2)).elim
        | ob _ => exact (hpl _ (List.mem_of_getElem? e2)).elim
        | own l => exact (hpl _ (List.mem_of_getElem? e2)).elim
    · cases e
      exact ⟨hpq, jn_none (rel.ex.free hp) fp, jn_none (rel.ex.free hq) fq, ms, h0, h63, hq', ys, hp', hy.mono (jn_r dj)⟩

section
variable {P : Program} {w : World} {K : PySem.W.Frag} {mg : Str → Option Value} {base : Heap}
/-- the law's own frame: it begins with the script, no deck yet -/
def spTopT (K : PySem.W.Frag) (T : List (Addr × Str)) (spec : Spec) : Sp := fun vs H Q _ => ∃ (a : Addr) (ns : List Int) (P : Vl → Ct → Prop), vs = [.ref a] ∧ SqL K H a (ns.map V.int) ∧ LamX.Tabs T H ∧ ns.length ≤ 63 ∧ spec [.dat (.list (ns.map PyData.int))] (CtT T) P ∧ ∀ x c' g' H' v, P x c' → VOk K g' H' v x → free x → Q v H'
abbrev spTop (K : PySem.W.Frag) (spec : Spec) : Sp := spTopT K [] spec
/-- all but the tables and what is told by a property -/
def noTb (H : Hp) : Hp := fun a => match H a with
  | some (.tbl _) => none
  | x => x
theorem noTb_same (H : Hp) : Same (noTb H) H := fun a o e => by
  unfold noTb at e
  split at e
  · cases e
  · exact e
theorem noTb_lst {H : Hp} {a : Addr} {xs : List V} (e : H a = some (.lst xs)) : noTb H a = some (.lst xs) := by
  unfold noTb
  rw [e]
theorem noTb_frz {H : Hp} {a : Addr} {o : Obj} {u : HO} (e : H a = some (.frz o u)) : noTb H a = some (.frz o u) := by
  unfold noTb
  rw [e]
theorem dpAll_ints {K : PySem.W.Frag} {F : Hp} : ∀ ns : List Int, DpAll K F (ns.map V.int) (ns.map PyData.int)
  | [] => .nil
  | n :: r => .cons (.int n) (dpAll_ints r)
theorem top_of {T : List (Addr × Str)} {x qual : Str} {st : Stmt} {f : Addr} {fd : FuncData} {N ps : List Str} {k : Nat} {dt : DS} (F : Fun K x qual st f fd) (S : FnScope N ps (defScope st)) (hn : ps.length = 1)
    (h : ∀ (cdv : Value) (A : Around) (outer : List Env) (s : Shared) (H : Hp) (E : En), E.top = true → Room k (A.deeper (envOfC qual (defScope st) s.heap.objs.size f cdv)) → (A.deeper (envOfC qual (defScope st) s.heap.objs.size f cdv)).guards = some [] →
      DPSs (bodyCx P w K mg base N qual st f cdv A outer s H) E (defBody st) dt) : FnG P w K mg base (k + 1) f fd ps (spTopT K T (bodySpec N.length dt)) := by
  refine fnG_of F S (fun vs H Q E q => ?_) (fun cdv A outer s H vs Q hr hgd q => ?_)
  · obtain ⟨a, ns, P, rfl, _⟩ := q
    rw [hn]
    rfl
  · obtain ⟨a, ns, P', rfl, hs, ht, hl, hsp, kk⟩ := q
    have hs : SqL K (noTb H) a (ns.map V.int) := by
      rcases hs with h | h
      · exact .inl (by rcases h with h | ⟨o, h⟩ <;> first | exact .inl (noTb_lst h) | exact .inr ⟨o, noTb_frz h⟩)
      · exact .inr h
    have ok : VOks K ⟨noTb H, none, fun _ => False⟩ H [.ref a] [.dat (.list (ns.map PyData.int))] := ⟨.lst hs (dpAll_ints ns), trivial⟩
    have r0 := start_rel (K := K) (g := ⟨noTb H, none, fun _ => False⟩) (c := CtT T) (N := N) (noTb_same H) ⟨(fun p q e => by cases e), ⟨fun a h => h.elim, (fun a o e => by cases e), fun a l e => by cases e⟩, ⟨ht, fun p hp => by
      obtain ⟨ps, e, _⟩ := ht p hp
      show noTb H p.1 = none
      unfold noTb
      rw [e]⟩⟩ ok (fun y hy => by rw [List.mem_singleton] at hy; subst hy; trivial)
    have r1 : Rel K ⟨⟨noTb H, none, fun _ => False⟩, H, true⟩ ⟨noTb H, none, fun _ => False⟩ (startE N.length [.dat (.list (ns.map PyData.int))]) (CtT T) (L2.start N [.ref a]) H := ⟨r0.mo, r0.om, (fun z => by cases z), fun _ => rfl, r0.dn, r0.on, r0.nf, r0.fr, r0.nw, r0.ex, r0.sl, r0.ap, r0.dk, r0.len⟩
    exact ⟨_, h cdv A outer s H ⟨⟨noTb H, none, fun _ => False⟩, H, true⟩ rfl hr hgd, _, _, _, _, r1, hsp, fun env' c' g' σ' H' p m r => kk _ c' g' H' .non p .non trivial, fun y c' env' g' σ' H' v p m r o f => kk y c' g' H' v p o f, fun _ _ _ _ _ p => p.elim, fun _ _ _ _ _ p => p.elim⟩
end
end DL
namespace DL
open PySem PySem.Spec PyProof.Rows L2

section
variable {P : Program} {w : World} {K : PySem.W.Frag} {mg mb : Str → Option Value} {k : Nat} {fa a : Addr} {fd : FuncData} {x : Str} {sp : Sp} {s : Shared} {vs : List Value} {ns : List Int}
/-- over one abstract heap: at most the script is told, and locked -/
theorem end_at (KX : K.In s.heap) (hns : s.heap.Ns mainGlobals mg) (hb : s.heap.Ns builtinsNs mb) (hbb : ∀ y : Str, y ≠ "__name__" → mb y = bootBuiltins y) (hlim : s.heap.NoLimit) (hg : s.gens = #[])
    (sc : s.heap.get? a = some { cls := .type "list", data := .seq vs.toArray }) (hr : Room k callerA)
    (F : ∀ base : Heap, K.In base → base.Ns mainGlobals mg → FnG P w K mg base k fa fd [x] sp) (bd : ∀ (s : Shared) (u : Value), BindsTo s fd ⟨[u], []⟩ [(x, u)])
    (H : Hp) (only : Only H) (sq : sp [.ref a] H (fun v _ => v = .bl true) E0) (ok : HOk P w H s.heap) (alone : ∀ b o, H b = some o → b = a) (away : ∀ o, H a = some o → K.lookup a = none) :
    codeAny (model P w) callerA (.call (.ref fa) ⟨[.ref a], []⟩) (fun r s' => r = .ok (.ret (.bool true)) ∧ OldK s.heap s'.heap ∧ s'.os = s.os ∧ AllBare s'.gens) s := by
  -- what is no list is not told
  have quiet : ∀ {b : Addr} {ob : Obj} {es : Array DictEntry} {ep : Nat}, s.heap.get? b = some ob → ob.data = .dict es ep → H b = none := by
    intro b ob es ep e de
    cases hb' : H b with
    | none => rfl
    | some u =>
      rw [alone b u hb', sc] at e
      cases e
      cases de
  have nsOf : ∀ {b : Addr} {m : Str → Option Value}, s.heap.Ns b m → (hidT s.heap H).Ns b m := by
    rintro b m ⟨ob, es, ep, e, de, rest⟩
    exact ⟨ob, es, ep, hidT_get e (quiet e de), de, rest⟩
  have inB : K.In (hidT s.heap H) := by
    intro b ob e
    refine hidT_get (KX b ob e) ?_
    cases hb' : H b with
    | none => rfl
    | some u =>
      have eb := alone b u hb'
      subst eb
      rw [away u hb'] at e
      cases e
  have lim2 : (hidT s.heap H).NoLimit := by
    obtain ⟨mc, h1, h2⟩ := hlim
    exact ⟨mc, nsOf h1, h2⟩
  have e0 : Env0 P w K mg (hidT s.heap H) callerA [] s H :=
    { frames := rfl, mod := ⟨inB, nsOf hns, ⟨mb, nsOf hb, hbb⟩, lim2⟩, bs := fun b o e => of_hidT e, bsz := Nat.le_of_eq (hidT_size _ _), funs := trivial, frf := (fun b h => by cases h), hok := ok, bare := .of_eq hg }
  have go := (F _ inB (nsOf hns)).run callerA [] s H ⟨[.ref a], []⟩ [.ref a] [.ref a] _ hr rfl e0 (bd s (.ref a)) (.cons rfl .nil) sq
  refine codeAny_mono go fun r s' hq => ?_
  match r, hq with
  | .error _, z => exact z.elim
  | .ok .next, z => exact z.elim
  | .ok .brk, z => exact z.elim
  | .ok .cont, z => exact z.elim
  | .ok (.ret u), z =>
    obtain ⟨v, H', os, bare, un, ok', rv, q⟩ := z
    have q : v = .bl true := q
    subst q
    have ru : u = Value.bool true := rv
    subst ru
    refine ⟨rfl, OldK.of_keep fun b o e => ?_, os, bare⟩
    cases hb' : H b with
    | none => exact un.keep b o e hb' (fun z => by cases z) (fun z => by cases z)
    | some t =>
      rcases only b with z | ⟨ob, xs, z⟩
      · rw [hb'] at z
        cases z
      · have kept := (ok' b _ (un.frzs b ob _ z)).1
        have was := (ok b _ z).1
        rw [was] at e
        cases e
        exact kept
theorem law_end (KX : K.In s.heap) (hns : s.heap.Ns mainGlobals mg) (hb : s.heap.Ns builtinsNs mb) (hbb : ∀ y : Str, y ≠ "__name__" → mb y = bootBuiltins y) (hlim : s.heap.NoLimit) (hg : s.gens = #[])
    (sc : s.heap.get? a = some { cls := .type "list", data := .seq vs.toArray }) (iv : IntsAre vs ns) (hl : ns.length ≤ sizeLine) (hr : Room k callerA)
    (F : ∀ base : Heap, K.In base → base.Ns mainGlobals mg → FnG P w K mg base k fa fd [x] sp) (bd : ∀ (s : Shared) (u : Value), BindsTo s fd ⟨[u], []⟩ [(x, u)])
    (want : ∀ H : Hp, Only H → SqL K H a (ns.map V.int) → sp [.ref a] H (fun v _ => v = .bl true) E0) :
    codeAny (model P w) callerA (.call (.ref fa) ⟨[.ref a], []⟩) (fun r s' => r = .ok (.ret (.bool true)) ∧ OldK s.heap s'.heap ∧ s'.os = s.os ∧ AllBare s'.gens) s := by
  have rel := vals_ints iv
  have hlen : vs.length = ns.length := by
    have := rel.length
    rw [List.length_map] at this
    exact this.symm
  by_cases hk : K.lookup a = none
  · -- the script, locked
    refine end_at KX hns hb hbb hlim hg sc hr F bd (fun b => if b = a then some (.frz { cls := .type "list", data := .seq vs.toArray } (.lst (ns.map V.int))) else none) (fun b => ?_) (want _ (fun b => ?_) (.inl (.inr ⟨_, if_pos rfl⟩))) (fun b u e => ?_) (fun b u e => ?_) (fun _ _ => hk)
    · by_cases e : b = a
      · exact .inr ⟨_, _, if_pos e⟩
      · exact .inl (if_neg e)
    · by_cases e : b = a
      · exact .inr ⟨_, _, if_pos e⟩
      · exact .inl (if_neg e)
    · by_cases hba : b = a
      · subst hba
        have e2 := (if_pos rfl).symm.trans e
        cases e2
        exact ⟨sc, by rw [List.length_map]; exact hl, vs, _, rel, sc⟩
      · have e2 := (if_neg hba).symm.trans e
        cases e2
    · by_cases hba : b = a
      · exact hba
      · have e2 := (if_neg hba).symm.trans e
        cases e2
  · -- the script stands in the written part
    obtain ⟨ob, eo⟩ := Option.ne_none_iff_exists'.mp hk
    have e := KX a ob eo
    rw [sc] at e
    cases e
    refine end_at KX hns hb hbb hlim hg sc hr F bd (fun _ => none) (fun _ => .inl rfl) (want _ (fun _ => .inl rfl) (.inr ⟨_, vs.toArray, _, eo, rfl, rfl, rfl, by rw [List.size_toArray, hlen]; exact hl, by simpa using rel⟩)) (fun b u z => ?_) (fun b u z => ?_) (fun u z => ?_)
    · have z : (none : Option HO) = some u := z
      cases z
    · have z : (none : Option HO) = some u := z
      cases z
    · have z : (none : Option HO) = some u := z
      cases z
end
end DL
namespace DL
open PySem PySem.Spec PyProof.Rows L2
theorem forL_inv {dg : DG} {db : DS} {D : DEnds} {items : List PyData} (I : Nat → Ev → Ct → Prop)
    (step : ∀ (j : Nat) (d : PyData) (env : Ev) (c : Ct) (k : Ev → Ct → Prop), items[j]? = some d → I j env c → (∀ env' c', I (j + 1) env' c' → k env' c') → dg (.dat d) env fun env' => db { nx := k, ct := k, bk := D.nx, rt := D.rt } env' c)
    {env : Ev} {c : Ct} (h0 : I 0 env c) (hend : ∀ env c, I items.length env c → D.nx env c) : forL dg db D items env c := by
  have key : ∀ (m j : Nat) (env : Ev) (c : Ct), m + j = items.length → I j env c → forL dg db D (items.drop j) env c := by
    intro m
    induction m with
    | zero =>
      intro j env c e h
      have e : j = items.length := by omega
      subst e
      rw [List.drop_length]
      exact hend env c h
    | succ m ih =>
      intro j env c e h
      have hj : j < items.length := by omega
      rw [List.drop_eq_getElem_cons hj]
      exact step j items[j] env c _ (List.getElem?_eq_getElem hj) h fun env' c' h' => ih (j + 1) env' c' (by omega) h'
  exact key items.length 0 env c (by omega) h0
/-- a comprehension whose element draws nothing -/
theorem lcL_pure {i : Nat} {dt : DT} {de : DE} {env : Ev} (f : PyData → Bool) (h : PyData → PyData) : ∀ (items acc : List PyData) (c : Ct) (k : List PyData → Ct → Prop),
    (∀ d ∈ items, ∀ P : Bool → Ct → Prop, P (f d) c → dt (env.set i (some (.dat d))) c P) → (∀ d ∈ items, f d = true → ∀ P : Vl → Ct → Prop, P (.dat (h d)) c → de (env.set i (some (.dat d))) c P) →
    k (acc ++ (items.filter f).map h) c → lcL (gNm i) dt de env items acc c k
  | [], acc, c, k, _, _, hk => by
    simpa [lcL] using hk
  | d :: ds, acc, c, k, h1, h2, hk => by
    unfold lcL gNm
    refine h1 d List.mem_cons_self _ ?_
    cases hf : f d with
    | false =>
      refine iteF (lcL_pure f h ds acc c k (fun e he => h1 e (List.mem_cons_of_mem _ he)) (fun e he => h2 e (List.mem_cons_of_mem _ he)) ?_)
      rw [List.filter_cons_of_neg (by rw [hf]; decide)] at hk
      exact hk
    | true =>
      refine iteT (h2 d List.mem_cons_self hf _ (lcL_pure f h ds (acc ++ [h d]) c k (fun e he => h1 e (List.mem_cons_of_mem _ he)) (fun e he => h2 e (List.mem_cons_of_mem _ he)) ?_))
      rw [List.filter_cons_of_pos hf, List.map_cons] at hk
      simpa using hk
theorem ix_ok {ds : List PyData} {i : Int} {z : PyData} {P : PyData → Prop} (e : atI ds i = some z) (h : P z) : ixK ds (.int i) P := by
  unfold ixK intK
  simp only [e]
  exact h
theorem rangeD_mem {lo : Int} {n : Nat} {d : PyData} (h : d ∈ rangeD lo n) : ∃ k : Nat, k < n ∧ d = .int (lo + k) := by
  unfold rangeD at h
  obtain ⟨k, hk, rfl⟩ := List.mem_map.mp h
  exact ⟨k, List.mem_range.mp hk, rfl⟩
theorem rangeD_get {lo : Int} {n j : Nat} {d : PyData} (h : (rangeD lo n)[j]? = some d) : j < n ∧ d = .int (lo + j) := by
  unfold rangeD at h
  rw [List.getElem?_map] at h
  by_cases hj : j < n
  · rw [List.getElem?_range hj] at h
    cases h
    exact ⟨hj, rfl⟩
  · rw [List.getElem?_eq_none (by simpa using hj)] at h
    cases h
theorem listText_le : ∀ ts : List Str, (listText ts).length ≤ piled ts + 2
  | [] => by decide +kernel
  | t :: r => by
    have h := textFrom_length_pos r 1 (("[" : Str) ++ (if (0 : Nat) > 0 then ", " else "" : String) ++ t) (Nat.succ_pos 0)
    have e1 : ((("[" : Str) ++ (if (0 : Nat) > 0 then ", " else "" : String) ++ t)).length = 1 + t.length := by
      rw [strLen_append, strLen_append]
      rfl
    have e2 : (listText (t :: r)).length = (textFrom 1 (("[" : Str) ++ (if (0 : Nat) > 0 then ", " else "" : String) ++ t) r).length + 1 := by
      show ((textFrom 1 (("[" : Str) ++ (if (0 : Nat) > 0 then ", " else "" : String) ++ t) r) ++ (("]" : String) : Str)).length = _
      rw [strLen_append]
      rfl
    rw [e2, h, e1, piled_cons]
    omega
mutual
theorem shown_le : ∀ d : PyData, d.showable = true → d.hasDict = false → d.shown.length ≤ cost d
  | .none, _, _ => by
    simp only [PyData.shown, cost]
    decide +kernel
  | .bool b, _, _ => by
    simp only [PyData.shown, cost]
    cases b <;> decide +kernel
  | .int i, h, _ => by
    simp only [PyData.shown, cost]
    have e := int_text_length_le (k := 1920) (by decide) (of_decide_eq_true h)
    rw [PySem.ofString_length]
    omega
  | .str x, _, _ => by
    simp only [PyData.shown, cost]
    exact Nat.le_refl _
  | .list xs, h, hd => by
    simp only [PyData.shown, cost]
    have := shownAll_le xs (by simpa [PyData.showable] using h) (by simpa [PyData.hasDict] using hd)
    have := listText_le (PyData.shownAll xs)
    omega
  | .tuple xs, h, hd => by
    simp only [PyData.shown, cost]
    have := shownAll_le xs (by simpa [PyData.showable] using h) (by simpa [PyData.hasDict] using hd)
    have := fmt_text (PyData.shownAll xs)
    omega
  | .dict _, _, hd => by simp [PyData.hasDict] at hd
theorem shownAll_le : ∀ ds : List PyData, PyData.showableAll ds = true → PyData.hasDictAll ds = false → piled (PyData.shownAll ds) ≤ costs ds
  | [], _, _ => by simp [PyData.shownAll, costs, piled]
  | d :: ds, h, hd => by
    simp only [PyData.showableAll, Bool.and_eq_true] at h
    simp only [PyData.hasDictAll, Bool.or_eq_false_iff] at hd
    simp only [PyData.shownAll, costs]
    rw [piled_cons]
    have := shown_le d h.1 hd.1
    have := shownAll_le ds h.2 hd.2
    omega
end
/-- dInts within this bound are shown -/
theorem show_int {i : Int} (h : i.natAbs < 2 ^ 1000) : PyData.showable (.int i) = true := by
  simp only [PyData.showable, decide_eq_true_eq]
  by_cases h0 : i.natAbs = 0
  · rw [h0]
    decide
  · exact Nat.lt_of_lt_of_le ((Nat.log2_lt h0).mpr h) (by decide)
theorem shows_of {d : PyData} (h1 : d.showable = true) (h2 : d.hasDict = false) (h3 : d.depth ≤ 60) (h4 : cost d ≤ sizeLine) : shows d := ⟨h1, h3, Nat.le_trans (shown_le d h1 h2) h4⟩
def dInts (ns : List Int) : List PyData := ns.map PyData.int
theorem dInts_depth : ∀ ns : List Int, PyData.depthAll (dInts ns) = 0
  | [] => rfl
  | n :: ns => by
    simp only [dInts, List.map_cons, PyData.depthAll, PyData.depth]
    have := dInts_depth ns
    simp only [dInts] at this
    rw [this]
    rfl
end DL
namespace DL
open PySem PySem.Spec PyProof.Rows L2

def tyN : PyData → String
  | .none => "NoneType"
  | .bool _ => "bool"
  | .int _ => "int"
  | .str _ => "str"
  | .list _ => "list"
  | .tuple _ => "tuple"
  | .dict _ => "dict"
theorem dp_ty {K : PySem.W.Frag} {H : Hp} {v : V} {d : PyData} (h : Dp K H v d) : TyX K H v (.type (tyN d)) := by
  cases h with
  | non => exact .base .non
  | bl b => exact .base (.bl b)
  | int i => exact .base (.int i)
  | str x => exact .base (.str x)
  | lst hs ha =>
    rcases hs with (e | ⟨o, e⟩) | ⟨o, its, n, e, c, _⟩
    · exact .base (.lst e)
    · exact .base (.frz e)
    · exact .kList e c
  | tup hs ha => exact .base (.tup hs)
  | dct hs ha => exact .base (.dK hs)
def isTup : PyData → Bool
  | .tuple _ => true
  | _ => false
def isInt : PyData → Bool
  | .int _ => true
  | .bool _ => true
  | _ => false
def isBool : PyData → Bool
  | .bool _ => true
  | _ => false
theorem kit_tup : ∀ d : PyData, kitB (tyN d) "tuple" = some (isTup d)
  | .none => (by decide +kernel : kitB "NoneType" "tuple" = some false)
  | .bool _ => (by decide +kernel : kitB "bool" "tuple" = some false)
  | .int _ => (by decide +kernel : kitB "int" "tuple" = some false)
  | .str _ => (by decide +kernel : kitB "str" "tuple" = some false)
  | .list _ => (by decide +kernel : kitB "list" "tuple" = some false)
  | .tuple _ => (by decide +kernel : kitB "tuple" "tuple" = some true)
  | .dict _ => (by decide +kernel : kitB "dict" "tuple" = some false)
theorem kit_int : ∀ d : PyData, kitB (tyN d) "int" = some (isInt d)
  | .none => (by decide +kernel : kitB "NoneType" "int" = some false)
  | .bool _ => (by decide +kernel : kitB "bool" "int" = some true)
  | .int _ => (by decide +kernel : kitB "int" "int" = some true)
  | .str _ => (by decide +kernel : kitB "str" "int" = some false)
  | .list _ => (by decide +kernel : kitB "list" "int" = some false)
  | .tuple _ => (by decide +kernel : kitB "tuple" "int" = some false)
  | .dict _ => (by decide +kernel : kitB "dict" "int" = some false)
theorem kit_bool : ∀ d : PyData, kitB (tyN d) "bool" = some (isBool d)
  | .none => (by decide +kernel : kitB "NoneType" "bool" = some false)
  | .bool _ => (by decide +kernel : kitB "bool" "bool" = some true)
  | .int _ => (by decide +kernel : kitB "int" "bool" = some false)
  | .str _ => (by decide +kernel : kitB "str" "bool" = some false)
  | .list _ => (by decide +kernel : kitB "list" "bool" = some false)
  | .tuple _ => (by decide +kernel : kitB "tuple" "bool" = some false)
  | .dict _ => (by decide +kernel : kitB "dict" "bool" = some false)
def rdTy (f : PyData → Bool) : PyData → (PyData → Prop) → Prop := fun d P => P (.bool (f d))
section
variable {X : Cx} {E : En} {a b c : Expr} {da db dc : DE} {pos : Pos}
theorem de_isi {T : String} {x : Str} {f : PyData → Bool} {p p2 : Pos} (hT : ∀ d, kitB (tyN d) T = some (f d)) (mi : X.mg "isinstance" = none) (mT : X.mg x = none) (bT : bootBuiltins x = some (.type T)) (ha : DPE X E a da) (hg : Gl X "isinstance" := by rfl) (hg2 : Gl X x := by rfl)
    (hn : x ≠ "__name__" := by decide) (hdb : (x == ("__debug__" : Str)) = false := by decide)
    (he : starEach [a, .Name x p2] X.env = (false, eval a X.env) :: starEach [.Name x p2] X.env := by rfl) (he2 : starEach [.Name x p2] X.env = (false, eval (.Name x p2) X.env) :: starEach [] X.env := by rfl)
    (hpl : (backTo pos (starEach [.Name x p2] X.env)).any (·.1) = false := by rfl) :
    DPE X E (.Call (.Name "isinstance" p) [a, .Name x p2] [] pos) (dUn (rdTy f) da) := by
  refine pe_imp (pe_callB call_isi hg mi (by decide +kernel) (pa_cons ha (pa_cons (pe_bltn (v := .ty T) hg2 mT bT rfl hn hdb) pa_nil he2) he) (by decide) (by decide) he hpl) fun σ H Q h => ?_
  obtain ⟨g, env, c, P, rel, q, k⟩ := h
  refine ⟨g, env, c, _, rel, q, fun x c1 g1 H1 v p1 m1 r1 o1 f1 => ?_⟩
  cases x with
  | deck => exact p1.elim
  | exc _ => exact p1.elim
  | ob _ => exact p1.elim
  | own l => exact p1.elim
  | dat d => exact ⟨v, .ty T, _, _, _, rfl, .ty T, dp_ty (dpF r1 o1), kit_ty (hT d), k _ _ g1 H1 _ p1 m1 r1 (.bl _) trivial⟩

def rdAddU : PyData → PyData → (PyData → Prop) → Prop := fun d e P => match d, e with
  | .int i, .int j => P (.int (i + j))
  | .tuple xs, .tuple ys => xs.length + ys.length ≤ sizeLine ∧ P (.tuple (xs ++ ys))
  | _, _ => False
theorem opd_addU {K : PySem.W.Frag} : OpD K (fun x y H Q => rI0 (fun i j => .int (i + j)) x y H Q ∨ rCatA K x y H Q) rdAddU := by
  intro E g env c σ H x y d e P Q r hx hy q k
  unfold rdAddU at q
  split at q
  · exact .inl ⟨_, _, dp_int hx, dp_int hy, k _ g H _ q (Mv.refl g H) r (.int _)⟩
  · rename_i xs ys
    cases hx with
    | tup h1 a1 =>
      cases hy with
      | tup h2 a2 =>
        refine .inr ⟨_, _, _, _, rfl, rfl, seqT r.ex (.inl (.inl h1)), seqT r.ex (.inl (.inl h2)), by rw [DpAll.len a1, DpAll.len a2]; exact q.1, fun e => ?_, fun _ e => ?_, fun _ _ p hp => ?_⟩
        · subst e
          cases a1
          exact k _ g H _ q.2 (Mv.refl g H) r (.tup h2 a2)
        · subst e
          cases a2
          have q2 := q.2
          rw [List.append_nil] at q2
          exact k _ g H _ q2 (Mv.refl g H) r (.tup h1 a1)
        · obtain ⟨r2, m2⟩ := r.new (.tup _) hp
          exact k _ _ _ _ q.2 m2 r2 (.tup upd_same (DpAll.app (dpAll_mono m2.f a1) (dpAll_mono m2.f a2)))
  · exact q.elim
theorem de_addU (ha : DPE X E a da) (hb : DPE X E b db) : DPE X E (.BinOp a .Add b pos) (dOp rdAddU da db) := de_op (OpR.or op_add op_catA) opd_addU ha hb
def cutD (ds : List PyData) (lo hi : Option Int) : List PyData := (ds.drop (HT.sIx ds.length 0 lo)).take (HT.sIx ds.length ds.length hi - HT.sIx ds.length 0 lo)
theorem dpAll_cut {K : PySem.W.Frag} {F : Hp} {xs : List V} {ds : List PyData} (ha : DpAll K F xs ds) (l u : Option Int) : DpAll K F (cutV xs l u) (cutD ds l u) := by
  unfold cutV cutD
  rw [DpAll.len ha]
  exact DpAll.take _ (DpAll.drop _ ha)
def upO (K : PySem.W.Frag) (E : En) (dt : DO) : TO := fun σ H Q => ∃ g env c P, Rel K E g env c σ H ∧ dt env c P ∧ ∀ o c' g' H', P o c' → Mv g H g' H' → Rel K E g' env c' σ H' → Q o H'
abbrev DPO (X : Cx) (E : En) (e : Option Expr) (dt : DO) : Prop := PO X e (upO X.K E dt)
def oNo : DO := fun _ c P => P none c
def oSome (da : DE) : DO := fun env c P => da env c fun x c1 => datK x fun d => intK d fun i => P (some i) c1
theorem do_none : DPO X E none oNo := by
  refine ⟨fun pins s σ H Q I h => po_none.run pins s σ H Q I ?_⟩
  obtain ⟨g, env, c, P, rel, q, k⟩ := h
  exact k none c g H q (Mv.refl g H) rel
theorem do_some (h : DPE X E a da) : DPO X E (some a) (oSome da) := by
  refine ⟨fun pins s σ H Q I h2 => (po_some h).run pins s σ H Q I ?_⟩
  obtain ⟨g, env, c, P, rel, q, k⟩ := h2
  refine ⟨g, env, c, _, rel, q, fun x c1 g1 H1 v p1 m1 r1 o1 f1 => ?_⟩
  cases x with
  | deck => exact p1.elim
  | exc _ => exact p1.elim
  | ob _ => exact p1.elim
  | own l => exact p1.elim
  | dat d =>
    cases d <;> try exact p1.elim
    exact ⟨_, dp_int o1, k _ _ g1 H1 p1 m1 r1⟩
def dSlT (da : DE) (lo hi : DO) : DE := fun env c P => da env c fun x c1 => datK x fun d => lo env c1 fun l c2 => hi env c2 fun u c3 => match d with
  | .tuple ds => P (.dat (.tuple (cutD ds l u))) c3
  | _ => False
theorem de_slT {lo hi : Option Expr} {dl dh : DO} {p2 : Pos} (h : DPE X E a da) (hl : DPO X E lo dl) (hu : DPO X E hi dh) : DPE X E (.Subscript a (.Slice lo hi none p2) pos) (dSlT da dl dh) := by
  refine pe_imp (pe_slice sl_tupA h hl hu) fun σ H Q h => ?_
  obtain ⟨g, env, c, P, rel, q, k⟩ := h
  refine ⟨g, env, c, _, rel, q, fun x c1 g1 H1 v p1 m1 r1 o1 f1 => ?_⟩
  cases x with
  | deck => exact p1.elim
  | exc _ => exact p1.elim
  | ob _ => exact p1.elim
  | own l => exact p1.elim
  | dat d =>
    refine ⟨g1, env, c1, _, r1, p1, fun l c2 g2 H2 p2 m2 r2 => ⟨g2, env, c2, _, r2, p2, fun u c3 g3 H3 p3 m3 r3 => ?_⟩⟩
    cases d <;> try exact p3.elim
    rename_i ds
    have o1 : Dp X.K g1.F v (.tuple ds) := o1
    have o3 := dp_mono (m2.trans m3).f o1
    cases o3 with
    | tup hs ha =>
      have hlen := DpAll.len ha
      refine ⟨_, _, rfl, seqT r3.ex (.inl (.inl hs)), fun e => ?_, fun _ p hp => ?_⟩
      · have e2 : cutD ds l u = ds := by
          unfold cutD
          rw [hlen] at e
          rw [e.1, e.2, List.drop_zero, Nat.sub_zero, List.take_length]
        have p3 : P (Vl.dat (.tuple (cutD ds l u))) c3 := p3
        rw [e2] at p3
        exact k _ _ g3 H3 _ p3 (m1.trans (m2.trans m3)) r3 (.tup hs ha) trivial
      · obtain ⟨r4, m4⟩ := r3.new (.tup _) hp
        refine k _ _ _ _ _ p3 ((m1.trans (m2.trans m3)).trans m4) r4 (.tup upd_same ?_) trivial
        exact dpAll_mono m4.f (dpAll_cut ha l u)

def dChain (r r' : PyData → PyData → (PyData → Prop) → Prop) (da db dc : DE) : DE := fun env c P => da env c fun x c1 => datK x fun d => db env c1 fun y c2 => datK y fun e => r d e fun z => boolK z fun k => if k = true then dc env c2 fun w c3 => datK w fun u => r' e u fun z => P (.dat z) c3 else P (.dat (.bool false)) c2
def wZipT (da : DA) : DI := fun env c P => da env c fun xs c1 => datsK xs fun ds => match ds with
  | [.tuple xs, .tuple ys] => P ((xs.zip ys).map fun z => .tuple [z.1, z.2]) c1
  | _ => False
theorem walk_zipT {K : PySem.W.Frag} {a b : Addr} {xs ys : List V} {n : Nat} (hn : n = min xs.length ys.length) : Walk (RZ.ItzT K a b) n (fun H => SqT K H a xs ∧ SqT K H b ys) (YPair (fun i => xs[i]?) (fun i => ys[i]?)) := by
  refine ⟨fun i H hi h => ⟨xs, ys, xs[i]'(by omega), ys[i]'(by omega), h.1, h.2, List.getElem?_eq_getElem _, List.getElem?_eq_getElem _⟩, fun H h => ⟨xs, ys, h.1, h.2, by omega⟩, fun i H v H' hi h y => ?_⟩
  obtain ⟨T, x, y, e1, e2, e3, f1, f2⟩ := y
  exact ⟨T, x, y, e1, e2, e3, f1 xs h.1, f2 ys h.2⟩
theorem dw_zipT {elts : List Expr} {kk : Nat} {dr : DA} {p tpos : Pos} (ha : DPA X E [a, b] dr) (hm : X.mg "zip" = none) (hg : Gl X "zip" := by rfl) (hs : starEach [a, b] X.env = (false, eval a X.env) :: starEach [b] X.env := by rfl) (hpl : (backTo pos (starEach [b] X.env)).any (·.1) = false := by rfl) :
    DPI X E (.Tuple elts kk tpos) (.Call (.Name "zip" p) [a, b] [] pos) (wZipT dr) := by
  refine pi_imp (RZ.pi_zipA hg hm ha hs hpl) fun σ H R h => ?_
  obtain ⟨g, env, c, P, rel, q, k⟩ := h
  refine ⟨g, env, c, _, rel, q, fun xs c1 g1 H1 vs p1 m1 r1 o1 f1 => ?_⟩
  obtain ⟨ds, h1, h2⟩ := datsK_all o1 p1
  split at h1
  · rename_i us ws
    cases h2 with
    | cons h3 t =>
      cases t with
      | cons h4 t =>
        cases t
        cases h3 with
        | tup s1 a1 =>
          cases h4 with
          | tup s2 a2 =>
            refine ⟨_, _, _, _, rfl, .inr ⟨seqT r1.ex (.inl (.inl s1)), seqT r1.ex (.inl (.inl s2)), k _ c1 g1 H1 _ h1 m1 r1 ⟨_, _, walk_zipT (by rw [List.length_map, List.length_zip, DpAll.len a1, DpAll.len a2]), fun g' H' m e => ⟨seqT e (seqT m (.inl (.inl s1))), seqT e (seqT m (.inl (.inl s2)))⟩, fun i H2 x2 H3 d2 e y => ?_⟩⟩⟩
            obtain ⟨T, x, y, rfl, hT, rfl, hx, hy⟩ := y
            obtain ⟨dx, ex, px⟩ := DpAll.getV a1 hx
            obtain ⟨dy, ey, py⟩ := DpAll.getV a2 hy
            have e2 : d2 = .tuple [dx, dy] := by
              rw [List.getElem?_map, (List.getElem?_zip_eq_some (z := (dx, dy))).mpr ⟨ex, ey⟩] at e
              exact (Option.some.inj e).symm
            subst e2
            refine .inr ⟨T, _, hT, rfl, fun F hF hFT => .tup upd_same ?_⟩
            have sF : Same F (upd F T (.tup [x, y])) := fun b o e => by
              rw [upd_ne (ne_of_none e hFT)]
              exact e
            exact .cons (dp_mono (hF.trans sF) px) (.cons (dp_mono (hF.trans sF) py) .nil)
  · exact h1.elim
end
theorem lcL_gen {dg : DG} {dt : DT} {de : DE} {env : Ev} (f : PyData → Bool) (h : PyData → PyData) : ∀ (items acc : List PyData) (c : Ct) (k : List PyData → Ct → Prop),
    (∀ d ∈ items, ∀ k2 : List PyData → Ct → Prop, ∀ rest : List PyData → Ct → (List PyData → Ct → Prop) → Prop, ∀ acc, (if f d = true then rest (acc ++ [h d]) c k2 else rest acc c k2) → dg (.dat d) env fun env' => dt env' c fun b c1 => if b = true then de env' c1 fun x c2 => datK x fun z => rest (acc ++ [z]) c2 k2 else rest acc c1 k2) →
    k (acc ++ (items.filter f).map h) c → lcL dg dt de env items acc c k
  | [], acc, c, k, _, hk => by
    simpa [lcL] using hk
  | d :: ds, acc, c, k, h1, hk => by
    unfold lcL
    refine h1 d List.mem_cons_self k (fun a c k => lcL dg dt de env ds a c k) acc ?_
    cases hf : f d with
    | false =>
      refine iteF (lcL_gen f h ds acc c k (fun e he => h1 e (List.mem_cons_of_mem _ he)) ?_)
      rw [List.filter_cons_of_neg (by rw [hf]; decide)] at hk
      exact hk
    | true =>
      refine iteT (lcL_gen f h ds (acc ++ [h d]) c k (fun e he => h1 e (List.mem_cons_of_mem _ he)) ?_)
      rw [List.filter_cons_of_pos hf, List.map_cons] at hk
      simpa using hk
end DL
namespace DL
open PySem PySem.Spec PyProof.Rows L2
theorem sm_int {i : Int} (h : i.natAbs < 2 ^ 200) : Sm 0 1921 (.int i) := ⟨show_int (Nat.lt_of_lt_of_le h (Nat.pow_le_pow_right (by decide) (by decide))), rfl, Nat.le_refl _, Nat.le_refl _⟩
theorem Sm.shows {k N : Nat} {d : PyData} (h : Sm k N d) (h1 : k ≤ 60) (h2 : N ≤ 16000000) : DL.shows d := shows_of h.s h.h (Nat.le_trans h.k h1) (Nat.le_trans h.c (by rw [sizeLine_eq]; omega))
structure R4 where
  f : Int
  s : Int
  l : Int
  m : Option Int
def optD : Option Int → PyData
  | none => .none
  | some m => .int m
def rD (r : R4) : PyData := .tuple [.int r.f, .int r.s, .int r.l, optD r.m]
def rDs (rs : List R4) : PyData := .tuple (rs.map rD)
/-- a rule for n, as the laws draw them -/
structure R4.Ok (n : Int) (r : R4) : Prop where
  f0 : 0 ≤ r.f
  f1 : r.f < n
  s0 : 1 ≤ r.s
  s1 : r.s ≤ n
  l0 : 0 ≤ r.l
  l1 : r.l.natAbs < 2 ^ 200
  m0 : ∀ m, r.m = some m → 0 ≤ m ∧ m.natAbs < 2 ^ 200
theorem small_len {n : Nat} (h : n ≤ 100000) : n < sizeLine := by
  rw [sizeLine_eq]
  omega
theorem dInts_len (ns : List Int) : (dInts ns).length = ns.length := by simp [dInts]
theorem small_le {n : Nat} (h : n ≤ 100000) : n ≤ sizeLine := Nat.le_of_lt (small_len h)
theorem iteD {c A B : Prop} [Decidable c] (hc : c) (h : A) : if decide c = true then A else B := by
  rw [if_pos (decide_eq_true hc)]
  exact h
theorem iteNB {b : Bool} {A B : Prop} (hb : b = true) (h : B) : if (!b) = true then A else B := by
  subst hb
  exact iteF h
theorem iteDN {c A B : Prop} [Decidable c] (hc : ¬ c) (h : B) : if decide c = true then A else B := by
  rw [if_neg fun z => hc (of_decide_eq_true z)]
  exact h
theorem dInts_lay : ∀ ns : List Int, PyData.canLayAll0 (dInts ns) = true
  | [] => rfl
  | n :: ns => by
    simp only [dInts, List.map_cons, PyData.canLayAll0, PyData.canLay0, Bool.true_and]
    exact dInts_lay ns
end DL
namespace DL
open PySem PySem.Spec PyProof.Rows L2

section
variable {K : PySem.W.Frag} {E : En} {g g' : Gh} {env : Ev} {c : Ct} {σ : L2.St} {H : Hp}
theorem Rel.newOwn (r : Rel K E g env c σ H) (i : Nat) {p : Addr} {xs : List V} {l : List PyData} (hp : H p = none) (ha : DpAll K g.F xs l) : Rel K E g (env.set i (some (.own l))) c (σ.set i (some (.ref p))) (upd H p (.lst xs)) := by
  have keep : ∀ b o, H b = some o → upd H p (.lst xs) b = some o := fun b o e => by
    rw [upd_ne (ne_of_none e hp)]
    exact e
  have nd : ¬ isDk g p := fun h => by
    obtain ⟨o', e⟩ := r.deckLive h
    rw [hp] at e
    cases e
  have live : ∀ (j : Nat) (m : List PyData), env[j]? = some (some (Vl.own m)) → σ[j]? ≠ some (some (V.ref p)) := fun j m e z => by
    obtain ⟨v, h1, b, ys, e1, _, _, h5, _⟩ := r.sl j _ e
    rw [z] at h1
    cases h1
    cases e1
    rw [hp] at h5
    cases h5
  refine ⟨r.mo, r.om, r.md, r.mt, r.dn, r.on, r.nf, r.fr.map keep, fun j m e a ea => ?_, fun a o e => keep a o (r.ex a o e), fun j y e => ?_, fun j k lj lk a ne e1 e2 e3 e4 => ?_, r.dk.move (Same.refl _) rfl rfl (fun a o _ e => keep a o e) (fun a h => r.dk.noF h), by simpa using r.len⟩
  · rcases set_get e with ⟨rfl, hl, _⟩ | ⟨ne, e2⟩
    · rw [List.getElem?_set_self (by rw [← r.len]; exact hl)] at ea
      cases ea
      exact r.oldN hp
    · rw [List.getElem?_set_ne (Ne.symm ne)] at ea
      exact r.nw j m e2 a ea
  · rcases set_get e with ⟨rfl, hl, rfl⟩ | ⟨ne, e2⟩
    · exact ⟨.ref p, by rw [List.getElem?_set_self (by rw [← r.len]; exact hl)], p, xs, rfl, r.ex.free hp, nd, upd_same, ha⟩
    · obtain ⟨v, h1, h2⟩ := r.sl j y e2
      refine ⟨v, by rw [List.getElem?_set_ne (Ne.symm ne)]; exact h1, ?_⟩
      cases y with
      | dat d => exact h2
      | deck => exact h2
      | exc _ => exact h2
      | ob _ => first | exact h2 | exact ⟨h2.1, m.o _ h2.2⟩
      | own m =>
        obtain ⟨b, ys, e1, h3, h4, h5, h6⟩ := h2
        exact ⟨b, ys, e1, h3, h4, keep b _ h5, h6⟩
  · rcases set_get e1 with ⟨rfl, hl, _⟩ | ⟨n1, f1⟩
    · rw [List.getElem?_set_self (by rw [← r.len]; exact hl)] at e3
      cases e3
      rcases set_get e2 with ⟨z, _, _⟩ | ⟨n2, f2⟩
      · exact ne z.symm
      · rw [List.getElem?_set_ne (Ne.symm n2)] at e4
        exact live k lk f2 e4
    · rw [List.getElem?_set_ne (Ne.symm n1)] at e3
      rcases set_get e2 with ⟨rfl, hl, _⟩ | ⟨n2, f2⟩
      · rw [List.getElem?_set_self (by rw [← r.len]; exact hl)] at e4
        cases e4
        exact live j lj f1 e3
      · rw [List.getElem?_set_ne (Ne.symm n2)] at e4
        exact r.ap j k lj lk a ne f1 f2 e3 e4
/-- the list in slot i is written -/
theorem Rel.writeOwn (r : Rel K E g env c σ H) (i : Nat) {l m : List PyData} {p : Addr} {ys : List V} (e : env[i]? = some (some (.own l))) (es : σ[i]? = some (some (.ref p))) (ha : DpAll K g.F ys m) : Rel K E g (env.set i (some (.own m))) c σ (upd H p (.lst ys)) := by
  obtain ⟨v, h1, a, xs, e1, h3, h4, h5, h6⟩ := r.sl i _ e
  rw [es] at h1
  cases h1
  cases e1
  have keep : ∀ b o, b ≠ p → H b = some o → upd H p (.lst ys) b = some o := fun b o n e => by
    rw [upd_ne n]
    exact e
  have hi : i < env.length := (List.getElem?_eq_some_iff.mp e).1
  have back : ∀ (j : Nat) (q : List PyData), (env.set i (some (Vl.own m)))[j]? = some (some (Vl.own q)) → ∃ q', env[j]? = some (some (Vl.own q')) := fun j q ej => by
    rcases set_get ej with ⟨rfl, _, _⟩ | ⟨_, f⟩
    · exact ⟨l, e⟩
    · exact ⟨q, f⟩
  have oldp : E.H p = none := r.nw i l e p es
  refine ⟨r.mo, r.om, r.md, r.mt, r.dn, r.on, r.nf, r.fr.map1 keep (fun o e => by rw [oldp] at e; cases e) (fun ps e => by rw [h5] at e; cases e), fun j q ej b eb => ?_, fun b o eb => keep b o (ne_of_none eb h3) (r.ex b o eb), fun j y ej => ?_, fun j k lj lk b ne ej ek e3 e4 => ?_, r.dk.move (Same.refl _) rfl rfl (fun a o hd e => keep a o (fun z => hd.elim (fun hd => h4 (z ▸ hd)) fun ht => by rw [z, h5] at e; cases e; exact ht) e) (fun a h => r.dk.noF h), by simpa using r.len⟩
  · obtain ⟨q', f⟩ := back j q ej
    exact r.nw j q' f b eb
  · rcases set_get ej with ⟨rfl, hl, rfl⟩ | ⟨ne, f⟩
    · exact ⟨.ref p, es, p, ys, rfl, h3, h4, upd_same, ha⟩
    · obtain ⟨v, g1, g2⟩ := r.sl j y f
      refine ⟨v, g1, ?_⟩
      cases y with
      | dat d => exact g2
      | deck => exact g2
      | exc _ => exact g2
      | ob _ => first | exact g2 | exact ⟨g2.1, m.o _ g2.2⟩
      | own q =>
        obtain ⟨b, zs, e1, k3, k4, k5, k6⟩ := g2
        subst e1
        exact ⟨b, zs, rfl, k3, k4, keep b _ (fun z => r.ap i j l q p (Ne.symm ne) e f es (by rw [g1, z])) k5, k6⟩
  · obtain ⟨qj, fj⟩ := back j lj ej
    obtain ⟨qk, fk⟩ := back k lk ek
    exact r.ap j k qj qk b ne fj fk e3 e4
/-- the list in slot i is data from now on -/
theorem Rel.freeze (r : Rel K E g env c σ H) (i : Nat) {l : List PyData} (e : env[i]? = some (some (.own l))) : ∃ g', Rel K E g' (env.set i (some (.dat (.list l)))) c σ H ∧ Same g.F g'.F := by
  obtain ⟨v, h1, p, xs, e1, h3, h4, h5, h6⟩ := r.sl i _ e
  subst e1
  have sF : Same g.F (upd g.F p (.lst xs)) := fun b o e => by
    rw [upd_ne (ne_of_none e h3)]
    exact e
  have hi : i < env.length := (List.getElem?_eq_some_iff.mp e).1
  have back : ∀ (j : Nat) (q : List PyData), (env.set i (some (Vl.dat (.list l))))[j]? = some (some (Vl.own q)) → j ≠ i ∧ env[j]? = some (some (Vl.own q)) := fun j q ej => by
    rcases set_get ej with ⟨_, _, z⟩ | f
    · cases z
    · exact f
  refine ⟨⟨upd g.F p (.lst xs), g.dk, g.ob⟩, ⟨r.mo.trans sF, r.om, r.md, r.mt, r.dn, r.on, fun b o eb => ?_, r.fr, fun j q ej b eb => r.nw j q (back j q ej).2 b eb, fun b o eb => ?_, fun j y ej => ?_, fun j k lj lk b ne ej ek => r.ap j k lj lk b ne (back j lj ej).2 (back k lk ek).2, r.dk.move sF rfl rfl (fun a o _ e => e) (fun a h => ?_) (tb_upd fun ps z => by rw [h5] at z; cases z), by simpa using r.len⟩, sF⟩
  · have eb : upd g.F p (.lst xs) b = some o := eb
    by_cases hb : b = p
    · exact .inr (by rw [hb]; exact r.nw i l e p h1)
    · rw [upd_ne hb] at eb
      exact r.nf b o eb
  · have eb : upd g.F p (.lst xs) b = some o := eb
    by_cases hb : b = p
    · subst hb
      rw [upd_same] at eb
      rw [h5]
      exact eb
    · rw [upd_ne hb] at eb
      exact r.ex b o eb
  · rcases set_get ej with ⟨rfl, hl, rfl⟩ | ⟨ne, f⟩
    · exact ⟨.ref p, h1, .lst (.of upd_same) (dpAll_mono sF h6)⟩
    · obtain ⟨v, g1, g2⟩ := r.sl j y f
      refine ⟨v, g1, ?_⟩
      cases y with
      | dat d => exact dp_mono sF g2
      | deck => exact g2
      | exc _ => exact g2
      | ob _ => first | exact g2 | exact ⟨g2.1, m.o _ g2.2⟩
      | own q =>
        obtain ⟨b, zs, e1, k3, k4, k5, k6⟩ := g2
        subst e1
        refine ⟨b, zs, rfl, ?_, k4, k5, dpAll_mono sF k6⟩
        show upd g.F p (.lst xs) b = none
        rw [upd_ne fun z => r.ap i j l q p (Ne.symm ne) e f h1 (by rw [g1, z])]
        exact k3
  · show upd g.F p (.lst xs) a = none
    rw [upd_ne (fun z : a = p => h4 (by rw [← z]; exact h))]
    exact r.dk.noF h
end
def sNew (i : Nat) : DS := fun D env c => D.nx (env.set i (some (.own []))) c
def sApp (i : Nat) (da : DE) : DS := fun D env c => match env[i]? with
  | some (some (.own l)) => da env c fun x c1 => datK x fun d => l.length < sizeLine ∧ D.nx (env.set i (some (.own (l ++ [d])))) c1
  | _ => False
def sFrz (i : Nat) (dt : DS) : DS := fun D env c => match env[i]? with
  | some (some (.own l)) => dt D (env.set i (some (.dat (.list l)))) c
  | _ => False
section
variable {X : Cx} {E : En} {a b : Expr} {da db : DE} {pos : Pos}
/-- x = [] -/
theorem ds_new (i : Nat) {x : Str} {p1 p2 : Pos} (hN : X.N.Nodup) (hi : X.N[i]? = some x := by rfl) (hx : Loc X.env.scope x := by first | exact Or.inl rfl | exact Or.inr rfl) (hs : swapsWith (.List [] p1) (some (.Name x p2)) pos.line X.env = pure false := by rfl) (hf : X.fn x = true ∨ X.env.scope.names.lookup x = some .local := by first | exact .inl rfl | exact .inr rfl | assumption) :
    DPS X E (.Assign [.Name x p2] (.List [] p1) pos) (sNew i) := by
  refine ps_imp (ps_set hN hi hx (pe_lst pa_nil) hs hf) fun D σ H h => ?_
  obtain ⟨g, env, c, P, rel, q, k, _⟩ := h
  exact ⟨Nat.zero_le _, fun p hp => k _ c g _ _ q (Same.refl _) (rel.newOwn i hp .nil)⟩
/-- x.append(e) -/
theorem ds_app (i : Nat) {x : Str} {p1 p2 p3 : Pos} (h : DPE X E a da) (hN : X.N[i]? = some x := by rfl) (hv : Vis X.env.scope x := by first | exact Or.inl rfl | exact Or.inr (Or.inl rfl) | exact Or.inr (Or.inr rfl)) (h1 : (x == ("__debug__" : Str)) = false := by decide)
    (h2 : (x == ("__classdict__" : Str)) = false := by decide) (hb : attributeBase (.Name x p1) "append" X.env (eval (.Name x p1) X.env) = eval (.Name x p1) X.env := by rfl)
    (hfew : ((backTo p3 (starEach [a] X.env)).all (fun x => !x.1) && (backToKw p3 (keywordEach [] X.env)).all (fun x => x.1.isSome) && decide ([a].length + ([] : List Keyword).length + (if ([] : List Keyword).isEmpty then 0 else 1) < 30)) = true := by rfl)
    (hline : (p2.endLine == p3.line) = true := by rfl) (he : starEach [a] X.env = (false, eval a X.env) :: starEach [] X.env := by rfl) (hpl : (backTo p3 (starEach [] X.env)).any (·.1) = false := by rfl)
    (hs : swapsWith (.Call (.Attribute (.Name x p1) "append" p2) [a] [] p3) none pos.line X.env = pure false := by rfl) :
    DPS X E (.Expr (.Call (.Attribute (.Name x p1) "append" p2) [a] [] p3) pos) (sApp i da) := by
  refine ps_imp (ps_expr (pe_bm PySem.F.plainAttrs_list PySem.F.slot_list_append PySem.F.type_list_append mt_append (pe_var hN hv h1 h2) (pa_cons h pa_nil he) hb hfew hline he hpl) hs) fun D σ H h => ?_
  obtain ⟨g, env, c, P, rel, q, k, _⟩ := h
  unfold sApp at q
  split at q
  · rename_i l e
    obtain ⟨v, e1, p, xs, rfl, h3, h4, h5, h6⟩ := rel.sl i _ e
    refine ⟨_, e1, .inl ⟨rfl, _, .of h5⟩, g, env, c, _, rel, q, fun y c1 g1 H1 w p1 m1 r1 o1 f1 => ?_⟩
    cases y with
    | deck => exact p1.elim
    | exc _ => exact p1.elim
    | ob _ => exact p1.elim
    | own l => exact p1.elim
    | dat d =>
      have h5' := m1.fr.k p _ h5 (ntL h4)
      refine ⟨p, xs, w, rfl, rfl, h5', by rw [DpAll.len h6]; exact p1.1, k _ c1 g1 _ _ p1.2 m1.f (r1.writeOwn i e e1 (DpAll.app (dpAll_mono m1.f h6) (.cons o1 .nil)))⟩
  · exact q.elim
/-- ahead of what follows, the list in slot i becomes data -/
theorem ds_frz (i : Nat) {sts : List Stmt} {dt : DS} (h : DPSs X E sts dt) : DPSs X E sts (sFrz i dt) := by
  refine pss_imp h fun D σ H h => ?_
  obtain ⟨g, env, c, P, rel, q, k1, k2, k3, k4⟩ := h
  unfold sFrz at q
  split at q
  · rename_i l e
    obtain ⟨g', r', m⟩ := rel.freeze i e
    exact ⟨g', _, c, P, r', q, fun env2 c2 g2 σ2 H2 p2 m2 r2 => k1 env2 c2 g2 σ2 H2 p2 (m.trans m2) r2, fun x c2 env2 g2 σ2 H2 v p2 m2 r2 => k2 x c2 env2 g2 σ2 H2 v p2 (m.trans m2) r2, fun env2 c2 g2 σ2 H2 p2 m2 r2 => k3 env2 c2 g2 σ2 H2 p2 (m.trans m2) r2, fun env2 c2 g2 σ2 H2 p2 m2 r2 => k4 env2 c2 g2 σ2 H2 p2 (m.trans m2) r2⟩
  · exact q.elim
def truK (d : PyData) (k : Bool → Prop) : Prop := match d with
  | .none => k false
  | .bool b => k b
  | .int i => k (i != 0)
  | .list xs => k (!xs.isEmpty)
  | .tuple xs => k (!xs.isEmpty)
  | _ => False
def dOrT (da db : DE) : DE := fun env c P => da env c fun x c1 => datK x fun d => truK d fun b => if b = true then P (.dat d) c1 else db env c1 P
end
end DL
namespace DL
open PySem PySem.Spec PyProof.Rows L2
theorem meets_enum1 {v : Value} {o : Obj} {G : Heap → Prop} (B : Begins v o G) : Meets (Builtin.«enumerate.__new__» ⟨[.type "enumerate", v], []⟩) (fun _ R s => G s.heap ∧
    R (.ok (.ret (.ref (s.heap.push o).objs.size))) { s with heap := (s.heap.push o).push { cls := .type "enumerate", data := .fields #[.none, .bool false, .ref s.heap.objs.size, rawInt 0, .none, .none] } }) := by
  refine .of_wp fun prog w A R st hst => ?_
  obtain ⟨hp, gn, dr, tk, os⟩ := st
  obtain ⟨hg, hR⟩ := hst
  have hsub := sub_enumerate
  have go : ∀ {A' : Around} {E' : Value → Shared → Prop} {Q : Value → Shared → Prop}, Q (.ref hp.objs.size) ⟨hp.push o, gn, dr, tk, os⟩ → wpAny (model prog w) A' (pyIter v) Q E' ⟨hp, gn, dr, tk, os⟩ := fun q => B.iter prog w _ _ ⟨hp, gn, dr, tk, os⟩ _ hg q
  wp_walk using go
  refine wpAny_stack_any (fun stk => wpAny_pure ?_)
  split
  · rename_i cc _ _ _ _ _
    cases (cc == Value.type "enumerate") <;> (wp_walk using go; exact ⟨_, rfl, hR⟩)
  · wp_walk using go
    exact ⟨_, rfl, hR⟩
section
variable {prog : Program} {w : World} {A : Around} {E : Value → Shared → Prop} {s : Shared}
theorem enum_begins1 {v : Value} {o : Obj} {G : Heap → Prop} {Q : Value → Shared → Prop} (B : Begins v o G) (h1 : G s.heap)
    (h : ∀ h', IsEnum h' (s.heap.objs.size + 1) s.heap.objs.size 0 .none → h'.get? s.heap.objs.size = some o → h'.objs.size = s.heap.objs.size + 2 → (∀ b u, s.heap.get? b = some u → h'.get? b = some u) → Q (.ref (s.heap.objs.size + 1)) { s with heap := h' }) :
    wpAny (model prog w) A (call (.type "enumerate") [v]) Q E s := by
  refine callType_new F.called_enumerate (by decide) (F.typeCall_enumerate_1 _) (F.newCall_enumerate_1 _) (fun obj => F.args_object_init_2 obj _) F.entry_enumerate_new (meets_enum1 B) ⟨h1, ?_⟩
  have hz : (s.heap.push o).objs.size = s.heap.objs.size + 1 := Heap.size_push ..
  have he := Heap.get?_push_size (s.heap.push o) (o := { cls := .type "enumerate", data := .fields #[.none, .bool false, .ref s.heap.objs.size, rawInt 0, .none, .none] }) rfl
  rw [hz] at he
  show _ ∧ _
  rw [hz]
  exact ⟨⟨_, he, rfl⟩, h _ he (Heap.get?_push_of_some _ (Heap.get?_push_size _ B.free)) (by rw [Heap.size_push, hz]) fun b u x => Heap.get?_push_of_some _ (Heap.get?_push_of_some _ x)⟩
end
/-- the tuple at a, each item in a new pair with its place -/
def ItE (K : PySem.W.Frag) (a : Addr) : It where
  go := fun i H => ∃ (xs : List V) (x : V), SqT K H a xs ∧ xs[i]? = some x
  yld := fun i H v H' => ∃ T x, v = .ref T ∧ H T = none ∧ H' = upd H T (.tup [.int (i : Nat), x]) ∧ ∀ xs, SqT K H a xs → xs[i]? = some x
  stop := fun i H => ∃ xs : List V, SqT K H a xs ∧ xs.length = i
theorem iter_ne {h : Heap} {it a : Addr} {i : Nat} {its : Array Value} (h1 : h.IsTupleIter it a i) (h2 : h.IsTuple a its) : a ≠ it := fun z => by
  obtain ⟨o, e1, c1, _⟩ := h1
  obtain ⟨o2, e2, c2, _⟩ := h2
  rw [z, e1] at e2
  cases e2
  rw [c1] at c2
  simp at c2
theorem turn_enumT {P : Program} {w : World} {K : PySem.W.Frag} {elts : List Expr} {kk : Nat} {tpos : Pos} (a e it : Addr) (hae : a ≠ e) :
    Turn P w K (.Tuple elts kk tpos) (ItE K a) [e, it] e (fun i h => (∃ old, IsEnum h e it ((i : Nat) : Int) old) ∧ h.IsTupleIter it a i ∧ e ≠ it) where
  mem := List.mem_cons_self
  obj := fun i h st b hb => by
    obtain ⟨⟨old, he⟩, ⟨o, ho, hc, hd⟩, _⟩ := st
    rcases List.mem_cons.mp hb with z | z
    · rw [z]
      exact ⟨_, he, (fun v q => nomatch q)⟩
    · rw [List.mem_singleton.mp z]
      exact ⟨o, ho, fun v q => by rw [hd] at q; cases q⟩
  keep := fun i h h' st k => ⟨st.1.elim fun old he => ⟨old, k e List.mem_cons_self _ he⟩, st.2.1.at fun o q => k it (List.mem_cons_of_mem _ List.mem_cons_self) o q, st.2.2⟩
  item := by
    intro X hP hw hK hc i pins s σ H E I hf st hg
    subst hP hw hK
    obtain ⟨⟨old, he⟩, hit, hne⟩ := st
    obtain ⟨xs, x, hq, hx⟩ := hg
    obtain ⟨its, rv, pt, hz⟩ := I.tuple hq
    obtain ⟨u, hu, ru⟩ := rv.get hx
    have pt : s.heap.IsTuple a its.toArray := pt
    have hai : a ≠ it := iter_ne hit pt
    have hlt : i < its.toArray.size := by simpa using (List.getElem?_eq_some_iff.mp hu).1
    have hel : e < s.heap.objs.size := Heap.lt_size he
    have hil : it < s.heap.objs.size := by
      obtain ⟨_, q, _⟩ := hit
      exact Heap.lt_size q
    refine wpAny_pyNext_enum_itemC (Draws.tuple (A := X.A.in1) (I.ok.hd hc) it a hai its.toArray) he ⟨hit, pt⟩ hlt hne (by simp [hne, hae.symm]) fun x2 h' tk hP2 ho hst' hT hsz hk => ?_
    have ex : x2 = u := by
      have hP3 : its.toArray[i]? = some x2 := hP2
      rw [List.getElem?_toArray, hu] at hP3
      exact (Option.some.inj hP3).symm
    subst ex
    refine ⟨_, rfl, wpAny_letOwnedTupleGo_enum (s := { s with heap := h', toks := tk + 1 }) ho fun h'' he' sb => ?_⟩
    have hT2 : h''.get? s.heap.objs.size = some { cls := .type "tuple", data := .seq #[.int i tk, x2] } := (sb.2 _ (Nat.ne_of_gt hel)).trans hT
    have made : ObjOk X.prog X.w (upd H s.heap.objs.size (.tup [.int (i : Nat), x])) h'' s.heap.objs.size (.tup [.int (i : Nat), x]) := ⟨by show 2 ≤ sizeLine; decide, [.int i tk, x2], .cons ⟨_, rfl⟩ (.cons ru .nil), ⟨_, hT2, rfl, _, rfl⟩⟩
    have J : L2.Inv X pins σ (upd H s.heap.objs.size (.tup [.int (i : Nat), x])) { s with heap := h'', toks := tk + 1 } :=
      I.turnedNew (ch := [e, it]) (fun b ob hb q => (sb.2 b (fun z => hb (by simp [z]))).trans (hk b ob (fun z => hb (by simp [z])) (fun z => hb (by simp [z])) q)) hf (Nat.le_refl _) made
    refine ⟨.ref s.heap.objs.size, _, J, rfl, ⟨_, x, rfl, I.hok.fresh (Nat.le_refl _), rfl, fun ys hy => by rw [I.tuple_inj hy hq]; exact hx⟩, ⟨⟨x2, ?_⟩, hst'.1.at fun o q => (sb.2 it (Ne.symm hne)).trans q, hne⟩, fun b hb => ?_⟩
    · rw [show ((i + 1 : Nat) : Int) = (i : Int) + 1 by omega]
      exact he'
    · have hb' : b < s.heap.objs.size := by
        rcases List.mem_cons.mp hb with z | z
        · rw [z]
          exact hel
        · rw [List.mem_singleton.mp z]
          exact hil
      rw [upd_ne (Nat.ne_of_lt hb')]
      exact (hf b hb).1
  done := by
    intro X hP hw hK hc i pins s σ H E I hf st hg
    subst hP hw hK
    obtain ⟨⟨old, he⟩, hit, hne⟩ := st
    obtain ⟨xs, hq, hx⟩ := hg
    obtain ⟨its, rv, pt, hz⟩ := I.tuple hq
    have pt : s.heap.IsTuple a its.toArray := pt
    have hai : a ≠ it := iter_ne hit pt
    have hl := rv.length
    have hn : its.toArray.size = i := by
      rw [List.size_toArray]
      omega
    obtain ⟨f0, f1, f2, f3, f4, f5⟩ := hf it (List.mem_cons_of_mem _ List.mem_cons_self)
    subst hn
    exact wpAny_pyNext_enum_endD (Draws.tuple (A := X.A.in1) (I.ok.hd hc) it a hai its.toArray) he ⟨hit, pt⟩ fun h' eb => ⟨rfl, I.turned (t' := s.toks) (fun b o hb q => eb b o hb q) f0 f1 f3 f4 f5⟩
  self := fun A i s Q E st h => st.1.elim fun _ he => wpAny_pyIter_enum he h
theorem walk_enumT {K : PySem.W.Frag} {a : Addr} {xs : List V} : Walk (ItE K a) xs.length (fun H => SqT K H a xs) (YPair (fun i => some (.int (i : Nat))) (fun i => xs[i]?)) := by
  refine ⟨fun i H hi h => ⟨xs, xs[i], h, List.getElem?_eq_getElem hi⟩, fun H h => ⟨xs, h, rfl⟩, fun i H v H' hi h y => ?_⟩
  obtain ⟨T, x, e1, e2, e3, f1⟩ := y
  exact ⟨T, .int (i : Nat), x, e1, e2, e3, rfl, f1 xs h⟩
def enumD (ds : List PyData) : List PyData := (List.range ds.length).map fun i => .tuple [.int (i : Nat), ds.getD i .none]
def wEnumerateT (da : DA) : DI := fun env c P => da env c fun xs c1 => datsK xs fun ds => match ds with
  | [.tuple xs] => P (enumD xs) c1
  | _ => False
section
variable {X : Cx} {E : En} {a : Expr} {pos : Pos}
theorem dw_enumerateT {elts : List Expr} {kk : Nat} {dr : DA} {p tpos : Pos} (ha : DPA X E [a] dr) (hm : X.mg "enumerate" = none) (hg : Gl X "enumerate" := by rfl) (hs : starEach [a] X.env = [(false, eval a X.env)] := by rfl) :
    DPI X E (.Tuple elts kk tpos) (.Call (.Name "enumerate" p) [a] [] pos) (wEnumerateT dr) := by
  refine ⟨fun pins s σ H R I h => ?_⟩
  obtain ⟨g, env, c, P, rel, q, k⟩ := h
  refine Call_ (ld_blt I hg hm boot_enumerate (PyProof.Rows.callWith_type1 (thn (ha.run pos pins s σ H (fun vs H1 => ∃ g1 c1 ds, Rel X.K E g1 env c1 σ H1 ∧ Mv g H g1 H1 ∧ DpAll X.K g1.F vs [.tuple ds] ∧ P (enumD ds) c1) I ⟨g, env, c, _, rel, q, fun xs c1 g1 H1 vs p1 m1 r1 o1 f1 => ?_⟩) fun us s1 hq => ?_) hs rfl))
  · obtain ⟨ds, h1, h2⟩ := datsK_all o1 p1
    split at h1
    · exact ⟨g1, c1, _, r1, m1, h2, h1⟩
    · exact h1.elim
  · obtain ⟨vs, H1, I1, rv, g1, c1, ds, r1, m1, ha, hp⟩ := hq
    cases ha with
    | cons h1 t =>
      cases t
      cases h1 with
      | tup hsq hal =>
        cases rv with
        | cons ra rb =>
          cases rb
          cases ra
          rename_i ad xs
          have hsq1 := seqT (K := X.K) r1.ex (.inl (.inl hsq))
          obtain ⟨its, rvt, pt, hz⟩ := I1.tuple hsq1
          have pt : s1.heap.IsTuple ad its.toArray := pt
          have alt : ad < s1.heap.objs.size := by
            obtain ⟨o, e, _⟩ := id pt
            exact Heap.lt_size e
          refine enum_begins1 (begins_tuple ad its.toArray) pt fun h' he hit hsz hk => wpAny_pyIter_enum he ?_
          have I2 : L2.Inv X pins σ H1 { s1 with heap := h' } := I1.kept (t' := s1.toks) hk
          refine ⟨s1.heap.objs.size + 1, [s1.heap.objs.size + 1, s1.heap.objs.size], _, _, H1, rfl, I2, turn_enumT ad (s1.heap.objs.size + 1) s1.heap.objs.size (Nat.ne_of_lt (Nat.lt_succ_of_lt alt)), ⟨⟨.none, he⟩, ⟨_, hit, rfl, rfl⟩, Nat.succ_ne_self _⟩, fun b hb => ?_, ?_⟩
          · have hle : s1.heap.objs.size ≤ b := by
              rcases List.mem_cons.mp hb with z | z
              · rw [z]
                exact Nat.le_succ _
              · rw [List.mem_singleton.mp z]
                exact Nat.le_refl _
            exact I1.fpOk hle (I1.hok.fresh hle)
          · have hlen : xs.length = (enumD ds).length := by
              unfold enumD
              rw [List.length_map, List.length_range, DpAll.len hal]
            refine k _ c1 g1 H1 _ hp m1 r1 ⟨_, _, by rw [← hlen]; exact walk_enumT, fun g' H' m e => seqT e (seqT m (.inl (.inl hsq))), fun i H2 x2 H3 d2 e y => ?_⟩
            obtain ⟨T, x, y, rfl, hT, rfl, hx, hy⟩ := y
            cases hx
            obtain ⟨dy, ey, py⟩ := DpAll.getV hal hy
            have hi : i < ds.length := (List.getElem?_eq_some_iff.mp ey).1
            have e2 : d2 = .tuple [.int (i : Nat), dy] := by
              unfold enumD at e
              rw [List.getElem?_map, List.getElem?_range hi, Option.map_some, List.getD_eq_getElem?_getD, ey] at e
              exact (Option.some.inj e).symm
            subst e2
            refine .inr ⟨T, _, hT, rfl, fun F hF hFT => .tup upd_same ?_⟩
            have sF : Same F (upd F T (.tup [.int (i : Nat), y])) := fun b o e => by
              rw [upd_ne (ne_of_none e hFT)]
              exact e
            exact .cons (.int _) (.cons (dp_mono (hF.trans sF) py) .nil)
end
end DL
namespace DL
open PySem PySem.Spec PyProof.Rows L2
section
variable {X : Cx}
end
def rdMulU : PyData → PyData → (PyData → Prop) → Prop := fun d e P => match d, e with
  | .int i, .int j => CMul i j ∧ P (.int (i * j))
  | .tuple xs, .int k => xs ≠ [] ∧ 0 ≤ k ∧ k ≤ 1000 ∧ xs.length ≤ 1000 ∧ P (.tuple (List.replicate k.toNat xs).flatten)
  | _, _ => False
section
variable {X : Cx} {E : En} {a b : Expr} {da db : DE} {pos : Pos}
end
end DL
namespace DL
open PySem PySem.Spec PyProof.Rows L2
def sWhile (t : DT) (db : DS) : DS := fun D env c => ∃ W : Nat → Ev → Ct → Prop, (∃ m, W m env c) ∧ ∀ m env c, W m env c →
  t env c fun b c1 => if b = true then db { nx := fun e c' => ∃ m', m' < m ∧ W m' e c', ct := fun e c' => ∃ m', m' < m ∧ W m' e c', bk := D.nx, rt := D.rt } env c1 else D.nx env c1
section
variable {X : Cx} {E : En} {a b : Expr} {da db : DE} {pos : Pos}
theorem ds_while {t : DT} {ds : DS} {body : List Stmt} (ht : DPT X E a t) (hb : DPSs X E body ds) (hp : PassesOwn (model X.prog X.w) X.A X.env X.xe := by exact PassesOwn.never) : DPS X E (.While a body [] pos) (sWhile t ds) := by
  refine ps_imp (ps_while hp ht hb) fun D σ H h => ?_
  obtain ⟨g, env, c, P, rel, ⟨W, ⟨m0, w0⟩, step⟩, k1, k2, k3, k4⟩ := h
  refine ⟨fun m σ' H' => ∃ g' env' c', Same g.F g'.F ∧ Rel X.K E g' env' c' σ' H' ∧ W m env' c', ⟨m0, g, env, c, Same.refl _, rel, w0⟩, ?_⟩
  rintro m σ' H' ⟨g', env', c', sm, r, w⟩
  refine ⟨g', env', c', _, r, step m env' c' w, fun b c1 g1 H1 p1 m1 r1 => ?_⟩
  cases b with
  | false => exact iteF (k1 env' c1 g1 σ' H1 p1 (sm.trans m1.f) r1)
  | true =>
    refine iteT ⟨fun σ2 H2 => ∃ m', m' < m ∧ ∃ g2 env2 c2, Same g.F g2.F ∧ Rel X.K E g2 env2 c2 σ2 H2 ∧ W m' env2 c2, fun σ2 H2 hN => hN, g1, env', c1, _, r1, p1, fun env2 c2 g2 σ2 H2 p2 m2 r2 => ?_, fun x c2 env2 g2 σ2 H2 v p2 m2 r2 => k2 x c2 env2 g2 σ2 H2 v p2 ((sm.trans m1.f).trans m2) r2, fun env2 c2 g2 σ2 H2 p2 m2 r2 => k1 env2 c2 g2 σ2 H2 p2 ((sm.trans m1.f).trans m2) r2, fun env2 c2 g2 σ2 H2 p2 m2 r2 => ?_⟩
    · obtain ⟨m', lt, w'⟩ := p2
      exact ⟨m', lt, g2, env2, c2, (sm.trans m1.f).trans m2, r2, w'⟩
    · obtain ⟨m', lt, w'⟩ := p2
      exact ⟨m', lt, g2, env2, c2, (sm.trans m1.f).trans m2, r2, w'⟩
def dOwnIx (i : Nat) (db : DE) : DE := fun env c P => match env[i]? with
  | some (some (.own l)) => db env c fun y c1 => datK y fun e => ixK l e fun z => P (.dat z) c1
  | _ => False
def sOwnSet (i : Nat) (da db : DE) : DS := fun D env c => da env c fun x c1 => datK x fun d => match env[i]? with
  | some (some (.own l)) => db env c1 fun y c2 => datK y fun e => intK e fun j => ∃ k, ixN l.length j = some k ∧ D.nx (env.set i (some (.own (l.set k d)))) c2
  | _ => False
def rdList : List PyData → (PyData → Prop) → Prop := fun ds P => match ds with
  | [.list xs] => P (.list xs)
  | [.tuple xs] => P (.list xs)
  | _ => False
def sNewLst (i : Nat) (da : DE) : DS := fun D env c => da env c fun x c1 => datK x fun d => match d with
  | .list xs => D.nx (env.set i (some (.own xs))) c1
  | .tuple xs => D.nx (env.set i (some (.own xs))) c1
  | _ => False
end
end DL
namespace DL
open PySem PySem.Spec PyProof.Rows L2
def rCatL (K : PySem.W.Frag) : R2 := fun x y H Q => ∃ l b xs zs, x = .ref l ∧ y = .ref b ∧ SqL K H l xs ∧ SqL K H b zs ∧ xs.length + zs.length ≤ sizeLine ∧ ∀ p, H p = none → Q (.ref p) (upd H p (.lst (xs ++ zs)))
section
variable {X : Cx}
theorem op_catL : OpR X (binaryOp .Add) (rCatL X.K) := by
  intro pins s σ H x y v u Q I rx ry h
  obtain ⟨l, b, xs, zs, rfl, rfl, hH, hB, hz, q⟩ := h
  cases rx
  cases ry
  obtain ⟨its, r, ⟨⟨cls, dd, data, sl⟩, n, ho, hc, _, hd⟩, hl⟩ := I.list hH
  obtain ⟨its2, r2, ⟨⟨cls2, dd2, data2, sl2⟩, n2, ho2, hc2, _, hd2⟩, hl2⟩ := I.list hB
  simp only at hc hd hc2 hd2
  subst hc hd hc2 hd2
  have e : its.toArray ++ its2.toArray = (its ++ its2).toArray := by simp
  have z1 := r.length
  have z2 := r2.length
  refine concat_meets ⟨_, ho, rfl⟩ ⟨_, ho2, rfl⟩ noFill_list_add seq_list_add PySem.F.slot_list_add PySem.F.entry_list_add (PySem.F.args_list_add_2 _ _) (list_addW l b its.toArray its2.toArray n n2 dd dd2 sl sl2 (by simp only [List.size_toArray]; omega)) ⟨ho, ho2, ?_⟩
  rw [e]
  exact ⟨.ref _, _, I.lnew (t' := s.toks) (r.append r2) (by rw [List.length_append]; omega), rfl, q _ I.fresh⟩
end
/-- + of ints, of tuples, of lists -/
def rdAddX : PyData → PyData → (PyData → Prop) → Prop := fun d e P => match d, e with
  | .list xs, .list ys => xs.length + ys.length ≤ sizeLine ∧ P (.list (xs ++ ys))
  | d, e => rdAddU d e P
theorem opd_addX {K : PySem.W.Frag} : OpD K (fun x y H Q => rCatL K x y H Q ∨ (rI0 (fun i j => .int (i + j)) x y H Q ∨ rCatA K x y H Q)) rdAddX := by
  intro E g env c σ H x y d e P Q r hx hy q k
  unfold rdAddX at q
  split at q
  · cases hx with
    | lst h1 a1 =>
      cases hy with
      | lst h2 a2 =>
        refine .inl ⟨_, _, _, _, rfl, rfl, r.ex.seq h1, r.ex.seq h2, by rw [DpAll.len a1, DpAll.len a2]; exact q.1, fun p hp => ?_⟩
        obtain ⟨r2, m2⟩ := r.new (.lst _) hp
        exact k _ _ _ _ q.2 m2 r2 (.lst (.of upd_same) (DpAll.app (dpAll_mono m2.f a1) (dpAll_mono m2.f a2)))
  · exact .inr (opd_addU _ _ _ _ _ _ _ _ _ _ _ _ r hx hy q k)
section
variable {X : Cx} {E : En} {a b : Expr} {da db : DE} {pos : Pos}
theorem de_addX (ha : DPE X E a da) (hb : DPE X E b db) : DPE X E (.BinOp a .Add b pos) (dOp rdAddX da db) := de_op (OpR.or op_catL (OpR.or op_add op_catA)) opd_addX ha hb
end
end DL
namespace DL
open PySem PySem.Spec PyProof.Rows L2
section
variable {K : PySem.W.Frag} {E : En} {g g' : Gh} {env : Ev} {c : Ct} {σ : L2.St} {H H' : Hp} {p : Addr} {l : List PyData}
/-- into slot i -/
theorem Rel.takeOwn (r : Rel K E g env c σ H) (i : Nat) (f : Frs K E g H env σ p l) : Rel K E g (env.set i (some (.own l))) c (σ.set i (some (.ref p))) H := by
  obtain ⟨xs, hp, ha⟩ := f.at_
  refine ⟨r.mo, r.om, r.md, r.mt, r.dn, r.on, r.nf, r.fr, fun j m e a ea => ?_, r.ex, fun j y e => ?_, fun j k lj lk a ne e1 e2 e3 e4 => ?_, r.dk, by simpa using r.len⟩
  · rcases set_get e with ⟨rfl, hl, _⟩ | ⟨ne, e2⟩
    · rw [List.getElem?_set_self (by rw [← r.len]; exact hl)] at ea
      cases ea
      exact f.eH
    · rw [List.getElem?_set_ne (Ne.symm ne)] at ea
      exact r.nw j m e2 a ea
  · rcases set_get e with ⟨rfl, hl, rfl⟩ | ⟨ne, e2⟩
    · exact ⟨.ref p, by rw [List.getElem?_set_self (by rw [← r.len]; exact hl)], p, xs, rfl, f.fF, f.nd, hp, ha⟩
    · obtain ⟨v, h1, h2⟩ := r.sl j y e2
      exact ⟨v, by rw [List.getElem?_set_ne (Ne.symm ne)]; exact h1, h2⟩
  · rcases set_get e1 with ⟨rfl, hl, _⟩ | ⟨n1, f1⟩
    · rw [List.getElem?_set_self (by rw [← r.len]; exact hl)] at e3
      cases e3
      rcases set_get e2 with ⟨z, _, _⟩ | ⟨n2, f2⟩
      · exact ne z.symm
      · rw [List.getElem?_set_ne (Ne.symm n2)] at e4
        exact f.no k lk f2 e4
    · rw [List.getElem?_set_ne (Ne.symm n1)] at e3
      rcases set_get e2 with ⟨rfl, hl, _⟩ | ⟨n2, f2⟩
      · rw [List.getElem?_set_self (by rw [← r.len]; exact hl)] at e4
        cases e4
        exact f.no j lj f1 e3
      · rw [List.getElem?_set_ne (Ne.symm n2)] at e4
        exact r.ap j k lj lk a ne f1 f2 e3 e4
end
def fLst (dr : DA) : DF := fun env c P => dr env c fun xs c1 => datsK xs fun ds => ds.length ≤ sizeLine ∧ P ds c1
def fList (da : DE) : DF := fun env c P => da env c fun x c1 => datK x fun d => match d with
  | .list xs => P xs c1
  | .tuple xs => P xs c1
  | _ => False
def fCat (da db : DE) : DF := fun env c P => da env c fun x c1 => datK x fun d => db env c1 fun y c2 => datK y fun e => match d, e with
  | .list xs, .list ys => xs.length + ys.length ≤ sizeLine ∧ P (xs ++ ys) c2
  | _, _ => False
def fSl (da : DE) (lo hi : DO) : DF := fun env c P => da env c fun x c1 => datK x fun d => lo env c1 fun l c2 => hi env c2 fun u c3 => match d with
  | .list ds => P (cutD ds l u) c3
  | _ => False
def fRev (da : DE) : DF := fun env c P => da env c fun x c1 => datK x fun d => match d with
  | .list ds => P ds.reverse c1
  | _ => False
section
variable {X : Cx} {E : En} {a b : Expr} {da db : DE} {pos : Pos}
/-- the end of each: data xs laid at p -/
theorem fresh_end {K : PySem.W.Frag} {g g1 : Gh} {env : Ev} {c1 : Ct} {P : List PyData → Ct → Prop} {σ : L2.St} {H H1 : Hp} {Q : VK} {xs : List V} {l : List PyData}
    (k : ∀ l c' g' H' p xs, P l c' → Mv g H g' H' → Rel K E g' env c' σ H' → H p = none → H' p = some (.lst xs) → g'.F p = none → ¬ isDk g' p → DpAll K g'.F xs l → Q (.ref p) H')
    (hP : P l c1) (m1 : Mv g H g1 H1) (r1 : Rel K E g1 env c1 σ H1) (ha : DpAll K g1.F xs l) (p : Addr) (hp : H1 p = none) : Q (.ref p) (upd H1 p (.lst xs)) := by
  obtain ⟨r2, m2⟩ := r1.skip (.lst xs) hp
  refine k l c1 g1 _ p xs hP (m1.trans m2) r2 ?_ upd_same (r1.ex.free hp) (r1.freeDk hp) ha
  cases w : H p with
  | none => rfl
  | some o =>
    obtain ⟨o', e⟩ := m1.lv p o w
    rw [hp] at e
    cases e
theorem df_lst {es : List Expr} {dr : DA} (h : DPA X E es dr) : DPF X E (.List es pos) (fLst dr) := by
  refine pe_imp (pe_lst h) fun σ H Q h => ?_
  obtain ⟨g, env, c, P, rel, q, k⟩ := h
  refine ⟨g, env, c, _, rel, q, fun xs c1 g1 H1 vs p1 m1 r1 o1 f1 => ?_⟩
  obtain ⟨ds, h1, h2⟩ := datsK_all o1 p1
  exact ⟨by rw [DpAll.len h2]; exact h1.1, fun p hp => fresh_end k h1.2 m1 r1 h2 p hp⟩
theorem df_sl {lo hi : Option Expr} {dl dh : DO} {p2 : Pos} (h : DPE X E a da) (hl : DPO X E lo dl) (hu : DPO X E hi dh) : DPF X E (.Subscript a (.Slice lo hi none p2) pos) (fSl da dl dh) := by
  refine pe_imp (pe_slice sl_list h hl hu) fun σ H Q h => ?_
  obtain ⟨g, env, c, P, rel, q, k⟩ := h
  refine ⟨g, env, c, _, rel, q, fun x c1 g1 H1 v p1 m1 r1 o1 f1 => ?_⟩
  cases x with
  | deck => exact p1.elim
  | exc _ => exact p1.elim
  | ob _ => exact p1.elim
  | own l => exact p1.elim
  | dat d =>
    refine ⟨g1, env, c1, _, r1, p1, fun l c2 g2 H2 p2 m2 r2 => ⟨g2, env, c2, _, r2, p2, fun u c3 g3 H3 p3 m3 r3 => ?_⟩⟩
    cases d <;> try exact p3.elim
    rename_i ds
    have o1 : Dp X.K g1.F v (.list ds) := o1
    have o3 := dp_mono (m2.trans m3).f o1
    cases o3 with
    | lst hs ha => exact ⟨_, _, rfl, r3.ex.seq hs, fun p hp => fresh_end k p3 (m1.trans (m2.trans m3)) r3 (dpAll_cut ha l u) p hp⟩
/-- a new list as a value -/
def dF (dt : DF) : DE := fun env c P => dt env c fun l c' => P (.dat (.list l)) c'
theorem de_f {dt : DF} (h : DPF X E a dt) : DPE X E a (dF dt) := pe_imp h fun _ _ _ q => f_up q
def sOwn (i : Nat) (dt : DF) : DS := fun D env c => dt env c fun l c1 => D.nx (env.set i (some (.own l))) c1
def sParF (i j : Nat) (dt : DF) (db : DE) : DS := fun D env c => dt env c fun l c1 => db env c1 fun y c2 => D.nx ((env.set i (some (.own l))).set j (some y)) c2
def sParFF (i j : Nat) (dt du : DF) : DS := fun D env c => dt env c fun l c1 => du env c1 fun m c2 => D.nx ((env.set i (some (.own l))).set j (some (.own m))) c2
variable {px py pt : Pos} {kt : Nat} {k2 : Nat} {pt2 : Pos} {x y : Str}
def dOwnLen (i : Nat) : DE := fun env c P => match env[i]? with
  | some (some (.own l)) => P (.dat (.int l.length)) c
  | _ => False
end
theorem cr_or {X : Cx} {f : Value} {r r' : List V → Hp → VK → Prop} (h : CallR X f r) (h' : CallR X f r') : CallR X f (fun xs H Q => r xs H Q ∨ r' xs H Q) := by
  intro pins s σ H vs us Q I rv q
  rcases q with q | q
  · exact h pins s σ H vs us Q I rv q
  · exact h' pins s σ H vs us Q I rv q
def rSumT (K : PySem.W.Frag) : List V → Hp → VK → Prop := fun vs H Q => ∃ (a : Addr) (ns : List Int), vs = [V.ref a] ∧ SqT K H a (ns.map V.int) ∧ Q (.int ns.sum) H
theorem cr_sumT {X : Cx} (hc : X.calm = true) : CallR X (.builtin "sum") (rSumT X.K) := by
  intro pins s σ H vs us Q I r h
  obtain ⟨a, ns, rfl, hs, q⟩ := h
  obtain ⟨its, rv, hl, _⟩ := I.tuple hs
  rw [Vals.ref1 r]
  obtain ⟨xs, e⟩ := rv.ints.allInts.items
  have hn : numsOf (intItems xs).toList = ns := by rw [← e]; exact rv.ints.numsOf
  rw [nums_intItems] at hn
  have hl2 : s.heap.IsTuple a (intItems xs) := by rw [← e]; exact hl
  refine PySem.W.ktm_sumG (I.ok.hd hc) hl2 fun h' tk t' hk => ?_
  rw [preSum_eq, List.take_of_length_le (by simp), hn]
  exact ⟨.int _, H, I.kept hk, ⟨_, rfl⟩, q⟩
def rdSumA : List PyData → (PyData → Prop) → Prop := fun ds P => match ds with
  | [.list xs] => ∃ ns, intsOf xs = some ns ∧ P (.int ns.sum)
  | [.tuple xs] => ∃ ns, intsOf xs = some ns ∧ P (.int ns.sum)
  | _ => False
theorem cd_sumA {K : PySem.W.Frag} : CallD K (fun xs H Q => rSum K xs H Q ∨ rSumT K xs H Q) rdSumA := by
  intro E g env c σ H xs ds P Q r h q k
  unfold rdSumA at q
  split at q
  · cases h with
    | cons h1 t =>
      cases t
      cases h1 with
      | lst hs ha =>
        obtain ⟨ns, e, q⟩ := q
        have ex := intsOf_dp e ha
        subst ex
        exact .inl ⟨_, ns, rfl, r.ex.seq hs, k _ g H _ q (Mv.refl g H) r (.int _)⟩
  · cases h with
    | cons h1 t =>
      cases t
      cases h1 with
      | tup hs ha =>
        obtain ⟨ns, e, q⟩ := q
        have ex := intsOf_dp e ha
        subst ex
        exact .inr ⟨_, ns, rfl, seqT r.ex (.inl (.inl hs)), k _ g H _ q (Mv.refl g H) r (.int _)⟩
  · exact q.elim
/-- max and min of two numbers, or of a list -/
def rdMaxA : List PyData → (PyData → Prop) → Prop := fun ds P => match ds with
  | [.int i, .int j] => P (.int (max i j))
  | [.list xs] => ∃ ns, intsOf xs = some ns ∧ 0 < ns.length ∧ ∀ m, m ∈ ns → (∀ y, y ∈ ns → y ≤ m) → P (.int m)
  | _ => False
def rdMinA : List PyData → (PyData → Prop) → Prop := fun ds P => match ds with
  | [.int i, .int j] => P (.int (min i j))
  | [.list xs] => ∃ ns, intsOf xs = some ns ∧ 0 < ns.length ∧ ∀ m, m ∈ ns → (∀ y, y ∈ ns → m ≤ y) → P (.int m)
  | _ => False
theorem cd_maxA {K : PySem.W.Frag} : CallD K (fun xs H Q => (∃ i j, xs = [V.int i, V.int j] ∧ Q (.int (if j > i then j else i)) H) ∨ rMax K xs H Q) rdMaxA := by
  intro E g env c σ H xs ds P Q r h q k
  unfold rdMaxA at q
  split at q
  · exact .inl (cd_max2 E g env c σ H xs _ P Q r h q k)
  · cases h with
    | cons h1 t =>
      cases t
      cases h1 with
      | lst hs ha =>
        obtain ⟨ns, e, hl, q⟩ := q
        have ex := intsOf_dp e ha
        subst ex
        exact .inr ⟨_, ns, rfl, r.ex.seq hs, hl, fun m h1 h2 => k _ g H _ (q m h1 h2) (Mv.refl g H) r (.int _)⟩
  · exact q.elim
theorem cd_minA {K : PySem.W.Frag} : CallD K (fun xs H Q => (∃ i j, xs = [V.int i, V.int j] ∧ Q (.int (if j < i then j else i)) H) ∨ rMin K xs H Q) rdMinA := by
  intro E g env c σ H xs ds P Q r h q k
  unfold rdMinA at q
  split at q
  · exact .inl (cd_min2 E g env c σ H xs _ P Q r h q k)
  · cases h with
    | cons h1 t =>
      cases t
      cases h1 with
      | lst hs ha =>
        obtain ⟨ns, e, hl, q⟩ := q
        have ex := intsOf_dp e ha
        subst ex
        exact .inr ⟨_, ns, rfl, r.ex.seq hs, hl, fun m h1 h2 => k _ g H _ (q m h1 h2) (Mv.refl g H) r (.int _)⟩
  · exact q.elim
def rdAbs : List PyData → (PyData → Prop) → Prop := fun ds P => match ds with
  | [.int i] => P (.int (if i < 0 then -i else i))
  | _ => False
def wZipL (da : DA) : DI := fun env c P => da env c fun xs c1 => datsK xs fun ds => match ds with
  | [.list xs, .list ys] => P ((xs.zip ys).map fun z => .tuple [z.1, z.2]) c1
  | _ => False
section
variable {X : Cx} {E : En} {a b : Expr} {da db : DE} {pos : Pos}
theorem walk_zipL {K : PySem.W.Frag} {a b : Addr} {xs ys : List V} {n : Nat} (hn : n = min xs.length ys.length) : Walk (Itz K a b) n (fun H => SqL K H a xs ∧ SqL K H b ys) (YPair (fun i => xs[i]?) (fun i => ys[i]?)) := by
  refine ⟨fun i H hi h => ⟨xs, ys, xs[i]'(by omega), ys[i]'(by omega), h.1, h.2, List.getElem?_eq_getElem _, List.getElem?_eq_getElem _⟩, fun H h => ⟨xs, ys, h.1, h.2, by omega⟩, fun i H v H' hi h y => ?_⟩
  obtain ⟨T, x, y, e1, e2, e3, f1, f2⟩ := y
  exact ⟨T, x, y, e1, e2, e3, f1 xs h.1, f2 ys h.2⟩
theorem dw_zipL {elts : List Expr} {kk : Nat} {dr : DA} {p tpos : Pos} (ha : DPA X E [a, b] dr) (hm : X.mg "zip" = none) (hg : Gl X "zip" := by rfl) (hs : starEach [a, b] X.env = (false, eval a X.env) :: starEach [b] X.env := by rfl) (hpl : (backTo pos (starEach [b] X.env)).any (·.1) = false := by rfl) :
    DPI X E (.Tuple elts kk tpos) (.Call (.Name "zip" p) [a, b] [] pos) (wZipL dr) := by
  refine pi_imp (RZ.pi_zipA hg hm ha hs hpl) fun σ H R h => ?_
  obtain ⟨g, env, c, P, rel, q, k⟩ := h
  refine ⟨g, env, c, _, rel, q, fun xs c1 g1 H1 vs p1 m1 r1 o1 f1 => ?_⟩
  obtain ⟨ds, h1, h2⟩ := datsK_all o1 p1
  split at h1
  · rename_i us ws
    cases h2 with
    | cons h3 t =>
      cases t with
      | cons h4 t =>
        cases t
        cases h3 with
        | lst s1 a1 =>
          cases h4 with
          | lst s2 a2 =>
            refine ⟨_, _, _, _, rfl, .inl ⟨r1.ex.seq s1, r1.ex.seq s2, k _ c1 g1 H1 _ h1 m1 r1 ⟨_, _, walk_zipL (by rw [List.length_map, List.length_zip, DpAll.len a1, DpAll.len a2]), fun g' H' m e => ⟨e.seq (m.seq s1), e.seq (m.seq s2)⟩, fun i H2 x2 H3 d2 e y => ?_⟩⟩⟩
            obtain ⟨T, x, y, rfl, hT, rfl, hx, hy⟩ := y
            obtain ⟨dx, ex, px⟩ := DpAll.getV a1 hx
            obtain ⟨dy, ey, py⟩ := DpAll.getV a2 hy
            have e2 : d2 = .tuple [dx, dy] := by
              rw [List.getElem?_map, (List.getElem?_zip_eq_some (z := (dx, dy))).mpr ⟨ex, ey⟩] at e
              exact (Option.some.inj e).symm
            subst e2
            refine .inr ⟨T, _, hT, rfl, fun F hF hFT => .tup upd_same ?_⟩
            have sF : Same F (upd F T (.tup [x, y])) := fun b o e => by
              rw [upd_ne (ne_of_none e hFT)]
              exact e
            exact .cons (dp_mono (hF.trans sF) px) (.cons (dp_mono (hF.trans sF) py) .nil)
  · exact h1.elim
theorem de_glob {x : Str} {i : Int} {u : Value} (hm : X.mg x = some u) (hu : RelV (.int i) u) (hg : Gl X x := by rfl) (hd : (x == ("__debug__" : Str)) = false := by decide) : DPE X E (.Name x pos) (dC (.int i)) := de_c (pe_glob hg hm hu hd) fun _ _ => .int i
end
end DL
namespace DL
open PySem PySem.Spec PyProof.Rows L2
section
variable {X : Cx} {E : En} {a b : Expr} {da db : DE} {pos : Pos} {px py pt : Pos} {kt : Nat} {k2 : Nat} {pt2 : Pos} {x y : Str}
end
section
variable {X : Cx} {E : En} {tg a elt : Expr} {pos : Pos}
theorem df_lc {ifs : List Expr} {scope : Scope} (own : List (Str × Nat)) {dw : DI} {ws : List Nat} {dg : DG} {dt : DT} {de : DE} (hN : X.N.Nodup) (hi : DPI X E tg a dw) (ok : BlkOk X.N X.env.scope scope own)
    (hg : ∀ (s : Shared) (H : Hp) (C : Addr) (cl : List (Str × Addr)) (fp : List Addr), DPG (X.blk s H scope (compEnvC scope cl C X.env) fp) E ws tg dg)
    (ht : ∀ (s : Shared) (H : Hp) (C : Addr) (cl : List (Str × Addr)) (fp : List Addr), DPTs (X.blk s H scope (compEnvC scope cl C X.env) fp) E ifs dt)
    (he : ∀ (s : Shared) (H : Hp) (C : Addr) (cl : List (Str × Addr)) (fp : List Addr), DPE (X.blk s H scope (compEnvC scope cl C X.env) fp) E elt de)
    (hws : ∀ i ∈ ws, i ∈ own.map (·.2) := by decide) (hc : X.calm = true := by rfl) (hs : ∀ x, foldedSetIterable a X.env x = pure x := by intro _; rfl) :
    DPF X E (.ListComp elt [⟨tg, a, ifs, 0⟩] scope pos) (fLc dw dg dt de (own.map (·.2))) :=
  pe_imp (pe_lc hc hN hi ok hg ht he hs) fun _ _ _ h => lcF_up hws h
end
end DL
namespace DL
open PySem PySem.Spec PyProof.Rows L2
theorem cut_take (ds : List PyData) (k : Nat) : cutD ds none (some (k : Int)) = ds.take k := by
  unfold cutD
  rw [HT.sIx_none, show HT.sIx ds.length ds.length (some (k : Int)) = min k ds.length from HT.sIx_nat _ _ k, List.drop_zero, Nat.sub_zero]
  by_cases h : k ≤ ds.length
  · rw [Nat.min_eq_left h]
  · rw [Nat.min_eq_right (by omega), List.take_of_length_le (Nat.le_refl _), List.take_of_length_le (by omega)]
theorem cut_drop (ds : List PyData) (k : Nat) : cutD ds (some (k : Int)) none = ds.drop k := by
  unfold cutD
  rw [show HT.sIx ds.length 0 (some (k : Int)) = min k ds.length from HT.sIx_nat _ _ k, HT.sIx_none]
  by_cases h : k ≤ ds.length
  · rw [Nat.min_eq_left h, List.take_of_length_le (by rw [List.length_drop]; exact Nat.le_refl _)]
  · rw [Nat.min_eq_right (by omega), List.drop_eq_nil_of_le (Nat.le_refl _), List.drop_eq_nil_of_le (by omega), List.take_nil]
theorem dInts_take (ns : List Int) (k : Nat) : (dInts ns).take k = dInts (ns.take k) := by simp [dInts, List.map_take]
theorem dInts_drop (ns : List Int) (k : Nat) : (dInts ns).drop k = dInts (ns.drop k) := by simp [dInts, List.map_drop]
theorem dInts_app (ns ms : List Int) : dInts ns ++ dInts ms = dInts (ns ++ ms) := by simp [dInts]
theorem ifT {b : Bool} {A B : Prop} (hb : b = true) (h : A) : if b = true then A else B := by rw [if_pos hb]; exact h
theorem eqv_dInts : ∀ a b : List Int, PyData.eqvAll (dInts a) (dInts b) = decide (a = b)
  | [], [] => rfl
  | [], _ :: _ => rfl
  | _ :: _, [] => rfl
  | x :: a, y :: b => by
    have ih := eqv_dInts a b
    simp only [dInts, List.map_cons, PyData.eqvAll, PyData.eqv]
    rw [show PyData.eqvAll (List.map PyData.int a) (List.map PyData.int b) = decide (a = b) from ih]
    by_cases h1 : x = y
    · by_cases h2 : a = b
      · simp [h1, h2]
      · simp [h1, h2]
    · simp [h1]
theorem eqv_tup (a b : List Int) : PyData.eqv (.tuple (dInts a)) (.tuple (dInts b)) = decide (a = b) := by
  rw [PyData.eqv]
  exact eqv_dInts a b
theorem shaped_tup (ns : List Int) : SeqAt.shaped (.tuple (dInts ns)) = true := by
  unfold SeqAt.shaped
  simp [PyData.canLay0, dInts_lay, PyData.depth, dInts_depth]
def mxL : List Int → Int
  | [] => 0
  | [a] => a
  | a :: b :: l => max a (mxL (b :: l))
def mnL : List Int → Int
  | [] => 0
  | [a] => a
  | a :: b :: l => min a (mnL (b :: l))
theorem mxL_mem : ∀ {l : List Int}, 0 < l.length → mxL l ∈ l
  | [], h => absurd h (by decide)
  | [a], _ => by simp [mxL]
  | a :: b :: l, _ => by
    have ih := mxL_mem (l := b :: l) (by simp)
    show max a (mxL (b :: l)) ∈ a :: b :: l
    rcases Int.le_total a (mxL (b :: l)) with h | h
    · rw [Int.max_eq_right h]
      exact List.mem_cons_of_mem _ ih
    · rw [Int.max_eq_left h]
      exact List.mem_cons_self
theorem mnL_mem : ∀ {l : List Int}, 0 < l.length → mnL l ∈ l
  | [], h => absurd h (by decide)
  | [a], _ => by simp [mnL]
  | a :: b :: l, _ => by
    have ih := mnL_mem (l := b :: l) (by simp)
    show min a (mnL (b :: l)) ∈ a :: b :: l
    rcases Int.le_total a (mnL (b :: l)) with h | h
    · rw [Int.min_eq_left h]
      exact List.mem_cons_self
    · rw [Int.min_eq_right h]
      exact List.mem_cons_of_mem _ ih
theorem mxL_ge : ∀ {l : List Int} {y : Int}, y ∈ l → y ≤ mxL l
  | [a], y, h => by simp at h; simp [mxL, h]
  | a :: b :: l, y, h => by
    show y ≤ max a (mxL (b :: l))
    rcases List.mem_cons.mp h with rfl | h
    · exact Int.le_max_left _ _
    · exact Int.le_trans (mxL_ge h) (Int.le_max_right _ _)
theorem mnL_le : ∀ {l : List Int} {y : Int}, y ∈ l → mnL l ≤ y
  | [a], y, h => by simp at h; simp [mnL, h]
  | a :: b :: l, y, h => by
    show min a (mnL (b :: l)) ≤ y
    rcases List.mem_cons.mp h with rfl | h
    · exact Int.min_le_left _ _
    · exact Int.le_trans (Int.min_le_right _ _) (mnL_le h)
theorem mxL_eq {l : List Int} {m : Int} (h1 : m ∈ l) (h2 : ∀ y ∈ l, y ≤ m) : mxL l = m := by
  have := mxL_ge h1
  have := h2 _ (mxL_mem (List.length_pos_of_mem h1))
  omega
theorem mnL_eq {l : List Int} {m : Int} (h1 : m ∈ l) (h2 : ∀ y ∈ l, m ≤ y) : mnL l = m := by
  have := mnL_le h1
  have := h2 _ (mnL_mem (List.length_pos_of_mem h1))
  omega
theorem sum_okT {l : List Int} {P : PyData → Prop} (h : P (.int l.sum)) : rdSumA [.tuple (dInts l)] P := ⟨l, intsOf_map l, h⟩
end DL
namespace DL
open PySem PySem.Spec PyProof.Rows L2
theorem Sm.sd {k N : Nat} {d : PyData} (h : Sm k N d) : Sd k N d := ⟨h.s, h.k, Nat.le_trans (shown_le d h.s h.h) h.c⟩
theorem Sd.shows {k N : Nat} {d : PyData} (h : Sd k N d) (h1 : k ≤ 60) (h2 : N ≤ 16000000) : DL.shows d := ⟨h.s, Nat.le_trans h.k h1, Nat.le_trans h.c (by rw [sizeLine_eq]; omega)⟩
theorem sd_int {i : Int} (h : i.natAbs < 2 ^ 200) : Sd 0 1921 (.int i) := (sm_int h).sd
end DL
namespace DL
open PySem PySem.Spec PyProof.Rows L2 HT
section
variable {prog : Program} {w : World} {A : Around} {E : Value → Shared → Prop} {s : Shared}
end
section
variable {X : Cx}
end
def rdRevT : PyData → (PyData → Prop) → Prop := fun d P => match d with
  | .tuple ds => P (.tuple ds.reverse)
  | _ => False
section
variable {X : Cx} {E : En} {a b : Expr} {da db : DE} {pos : Pos}
end
def boolsOf : List PyData → Option (List Bool)
  | [] => some []
  | .bool b :: r => (boolsOf r).map (b :: ·)
  | _ :: _ => none
theorem boolsOf_dp {K : PySem.W.Frag} {F : Hp} : ∀ {ds : List PyData} {xs : List V} {bs : List Bool}, boolsOf ds = some bs → DpAll K F xs ds → xs = bs.map V.bl
  | [], _, bs, e, h => by
    cases h
    cases e
    rfl
  | d :: ds, _, bs, e, h => by
    cases h with
    | cons h1 h2 =>
      cases d <;> try (simp [boolsOf] at e; done)
      rename_i b
      simp only [boolsOf, Option.map_eq_some_iff] at e
      obtain ⟨l, e1, rfl⟩ := e
      rw [dp_bl h1, boolsOf_dp e1 h2]
      rfl
theorem boolsOf_map (bs : List Bool) : boolsOf (bs.map PyData.bool) = some bs := by
  induction bs with
  | nil => rfl
  | cons b bs ih => simp [boolsOf, ih]
def rdAll : List PyData → (PyData → Prop) → Prop := fun ds P => match ds with
  | [.list xs] => ∃ bs, boolsOf xs = some bs ∧ P (.bool (bs.all id))
  | _ => False
theorem cd_all {K : PySem.W.Frag} : CallD K (rAll K) rdAll := by
  intro E g env c σ H xs ds P Q r h q k
  unfold rdAll at q
  split at q
  · cases h with
    | cons h1 t =>
      cases t
      cases h1 with
      | lst hs ha =>
        obtain ⟨bs, e, q⟩ := q
        have ex := boolsOf_dp e ha
        subst ex
        exact ⟨_, bs, rfl, r.ex.seq hs, k _ g H _ q (Mv.refl g H) r (.bl _)⟩
  · exact q.elim
def rdIsB : PyData → PyData → (PyData → Prop) → Prop := fun d e P => match d, e with
  | .bool a, .bool b => P (.bool (decide (a = b)))
  | _, _ => False
def rdNotB : PyData → PyData → (PyData → Prop) → Prop := fun d e P => match d, e with
  | .bool a, .bool b => P (.bool (!decide (a = b)))
  | _, _ => False
theorem opd_notB {K : PySem.W.Frag} : OpD K rNotB rdNotB := by
  intro E g env c σ H x y d e P Q r hx hy q k
  unfold rdNotB at q
  split at q
  · exact ⟨_, _, dp_bl hx, dp_bl hy, k _ g H _ q (Mv.refl g H) r (.bl _)⟩
  · exact q.elim
section
variable {X : Cx} {E : En} {a b : Expr} {da db : DE} {pos : Pos}
theorem dt_notB (ha : DPE X E a da) (hb : DPE X E b db) (hm : behindInMarks .IsNot b = false := by first | exact nobehind _ (by decide) (by decide) | rfl) : DPT X E (.Compare a [.IsNot] [b] pos) (tVal (dOp rdNotB da db)) := dt_cmp op_notBl opd_notB ha hb hm
end
end DL
namespace DL
open PySem PySem.Spec PyProof.Rows L2
def rNeLen (K : PySem.W.Frag) : R2 := fun x y H Q => ∃ a b xs ys, x = .ref a ∧ y = .ref b ∧ SqL K H a xs ∧ SqL K H b ys ∧ xs.length ≠ ys.length ∧ Q (.bl true) H
section
variable {X : Cx}
theorem op_neLen (hu : X.A.units < cLine) : OpR X (compareOp .NotEq) (rNeLen X.K) := by
  intro pins s σ H x y v u Q I rx ry h
  obtain ⟨a, b, xs, ys, rfl, rfl, h1, h2, hne, q⟩ := h
  cases rx
  cases ry
  obtain ⟨its, r, hl, _⟩ := I.list h1
  obtain ⟨its2, r2, hl2, _⟩ := I.list h2
  have l1 := r.length
  have l2 := r2.length
  exact SeqAt.RcNeAt.lists_lengths hl.isList hl2.isList (by simp; omega) hu X.prog X.w X.xe _ ⟨.bl true, H, I, rfl, q⟩
end
def rdNeNil : PyData → PyData → (PyData → Prop) → Prop := fun d e P => match d, e with
  | .list xs, .list [] => P (.bool (!xs.isEmpty))
  | _, _ => False
def rdEqNil : PyData → PyData → (PyData → Prop) → Prop := fun d e P => match d, e with
  | .list xs, .list [] => P (.bool xs.isEmpty)
  | _, _ => False
theorem opd_neNil {K : PySem.W.Frag} : OpD K (fun x y H Q => rNeLen K x y H Q ∨ rNeD K x y H Q) rdNeNil := by
  intro E g env c σ H x y d e P Q r hx hy q k
  unfold rdNeNil at q
  split at q
  · rename_i xs
    cases xs with
    | nil => exact .inr ⟨_, _, dp_l2 (dpF r hx) rfl, dp_l2 (dpF r hy) rfl, rfl, rfl, k _ g H _ q (Mv.refl g H) r (.bl _)⟩
    | cons z xs =>
      cases hx with
      | lst s1 a1 =>
        cases hy with
        | lst s2 a2 =>
          cases a2
          refine .inl ⟨_, _, _, _, rfl, rfl, r.ex.seq s1, r.ex.seq s2, ?_, k _ g H _ q (Mv.refl g H) r (.bl _)⟩
          rw [DpAll.len a1]
          simp
  · exact q.elim
section
variable {X : Cx} {E : En} {a b : Expr} {da db : DE} {pos : Pos}
theorem room_line {k : Nat} {A : Around} (hr : Room k A) : A.units < cLine := Nat.lt_of_le_of_lt (Nat.le_add_right _ _) hr.units
theorem dt_neNil {k : Nat} (hr : Room k X.A) (ha : DPE X E a da) (hb : DPE X E b db) : DPT X E (.Compare a [.NotEq] [b] pos) (tVal (dOp rdNeNil da db)) := dt_cmp (op_or (op_neLen (room_line hr)) (op_neD hr.units)) opd_neNil ha hb
end
/-- a boolean comprehension over a tuple -/
theorem bools_map (f : PyData → Bool) (ds : List PyData) : boolsOf (ds.map fun d => .bool (f d)) = some (ds.map f) := by
  rw [show (ds.map fun d => PyData.bool (f d)) = (ds.map f).map PyData.bool by rw [List.map_map]; rfl]
  exact boolsOf_map _
end DL
namespace DL
open PySem PySem.Spec PyProof.Rows L2
def sNo : DS := fun _ _ _ => False
theorem ds_no {X : Cx} {E : En} {st : Stmt} : DPS X E st sNo := ⟨fun pins s σ H D I h => by
  obtain ⟨_, _, _, _, _, q, _⟩ := h
  exact q.elim⟩
end DL
set_option maxHeartbeats 2000000
namespace DL
open PySem PySem.Spec PyProof.Rows L2
section
variable {P : Program} {w : World} {K : PySem.W.Frag} {mg : Str → Option Value} {base : Heap}
end
section
variable {X : Cx} {k : Nat} {f : Addr} {sp : Sp} {x : Str} {p pos : Pos} {e : Expr} {es : List Expr} {t : TA}
end
section
variable {X : Cx} {E : En} {k : Nat} {spec : Spec} {x : Str} {p pos : Pos} {e : Expr} {es : List Expr} {dr : DA}
def dCallV (spec : Spec) (dr : DA) : DE := dCall (fun xs c P => datsK xs fun ds => ds.length ≤ sizeLine ∧ spec [.dat (.tuple ds)] c P) dr
end
section
variable {P : Program} {w : World} {K : PySem.W.Frag} {mg : Str → Option Value} {base : Heap}
end
end DL
set_option maxHeartbeats 2000000
namespace DL
open PySem PySem.Spec PyProof.Rows L2
def flatP : PyData → Bool
  | .none => true
  | .bool _ => true
  | .int _ => true
  | .str _ => true
  | _ => false
def eqP : PyData → PyData → Bool
  | .none, .none => true
  | .bool a, .bool b => a == b
  | .bool a, .int b => (if a then 1 else 0) == b
  | .int a, .bool b => a == (if b then 1 else 0)
  | .int a, .int b => a == b
  | .str a, .str b => a == b
  | _, _ => false
def rdIn (neg : Bool) : PyData → PyData → (PyData → Prop) → Prop := fun d e P => match e with
  | .list es => flatP d = true ∧ es.all flatP = true ∧ P (.bool (if neg then !(es.any fun y => eqP y d) else es.any fun y => eqP y d))
  | .tuple es => flatP d = true ∧ es.all flatP = true ∧ P (.bool (if neg then !(es.any fun y => eqP y d) else es.any fun y => eqP y d))
  | _ => False
section
variable {X : Cx} {E : En} {a b : Expr} {da db : DE} {pos : Pos}
end
section
variable {X : Cx} {E : En} {tg a elt : Expr} {pos : Pos}
end
end DL
set_option maxHeartbeats 2000000
namespace DL
open PySem PySem.Spec PyProof.Rows L2
section
variable {P : Program} {w : World} {K : PySem.W.Frag} {mg : Str → Option Value} {base : Heap}
end
section
variable {X : Cx} {k : Nat} {f : Addr} {fd : FuncData} {ps : List Str} {sp : Sp} {x : Str} {p pos : Pos} {e : Expr} {es : List Expr} {t : TA} {W : WX}
end
structure DefX (P : Program) (w : World) (K : PySem.W.Frag) (mg : Str → Option Value) (base : Heap) (k : Nat) (x : Str) (n : Nat) (spec : SpecX) : Prop where
  ex : ∃ f fd ps, FnX P w K mg base k f fd ps (spDX K mg n spec) ∧ mg x = some (.ref f) ∧ PySem.W.keepIn K (.ref f) = true ∧ Binds K fd ps []
section
variable {X : Cx} {E : En} {k n : Nat} {spec : SpecX} {x : Str} {p pos : Pos} {e : Expr} {es : List Expr} {dr : DA} {W : XW}
def dCallX (n : Nat) (spec : SpecX) (W : XW) (dr : DA) : DE := fun env c P => dr env c fun xs c1 => xs.length = n ∧ spec xs c1 P fun y fs c2 => W y fs env c2
end
def bodySpecX (N : Nat) (dt : Xd → DS) : SpecX := fun args c P Px => dt Px { nx := fun _ c' => P (.dat .none) c', rt := P, bk := fun _ _ => False, ct := fun _ _ => False } (startE N args) c
section
variable {P : Program} {w : World} {K : PySem.W.Frag} {mg : Str → Option Value} {base : Heap}
end
end DL
set_option maxHeartbeats 2000000
namespace DL
open PySem PySem.Spec PyProof.Rows L2
section
variable {P : Program} {w : World} {K : PySem.W.Frag} {mg : Str → Option Value} {base : Heap}
end
def sRaise (x f : Str) (W : XW) (da : DE) : DS := fun _ env c => da env c fun v c1 => datK v fun z => W x [(f, z)] env c1
section
variable {X : Cx} {E : En} {x f : Str} {p pos pos' : Pos} {e : Expr} {da : DE} {W : XW} {k : Nat}
end
def NoOwn (env : Ev) : Prop := ∀ (i : Nat) (l : List PyData), env[i]? ≠ some (some (Vl.own l))
def exEnds (i : Nat) (D : DEnds) : DEnds := { nx := fun env c => D.nx (env.set i none) c, rt := D.rt, bk := fun env c => D.bk (env.set i none) c, ct := fun env c => D.ct (env.set i none) c }
/-- i: the slot of the name; xs: the classes that may come -/
def sTry (i : Nat) (xs : List Str) (tb : XW → DS) (ts : Addr → Str → List (Str × PyData) → DS) : DS := fun D env c =>
  NoOwn env ∧ tb (fun x fs env' c' => x ∈ xs ∧ NoOwn env' ∧ ∀ a, ts a x fs (exEnds i D) (env'.set i (some (.exc a))) c') D env c
section
variable {X : Cx} {E : En} {i : Nat} {xs : List Str} {tb : XW → DS} {ts : Addr → Str → List (Str × PyData) → DS} {bx n : Str} {C0 : Addr} {body suite : List Stmt} {b₀ : Stmt} {np pos pos' : Pos}
end
end DL
set_option maxHeartbeats 2000000
namespace DL
open PySem PySem.Spec PyProof.Rows L2
section
variable {X : Cx} {a C : Addr} {oe : Obj} {d : Option Addr} {pn : List (Addr × Obj)} {cv : Value} {b : Bool}
end
section
variable {X : Cx} {E : En} {a C D : Addr} {oe : Obj} {d : Option Addr} {pn : List (Addr × Obj)} {e : Expr} {de : DE} {x cx n : Str} {fs : List (Str × PyData)} {b : Bool} {p p2 pos tpos : Pos} {kk : Nat}
def dIsX (a : Addr) (b : Bool) (de : DE) : DE := fun env c P => de env c fun x c1 => x = .exc a ∧ P (.dat (.bool b)) c1
def dXf (a : Addr) (n : Str) (fs : List (Str × PyData)) (de : DE) : DE := fun env c P => de env c fun x c1 => x = .exc a ∧ ∃ z, fs.lookup n = some z ∧ P (.dat z) c1
end
section
variable {P : Program} {w : World} {K : PySem.W.Frag} {mg : Str → Option Value} {base : Heap}
end
end DL
set_option maxHeartbeats 2000000
namespace DL
open PySem PySem.Spec PyProof.Rows L2
section
variable {P : Program} {w : World} {K : PySem.W.Frag} {mg : Str → Option Value} {base : Heap}
end
section
variable {X : Cx} {k : Nat} {f : Addr} {sp : Sp} {x : Str} {p pos : Pos} {e : Expr} {es : List Expr} {t : TA} {W : WX}
end
section
variable {X : Cx} {E : En} {k : Nat} {spec : SpecX} {x : Str} {p pos : Pos} {e : Expr} {es : List Expr} {dr : DA} {W : XW}
def dCallVX (spec : SpecX) (W : XW) (dr : DA) : DE := fun env c P => dr env c fun xs c1 => datsK xs fun ds => ds.length ≤ sizeLine ∧ spec [.dat (.tuple ds)] c1 P fun y fs c2 => W y fs env c2
end
section
variable {P : Program} {w : World} {K : PySem.W.Frag} {mg : Str → Option Value} {base : Heap}
end
end DL
set_option maxHeartbeats 2000000
namespace DL
open PySem PySem.Spec PyProof.Rows L2
def sParEF (i j : Nat) (da : DE) (dt : DF) : DS := fun D env c => da env c fun y c1 => dt env c1 fun l c2 => D.nx ((env.set i (some y)).set j (some (.own l))) c2
section
variable {X : Cx} {E : En} {a b : Expr} {da : DE} {pos px py pt : Pos} {kt : Nat} {k2 : Nat} {pt2 : Pos} {x y : Str}
end
def wEnumerateL (da : DA) : DI := fun env c P => da env c fun xs c1 => datsK xs fun ds => match ds with
  | [.list xs] => P (enumD xs) c1
  | _ => False
section
variable {X : Cx} {E : En} {a : Expr} {pos : Pos}
end
end DL
set_option maxHeartbeats 2000000
namespace DL
open PySem PySem.Spec PyProof.Rows L2
section
variable {X : Cx} {E : En} {a C D : Addr} {oe : Obj} {d : Option Addr} {pn : List (Addr × Obj)} {e : Expr} {de : DE} {x cx n : Str} {fs : List (Str × PyData)} {b : Bool} {p p2 pos tpos : Pos} {kk : Nat}
end
def sPar3 (i j l : Nat) (da : DA) : DS := fun D env c => da env c fun xs c1 => match xs with
  | [x, y, z] => D.nx (((env.set i (some x)).set j (some y)).set l (some z)) c1
  | _ => False
end DL
set_option maxHeartbeats 2000000
namespace DL
open PySem PySem.Spec PyProof.Rows L2
def isStr : PyData → Bool
  | .str _ => true
  | _ => false
def rdStr : List PyData → (PyData → Prop) → Prop := fun ds P => match ds with
  | [.int i] => i.natAbs.log2 < 1920 ∧ P (.str (toString i))
  | _ => False
/-- a + b, of texts -/
def rdAddS : PyData → PyData → (PyData → Prop) → Prop := fun d e P => match d, e with
  | .str x, .str y => x.length + y.length ≤ sizeLine ∧ P (.str (x ++ y))
  | _, _ => False
section
variable {X : Cx} {E : En} {a b : Expr} {da db : DE} {pos apos : Pos}
/-- sep.join(xs) -/
def strsOf : List PyData → Option (List Str)
  | [] => some []
  | .str x :: r => (strsOf r).map (x :: ·)
  | _ :: _ => none
def dJoin (da db : DE) : DE := fun env c P => da env c fun x c1 => datK x fun d => match d with
  | .str s => db env c1 fun y c2 => datK y fun e => match e with
    | .list ds => ∃ ys, strsOf ds = some ys ∧ (ys.map (·.length)).sum + ys.length * s.length ≤ 16777216 ∧ P (.dat (.str (Txt.join s ys))) c2
    | _ => False
  | _ => False
end
section
variable {P : Program} {w : World} {K : PySem.W.Frag} {mg : Str → Option Value} {base : Heap}
end
end DL
set_option maxHeartbeats 2000000
namespace DL
open PySem PySem.Spec PyProof.Rows L2
section
variable {X : Cx}
end
def rdEqNilT : PyData → PyData → (PyData → Prop) → Prop := fun d e P => match d, e with
  | .tuple xs, .tuple [] => P (.bool xs.isEmpty)
  | _, _ => False
def rdNeNilT : PyData → PyData → (PyData → Prop) → Prop := fun d e P => match d, e with
  | .tuple xs, .tuple [] => P (.bool (!xs.isEmpty))
  | _, _ => False
section
variable {X : Cx} {E : En} {a b : Expr} {da db : DE} {pos : Pos}
end
end DL
set_option maxHeartbeats 2000000
namespace DL
open PySem PySem.Spec PyProof.Rows L2
section
variable {prog : Program} {w : World} {A : Around} {E : Value → Shared → Prop} {s : Shared}
end
section
variable {X : Cx} {E : En} {a : Expr} {te : TE} {pos p1 p2 p3 : Pos}
def fRep (dt : DF) (db : DE) : DF := fun env c P => dt env c fun l c1 => db env c1 fun y c2 => datK y fun e => intK e fun k => (0 ≤ k ∧ k < 2 ^ 63 ∧ l.length * k.toNat ≤ sizeLine) ∧ P (List.replicate k.toNat l).flatten c2
end
section
variable {X : Cx} {E : En} {a : Expr} {da : DE} {pos : Pos}
end
end DL
set_option maxHeartbeats 2000000
namespace DL
open PySem PySem.Spec PyProof.Rows L2
section
variable {prog : Program} {w : World} {A : Around} {E : Value → Shared → Prop} {s : Shared}
end
end DL
set_option maxHeartbeats 2000000
namespace DL
open PySem PySem.Spec PyProof.Rows L2
def gLi (n : Nat) (u : DGs) : DG := fun x env k => datK x fun d => match d with
  | .list ds => ds.length = n ∧ u ds env k
  | _ => False
section
variable {X : Cx} {E : En} {pos : Pos}
end
def sPar3F (i j l : Nat) (da db : DE) (dt : DF) : DS := fun D env c => da env c fun x c1 => db env c1 fun y c2 => dt env c2 fun m c3 => D.nx (((env.set l (some (.own m))).set i (some x)).set j (some y)) c3
section
variable {X : Cx} {E : En} {a b e : Expr} {da db : DE} {pos px py pz pt : Pos} {kt : Nat} {k2 : Nat} {pt2 : Pos} {x y z : Str}
theorem ds_par3F (i j l : Nat) {dt : DF} (hN : X.N.Nodup) (ha : DPE X E a da) (hb : DPE X E b db) (hf : DPF X E e dt) (hij : i ≠ j := by decide) (hil : i ≠ l := by decide) (hjl : j ≠ l := by decide) (hi : X.N[i]? = some x := by rfl) (hj : X.N[j]? = some y := by rfl) (hl : X.N[l]? = some z := by rfl)
    (hx : X.env.scope.names.lookup x = some .local := by rfl) (hy : X.env.scope.names.lookup y = some .local := by rfl) (hz : X.env.scope.names.lookup z = some .local := by rfl) (hc : X.calm = true := by rfl)
    (hw : swappedStores [.Tuple [.Name x px, .Name y py, .Name z pz] kt pt] (.Tuple [a, b, e] k2 pt2) X.env = pure (some [x, y, z]) := by rfl)
    (hs : swapsWithSole [.Tuple [.Name x px, .Name y py, .Name z pz] kt pt] (.Tuple [a, b, e] k2 pt2) pos.line X.env = pure false := by rfl)
    (he : starEach [a, b, e] X.env = (false, eval a X.env) :: starEach [b, e] X.env := by rfl) (he2 : starEach [b, e] X.env = (false, eval b X.env) :: starEach [e] X.env := by rfl) (he3 : starEach [e] X.env = (false, eval e X.env) :: starEach [] X.env := by rfl) :
    DPS X E (.Assign [.Tuple [.Name x px, .Name y py, .Name z pz] kt pt] (.Tuple [a, b, e] k2 pt2) pos) (sPar3F i j l da db dt) := by
  refine ps_imp (ps_par3 hc hN hi hj hl hij hil hjl hx hy hz (pa_cons ha (pa_cons hb (pa_cons hf pa_nil he3) he2) he) hw hs) fun D σ H h => ?_
  obtain ⟨g, env, c, P, rel, q, k, _⟩ := h
  refine ⟨g, env, c, _, rel, q, fun u c1 g1 H1 v p1 m1 r1 o1 f1 => ⟨g1, env, c1, _, r1, p1, fun u2 c2 g2 H2 v2 p2 m2 r2 o2 f2 => ⟨g2, env, c2, _, r2, p2, fun m c3 g3 H3 p xs hm m3 r3 hp hp' hF hnd hal => ⟨v, v2, .ref p, rfl, ?_⟩⟩⟩⟩
  refine k _ c3 g3 _ H3 hm (m1.f.trans (m2.f.trans m3.f)) ?_
  rw [List.set_comm (l := σ.set i (some v)) _ _ hjl, List.set_comm (l := σ) _ _ hil]
  exact ((r3.takeOwn l (Frs.of r2 m3 r3 hp hp' hF hnd hal)).set i (VOk.mono (m2.trans m3).toMo f1 o1) f1).set j (VOk.mono m3.toMo f2 o2) f2
end
end DL
set_option maxHeartbeats 2000000
namespace DL
open PySem PySem.Spec PyProof.Rows L2
def rdTupRg : PyData → (PyData → Prop) → Prop := fun d P => match d with
  | .int n => 0 ≤ n ∧ n ≤ 16777216 ∧ P (.tuple (rangeD 0 n.toNat))
  | _ => False
def rdLstRg : PyData → (PyData → Prop) → Prop := fun d P => match d with
  | .int n => 0 ≤ n ∧ n ≤ 16777216 ∧ P (.list (rangeD 0 n.toNat))
  | _ => False
section
variable {X : Cx} {E : En} {a : Expr} {p1 p2 pos pos2 : Pos}
end
section
variable {X : Cx}
end
def rdRepL : PyData → PyData → (PyData → Prop) → Prop := fun d e P => match d, e with
  | .list xs, .int k => (0 ≤ k ∧ k < 2 ^ 63 ∧ xs.length * k.toNat ≤ sizeLine) ∧ P (.list (List.replicate k.toNat xs).flatten)
  | _, _ => False
section
variable {X : Cx} {E : En} {a b : Expr} {da db : DE} {pos : Pos}
end
end DL
set_option maxHeartbeats 2000000
namespace DL
open PySem PySem.Spec PyProof.Rows L2
def rdInD : PyData → PyData → (PyData → Prop) → Prop := fun d e P => match e with
  | .list es => SeqAt.shaped d = true ∧ SeqAt.shaped (.list es) = true ∧ P (.bool (es.any fun z => PyData.eqv z d))
  | _ => False
theorem opd_inD {K : PySem.W.Frag} : OpD K (rInD K) rdInD := by
  intro E g env c σ H x y d e P Q r hx hy q k
  unfold rdInD at q
  split at q
  · rename_i es
    exact ⟨_, es, dp_l2 (dpF r hx) (PyData.hasDict_of_canLay _ (SeqAt.canLay_of_shaped q.1)), dp_l2 (dpF r hy) (PyData.hasDict_of_canLay _ (SeqAt.canLay_of_shaped q.2.1)), q.1, q.2.1, k _ g H _ q.2.2 (Mv.refl g H) r (.bl _)⟩
  · exact q.elim
section
variable {X : Cx} {E : En} {a b : Expr} {da db : DE} {pos : Pos}
theorem dt_inD {k : Nat} (hr : Room k X.A) (ha : DPE X E a da) (hb : DPE X E b db) (hm : behindInMarks .In b = false := by rfl) : DPT X E (.Compare a [.In] [b] pos) (tVal (dOp rdInD da db)) := dt_cmp (op_inD (by have := hr.un; omega)) opd_inD ha hb hm
end
end DL
namespace DL
open PySem PySem.Spec PyProof.Rows L2
structure Tg {α : Type} (a : α) : Type
/-- a call, its wish put away -/
def Cl (sp : Spec) (xs : List Vl) (c : Ct) (P : Vl → Ct → Prop) (_ : Tg P) : Prop := sp xs c P
def ClX (sp : SpecX) (xs : List Vl) (c : Ct) (P : Vl → Ct → Prop) (Px : Xd) (_ : Tg P) (_ : Tg Px) : Prop := sp xs c P Px
def Sq (C A : Prop) (_ : Tg A) : Prop := C ∧ A
def Br (b : Bool) (A B : Prop) (_ : Tg A) (_ : Tg B) : Prop := if b = true then A else B
def FL (dg : DG) (db : DS) (D : DEnds) (ds : List PyData) (env : Ev) (c : Ct) (_ : Tg D) : Prop := forL dg db D ds env c
def LL (dg : DG) (dt : DT) (de : DE) (env : Ev) (ds acc : List PyData) (c : Ct) (k : List PyData → Ct → Prop) (_ : Tg k) : Prop := lcL dg dt de env ds acc c k
def IxN (n : Nat) (j : Int) (f : Nat → Prop) (_ : Tg f) : Prop := ∃ k, ixN n j = some k ∧ f k
def IxK (ds : List PyData) (i : Int) (P : PyData → Prop) (_ : Tg P) : Prop := ixK ds (.int i) P
/-- a slot set, a slot read, the slots of an entry: one after the other -/
def SetK (env : Ev) (i : Nat) (x : Option Vl) (f : Ev → Prop) : Prop := f (env.set i x)
def OwnK (env : Ev) (i : Nat) (f : List PyData → Prop) : Prop := match env[i]? with
  | some (some (.own l)) => f l
  | _ => False
def StK (N : Nat) (args : List Vl) (f : Ev → Prop) : Prop := f (startE N args)
theorem startE_cons (n : Nat) (a : Vl) (r : List Vl) : startE (n + 1) (a :: r) = some a :: startE n r := by simp [startE]
theorem startE_none (n : Nat) : startE (n + 1) [] = none :: startE n [] := by simp [startE, List.replicate_succ]
theorem x_set0 {x y : Option Vl} {env : Ev} {f : Ev → Prop} : SetK (x :: env) 0 y f = f (y :: env) := rfl
theorem x_setS {x y : Option Vl} {env : Ev} {i : Nat} {f : Ev → Prop} : SetK (x :: env) (i + 1) y f = SetK env i y fun env' => f (x :: env') := rfl
theorem x_own0 {l : List PyData} {env : Ev} {f : List PyData → Prop} : OwnK (some (.own l) :: env) 0 f = f l := rfl
theorem x_ownS {x : Option Vl} {env : Ev} {i : Nat} {f : List PyData → Prop} : OwnK (x :: env) (i + 1) f = OwnK env i f := rfl
theorem x_st0 {f : Ev → Prop} : StK 0 [] f = f [] := rfl
theorem x_stS {n : Nat} {a : Vl} {r : List Vl} {f : Ev → Prop} : StK (n + 1) (a :: r) f = StK n r fun env => f (some a :: env) := by
  unfold StK
  rw [startE_cons]
theorem x_stN {n : Nat} {f : Ev → Prop} : StK (n + 1) [] f = StK n [] fun env => f (none :: env) := by
  unfold StK
  rw [startE_none]
def WipeM (env : Ev) (o : List (Str × Nat)) (f : Ev → Prop) : Prop := f (wipeE env (List.map (·.2) o))
theorem x_wm0 {env : Ev} {f : Ev → Prop} : WipeM env [] f = f env := rfl
theorem x_wmS {env : Ev} {a : Str} {i : Nat} {o : List (Str × Nat)} {f : Ev → Prop} : WipeM env ((a, i) :: o) f = WipeM env o fun env' => SetK env' i none f := rfl
section
variable {D : DEnds} {env : Ev} {c : Ct} {P : Vl → Ct → Prop} {PT : Bool → Ct → Prop} {PA : List Vl → Ct → Prop} {PF : List PyData → Ct → Prop} {PD : PyData → Prop}
variable {s t u : DS} {da db dc : DE} {dr : DA} {ta tb : DT} {dg : DG} {dgs : DGs} {dw : DI} {df dh : DF} {d e : PyData} {i j k : Nat}
theorem x_seq {a : Ev → Ct → Prop} {b : Vl → Ct → Prop} {e f : Ev → Ct → Prop} : sSeq s t (no_index (DEnds.mk a b e f)) env c = s (DEnds.mk (t (DEnds.mk a b e f)) b e f) env c := rfl
theorem x_nx : sNx D env c = D.nx env c := rfl
theorem x_ret : sRet da D env c = da env c D.rt := rfl
theorem x_retN : sRetN D env c = D.rt (.dat .none) c := rfl
theorem x_asg : sAsg da dg D env c = da env c fun x c1 => dg x env fun env' => D.nx env' c1 := rfl
theorem x_if : sIf ta s u D env c = ta env c fun b c1 => Br b (s D env c1) (u D env c1) {} {} := rfl
theorem x_drop : sDrop da D env c = da env c fun _ c1 => D.nx env c1 := rfl
theorem x_brk : sBrk D env c = D.bk env c := rfl
theorem x_cnt : sCnt D env c = D.ct env c := rfl
theorem x_par : sPar i j dr D env c = dr env c fun xs c1 => match xs with
  | [x, y] => SetK env i (some x) fun env' => SetK env' j (some y) fun env' => D.nx env' c1
  | _ => False := rfl
theorem x_par3 : sPar3 i j k dr D env c = dr env c fun xs c1 => match xs with
  | [x, y, z] => SetK env i (some x) fun env' => SetK env' j (some y) fun env' => SetK env' k (some z) fun env' => D.nx env' c1
  | _ => False := rfl
theorem x_for : sFor dw dg s D env c = dw env c fun items c1 => FL dg s D items env c1 {} := rfl
theorem x_new : sNew i D env c = SetK env i (some (.own [])) fun env' => D.nx env' c := rfl
theorem x_app : sApp i da D env c = OwnK env i fun l => da env c fun x c1 => datK x fun d => Sq (l.length < sizeLine) (SetK env i (some (.own (l ++ [d]))) fun env' => D.nx env' c1) {} := rfl
theorem x_frz : sFrz i s D env c = OwnK env i fun l => SetK env i (some (.dat (.list l))) fun env' => s D env' c := rfl
theorem x_ownSet : sOwnSet i da db D env c = da env c fun x c1 => datK x fun d => OwnK env i fun l => db env c1 fun y c2 => datK y fun e => intK e fun j => IxN l.length j (fun k => SetK env i (some (.own (l.set k d))) fun env' => D.nx env' c2) {} := rfl
theorem x_own : sOwn i df D env c = df env c fun l c1 => SetK env i (some (.own l)) fun env' => D.nx env' c1 := rfl
theorem x_parF : sParF i j df db D env c = df env c fun l c1 => db env c1 fun y c2 => SetK env i (some (.own l)) fun env' => SetK env' j (some y) fun env' => D.nx env' c2 := rfl
theorem x_parFF : sParFF i j df dh D env c = df env c fun l c1 => dh env c1 fun m c2 => SetK env i (some (.own l)) fun env' => SetK env' j (some (.own m)) fun env' => D.nx env' c2 := rfl
theorem x_parEF : sParEF i j da df D env c = da env c fun y c1 => df env c1 fun l c2 => SetK env i (some y) fun env' => SetK env' j (some (.own l)) fun env' => D.nx env' c2 := rfl
theorem x_par3F : sPar3F i j k da db df D env c = da env c fun x c1 => db env c1 fun y c2 => df env c2 fun m c3 => SetK env k (some (.own m)) fun env' => SetK env' i (some x) fun env' => SetK env' j (some y) fun env' => D.nx env' c3 := rfl
theorem x_newLst : sNewLst i da D env c = da env c fun x c1 => datK x fun d => match d with
  | .list xs => SetK env i (some (.own xs)) fun env' => D.nx env' c1
  | .tuple xs => SetK env i (some (.own xs)) fun env' => D.nx env' c1
  | _ => False := rfl
theorem x_dat {f : PyData → Prop} : datK (.dat d) f = f d := rfl
theorem x_int {f : Int → Prop} {i : Int} : intK (.int i) f = f i := rfl
theorem x_bool {f : Bool → Prop} {b : Bool} : boolK (.bool b) f = f b := rfl
theorem x_tru0 {f : Bool → Prop} : truK .none f = f false := rfl
theorem x_truB {f : Bool → Prop} {b : Bool} : truK (.bool b) f = f b := rfl
theorem x_truI {f : Bool → Prop} {i : Int} : truK (.int i) f = f (i != 0) := rfl
theorem x_truL {f : Bool → Prop} {l : List PyData} : truK (.list l) f = f (!l.isEmpty) := rfl
theorem x_truT {f : Bool → Prop} {l : List PyData} : truK (.tuple l) f = f (!l.isEmpty) := rfl
theorem x_v0 {env : Ev} : dVar 0 (some (.dat d) :: env) c P = P (.dat d) c := rfl
theorem x_v0k {env : Ev} : dVar 0 (some .deck :: env) c P = P .deck c := rfl
theorem x_v0e {env : Ev} {a : Addr} : dVar 0 (some (.exc a) :: env) c P = P (.exc a) c := rfl
theorem x_vS {env : Ev} {x : Option Vl} : dVar (i + 1) (x :: env) c P = dVar i env c P := rfl
theorem x_c : dC d env c P = P (.dat d) c := rfl
theorem x_op {rd} : dOp rd da db env c P = da env c fun x c1 => datK x fun d => db env c1 fun y c2 => datK y fun e => rd d e fun z => P (.dat z) c2 := rfl
theorem x_un {rd} : dUn rd da env c P = da env c fun x c1 => datK x fun d => rd d fun z => P (.dat z) c1 := rfl
theorem x_anil : aNil env c PA = PA [] c := rfl
theorem x_acons : aCons da dr env c PA = da env c fun x c1 => dr env c1 fun xs c2 => PA (x :: xs) c2 := rfl
theorem x_call {sp : Spec} : dCall sp dr env c P = dr env c fun xs c1 => Cl sp xs c1 P {} := rfl
theorem x_callX {sp : SpecX} {W : XW} : dCallX i sp W dr env c P = dr env c fun xs c1 => Sq (xs.length = i) (ClX sp xs c1 P (fun y fs c2 => W y fs env c2) {} {}) {} := rfl
theorem x_callV {sp : Spec} : dCallV sp dr env c P = dr env c fun xs c1 => datsK xs fun ds => Sq (ds.length ≤ sizeLine) (Cl sp [.dat (.tuple ds)] c1 P {}) {} := rfl
theorem x_callVX {sp : SpecX} {W : XW} : dCallVX sp W dr env c P = dr env c fun xs c1 => datsK xs fun ds => Sq (ds.length ≤ sizeLine) (ClX sp [.dat (.tuple ds)] c1 P (fun y fs c2 => W y fs env c2) {} {}) {} := rfl
theorem x_dats0 {f : List PyData → Prop} : datsK [] f = f [] := rfl
theorem x_datsS {f : List PyData → Prop} {r : List Vl} : datsK (.dat d :: r) f = datsK r fun ds => f (d :: ds) := rfl
theorem x_cb {rd} : dCB rd dr env c P = dr env c fun xs c1 => datsK xs fun ds => rd ds fun z => P (.dat z) c1 := rfl
theorem x_rdI {f : Int → Int → PyData} : rdI f d e PD = intK d fun i => intK e fun j => PD (f i j) := rfl
theorem x_rdIc {C : Int → Int → Prop} {f : Int → Int → PyData} : rdIc C f d e PD = intK d fun i => intK e fun j => Sq (C i j) (PD (f i j)) {} := rfl
theorem x_neg : rdNeg d PD = intK d fun i => PD (.int (-i)) := rfl
theorem x_eqS {x y : Str} : rdEq (.str x) (.str y) PD = PD (.bool (decide (x = y))) := rfl
theorem x_eqI {x y : Int} : rdEq (.int x) (.int y) PD = PD (.bool (decide (x = y))) := rfl
theorem x_eqB {x y : Bool} : rdEq (.bool x) (.bool y) PD = PD (.bool (decide (x = y))) := by
  show (_ ∧ _ ∧ _) = _
  have : PyData.eqv (.bool x) (.bool y) = decide (x = y) := by cases x <;> cases y <;> rfl
  rw [this]
  cases x <;> cases y <;> simp [SeqAt.shaped, PyData.canLay0, PyData.depth]
theorem x_eqL {x y : List PyData} : rdEq (.list x) (.list y) PD = Sq (SeqAt.shaped (.list x) = true) (Sq (SeqAt.shaped (.list y) = true) (PD (.bool (PyData.eqv (.list x) (.list y)))) {}) {} := rfl
theorem x_eqT {x y : List PyData} : rdEq (.tuple x) (.tuple y) PD = Sq (SeqAt.shaped (.tuple x) = true) (Sq (SeqAt.shaped (.tuple y) = true) (PD (.bool (PyData.eqv (.tuple x) (.tuple y)))) {}) {} := rfl
theorem x_eqNT {y : List PyData} : rdEq .none (.tuple y) PD = Sq (SeqAt.shaped (.tuple y) = true) (PD (.bool false)) {} := by
  show (_ ∧ _ ∧ _) = (_ ∧ _)
  simp [SeqAt.shaped, PyData.canLay0, PyData.depth, PyData.eqv]
theorem x_eqTN {y : List PyData} : rdEq (.tuple y) .none PD = Sq (SeqAt.shaped (.tuple y) = true) (PD (.bool false)) {} := by
  show (_ ∧ _ ∧ _) = (_ ∧ _)
  simp [SeqAt.shaped, PyData.canLay0, PyData.depth, PyData.eqv]
theorem x_eqNN : rdEq .none .none PD = PD (.bool true) := by
  show (_ ∧ _ ∧ _) = _
  simp [SeqAt.shaped, PyData.canLay0, PyData.depth, PyData.eqv]
theorem x_ne : rdNe d e PD = rdEq d e fun z => boolK z fun b => PD (.bool (!b)) := rfl
theorem x_isN0 : rdIsN .none PD = PD (.bool true) := rfl
theorem x_isNI {i : Int} : rdIsN (.int i) PD = PD (.bool false) := rfl
theorem x_isNB {i : Bool} : rdIsN (.bool i) PD = PD (.bool false) := rfl
theorem x_isNS {i : Str} : rdIsN (.str i) PD = PD (.bool false) := rfl
theorem x_isNT {l : List PyData} : rdIsN (.tuple l) PD = PD (.bool false) := rfl
theorem x_isNL {l : List PyData} : rdIsN (.list l) PD = PD (.bool false) := rfl
theorem x_ntN0 : rdNotN .none PD = PD (.bool false) := rfl
theorem x_ntNI {i : Int} : rdNotN (.int i) PD = PD (.bool true) := rfl
theorem x_ntNB {i : Bool} : rdNotN (.bool i) PD = PD (.bool true) := rfl
theorem x_ntNS {i : Str} : rdNotN (.str i) PD = PD (.bool true) := rfl
theorem x_ntNT {l : List PyData} : rdNotN (.tuple l) PD = PD (.bool true) := rfl
theorem x_ntNL {l : List PyData} : rdNotN (.list l) PD = PD (.bool true) := rfl
theorem x_ixL {ds : List PyData} {i : Int} : rdIx (.list ds) (.int i) PD = IxK ds i PD {} := rfl
theorem x_ixT {ds : List PyData} {i : Int} : rdIx (.tuple ds) (.int i) PD = IxK ds i PD {} := rfl
theorem x_ixO {ds : List PyData} {i : Int} : ixK ds (.int i) PD = IxK ds i PD {} := rfl
theorem x_ixAt {ds : List PyData} {j : Nat} {z : PyData} {tg : Tg PD} (h : ds[j]? = some z) : IxK ds (j : Int) PD tg = PD z := by
  show (match atI ds (j : Int) with | some z => PD z | none => False) = _
  rw [atI_nat h]
theorem x_ix0 {x0 : PyData} {ds : List PyData} {tg : Tg PD} : IxK (x0 :: ds) 0 PD tg = PD x0 := x_ixAt (j := 0) rfl
theorem x_ix1 {x0 x1 : PyData} {ds : List PyData} {tg : Tg PD} : IxK (x0 :: x1 :: ds) 1 PD tg = PD x1 := x_ixAt (j := 1) rfl
theorem x_ix2 {x0 x1 x2 : PyData} {ds : List PyData} {tg : Tg PD} : IxK (x0 :: x1 :: x2 :: ds) 2 PD tg = PD x2 := x_ixAt (j := 2) rfl
theorem x_ix3 {x0 x1 x2 x3 : PyData} {ds : List PyData} {tg : Tg PD} : IxK (x0 :: x1 :: x2 :: x3 :: ds) 3 PD tg = PD x3 := x_ixAt (j := 3) rfl
theorem x_inTt {es : List PyData} : rdIn true d (.tuple es) PD = Sq (flatP d = true) (Sq (es.all flatP = true) (PD (.bool (!(es.any fun y => eqP y d)))) {}) {} := rfl
theorem x_inTf {es : List PyData} : rdIn false d (.tuple es) PD = Sq (flatP d = true) (Sq (es.all flatP = true) (PD (.bool (es.any fun y => eqP y d))) {}) {} := rfl
theorem x_inLt {es : List PyData} : rdIn true d (.list es) PD = Sq (flatP d = true) (Sq (es.all flatP = true) (PD (.bool (!(es.any fun y => eqP y d)))) {}) {} := rfl
theorem x_inLf {es : List PyData} : rdIn false d (.list es) PD = Sq (flatP d = true) (Sq (es.all flatP = true) (PD (.bool (es.any fun y => eqP y d))) {}) {} := rfl
theorem x_tup : dTup dr env c P = dr env c fun xs c1 => datsK xs fun ds => Sq (ds.length ≤ sizeLine) (P (.dat (.tuple ds)) c1) {} := rfl
theorem x_lst : dLst dr env c P = dr env c fun xs c1 => datsK xs fun ds => Sq (ds.length ≤ sizeLine) (P (.dat (.list ds)) c1) {} := rfl
theorem x_lenL {l : List PyData} : rdLen [.list l] PD = PD (.int l.length) := rfl
theorem x_lenT {l : List PyData} : rdLen [.tuple l] PD = PD (.int l.length) := rfl
theorem x_tupL {l : List PyData} : rdTuple [.list l] PD = PD (.tuple l) := rfl
theorem x_tupT {l : List PyData} : rdTuple [.tuple l] PD = PD (.tuple l) := rfl
theorem x_lstL {l : List PyData} : rdList [.list l] PD = PD (.list l) := rfl
theorem x_lstT {l : List PyData} : rdList [.tuple l] PD = PD (.list l) := rfl
theorem x_sumL {ns : List Int} : rdSumA [.list (dInts ns)] PD = PD (.int ns.sum) := by
  show (∃ ms, intsOf (dInts ns) = some ms ∧ _) = _
  rw [show intsOf (dInts ns) = some ns from intsOf_map ns]
  simp
theorem x_sumT {ns : List Int} : rdSumA [.tuple (dInts ns)] PD = PD (.int ns.sum) := by
  show (∃ ms, intsOf (dInts ns) = some ms ∧ _) = _
  rw [show intsOf (dInts ns) = some ns from intsOf_map ns]
  simp
theorem x_max {i j : Int} : rdMaxA [.int i, .int j] PD = PD (.int (max i j)) := rfl
theorem x_min {i j : Int} : rdMinA [.int i, .int j] PD = PD (.int (min i j)) := rfl
theorem x_abs {i : Int} : rdAbs [.int i] PD = PD (.int (if i < 0 then -i else i)) := rfl
theorem x_intI {i : Int} : rdInt1 [.int i] PD = PD (.int i) := rfl
theorem x_intB {b : Bool} : rdInt1 [.bool b] PD = PD (.int (if b then 1 else 0)) := rfl
theorem x_if1 : (if (true = true) then (1 : Int) else 0) = 1 := by simp
theorem x_if0 : (if (false = true) then (1 : Int) else 0) = 0 := by simp
theorem x_repr : rdRepr [d] PD = Sq (shows d) (PD (.str d.shown)) {} := rfl
theorem x_ty {f : PyData → Bool} : rdTy f d PD = PD (.bool (f d)) := rfl
theorem x_addUI {i j : Int} : rdAddU (.int i) (.int j) PD = PD (.int (i + j)) := rfl
theorem x_addUT {x y : List PyData} : rdAddU (.tuple x) (.tuple y) PD = Sq (x.length + y.length ≤ sizeLine) (PD (.tuple (x ++ y))) {} := rfl
theorem x_addRT {a : List R4} {y : List PyData} : rdAddU (rDs a) (.tuple y) PD = Sq (a.length + y.length ≤ sizeLine) (PD (.tuple (a.map rD ++ y))) {} := by
  show ((a.map rD).length + y.length ≤ sizeLine ∧ _) = (_ ∧ _)
  rw [List.length_map]
theorem x_addRR {a b : List R4} : rdAddU (rDs a) (rDs b) PD = Sq (a.length + b.length ≤ sizeLine) (PD (rDs (a ++ b))) {} := by
  show ((a.map rD).length + (b.map rD).length ≤ sizeLine ∧ PD (.tuple (a.map rD ++ b.map rD))) = (_ ∧ PD (.tuple ((a ++ b).map rD)))
  rw [List.length_map, List.length_map, List.map_append]
theorem x_lenR {a : List R4} : rdLen [rDs a] PD = PD (.int a.length) := by
  show PD (.int (a.map rD).length) = _
  rw [List.length_map]
theorem x_revR {a : List R4} : rdRevT (rDs a) PD = PD (rDs a.reverse) := by
  show PD (.tuple (a.map rD).reverse) = PD (.tuple (a.reverse.map rD))
  rw [List.map_reverse]
theorem x_isNR {a : List R4} : rdIsN (rDs a) PD = PD (.bool false) := rfl
theorem x_addXL {x y : List PyData} : rdAddX (.list x) (.list y) PD = Sq (x.length + y.length ≤ sizeLine) (PD (.list (x ++ y))) {} := rfl
theorem x_addXT {x y : List PyData} : rdAddX (.tuple x) (.tuple y) PD = rdAddU (.tuple x) (.tuple y) PD := rfl
theorem x_addXI {i j : Int} : rdAddX (.int i) (.int j) PD = rdAddU (.int i) (.int j) PD := rfl
theorem x_revT {x : List PyData} : rdRevT (.tuple x) PD = PD (.tuple x.reverse) := rfl
theorem x_isB {x y : Bool} : rdIsB (.bool x) (.bool y) PD = PD (.bool (decide (x = y))) := rfl
theorem x_ntB {x y : Bool} : rdNotB (.bool x) (.bool y) PD = PD (.bool (!decide (x = y))) := rfl
theorem x_neNil {x : List PyData} : rdNeNil (.list x) (.list []) PD = PD (.bool (!x.isEmpty)) := rfl
theorem x_eqNil {x : List PyData} : rdEqNil (.list x) (.list []) PD = PD (.bool x.isEmpty) := rfl
theorem x_neNilT {x : List PyData} : rdNeNilT (.tuple x) (.tuple []) PD = PD (.bool (!x.isEmpty)) := rfl
theorem x_eqNilT {x : List PyData} : rdEqNilT (.tuple x) (.tuple []) PD = PD (.bool x.isEmpty) := rfl
theorem x_mulUI {i j : Int} : rdMulU (.int i) (.int j) PD = Sq (CMul i j) (PD (.int (i * j))) {} := rfl
theorem x_tupRg {i : Int} : rdTupRg (.int i) PD = Sq (0 ≤ i) (Sq (i ≤ 16777216) (PD (.tuple (rangeD 0 i.toNat))) {}) {} := rfl
theorem x_lstRg {i : Int} : rdLstRg (.int i) PD = Sq (0 ≤ i) (Sq (i ≤ 16777216) (PD (.list (rangeD 0 i.toNat))) {}) {} := rfl
theorem x_slT {lo hi : DO} : dSlT da lo hi env c P = da env c fun x c1 => datK x fun d => lo env c1 fun l c2 => hi env c2 fun u c3 => match d with
  | .tuple ds => P (.dat (.tuple (cutD ds l u))) c3
  | _ => False := rfl
theorem x_cut1 {a : PyData} {l : List PyData} : cutD (a :: l) (some 1) none = l := by
  unfold cutD
  rw [show HT.sIx (a :: l).length 0 (some (1 : Int)) = min 1 (a :: l).length from HT.sIx_nat _ _ 1, show HT.sIx (a :: l).length (a :: l).length none = (a :: l).length from rfl]
  have e : min 1 (a :: l).length = 1 := by simp
  rw [e]
  simp
theorem x_evTC {x y : PyData} {l m : List PyData} : PyData.eqv (.tuple (x :: l)) (.tuple (y :: m)) = (PyData.eqv x y && PyData.eqv (.tuple l) (.tuple m)) := by simp [PyData.eqv, PyData.eqvAll]
theorem x_evTN : PyData.eqv (.tuple []) (.tuple []) = true := by simp [PyData.eqv, PyData.eqvAll]
theorem x_evLC {x y : PyData} {l m : List PyData} : PyData.eqv (.list (x :: l)) (.list (y :: m)) = (PyData.eqv x y && PyData.eqv (.list l) (.list m)) := by simp [PyData.eqv, PyData.eqvAll]
theorem x_evLN : PyData.eqv (.list []) (.list []) = true := by simp [PyData.eqv, PyData.eqvAll]
theorem x_evI {i j : Int} : PyData.eqv (.int i) (.int j) = decide (i = j) := by
  by_cases h : i = j <;> simp [PyData.eqv, h]
theorem x_evS {i j : Str} : PyData.eqv (.str i) (.str j) = decide (i = j) := by
  by_cases h : i = j <;> simp [PyData.eqv, h]
theorem x_evB {i j : Bool} : PyData.eqv (.bool i) (.bool j) = decide (i = j) := by
  cases i <;> cases j <;> rfl
theorem x_evNN : PyData.eqv .none .none = true := by simp [PyData.eqv]
theorem x_evNI {i : Int} : PyData.eqv .none (.int i) = false := by simp [PyData.eqv]
theorem x_evIN {i : Int} : PyData.eqv (.int i) .none = false := by simp [PyData.eqv]
theorem x_evNT {l : List PyData} : PyData.eqv .none (.tuple l) = false := by simp [PyData.eqv]
theorem x_evTNo {l : List PyData} : PyData.eqv (.tuple l) .none = false := by simp [PyData.eqv]
theorem x_oNo {Po : Option Int → Ct → Prop} : oNo env c Po = Po none c := rfl
theorem x_oSome {Po : Option Int → Ct → Prop} : oSome da env c Po = da env c fun x c1 => datK x fun d => intK d fun i => Po (some i) c1 := rfl
theorem x_chain {r r'} : dChain r r' da db dc env c P = da env c fun x c1 => datK x fun d => db env c1 fun y c2 => datK y fun e => r d e fun z => boolK z fun k => Br k (dc env c2 fun w c3 => datK w fun u => r' e u fun z => P (.dat z) c3) (P (.dat (.bool false)) c2) {} {} := rfl
theorem x_val : tVal da env c PT = da env c fun x c1 => datK x fun d => boolK d fun b => PT b c1 := rfl
theorem x_tnt : tNt ta env c PT = ta env c fun b c1 => PT (!b) c1 := rfl
theorem x_tan : tAn ta tb env c PT = ta env c fun b c1 => Br b (tb env c1 PT) (PT false c1) {} {} := rfl
theorem x_too : tOo ta tb env c PT = ta env c fun b c1 => Br b (PT true c1) (tb env c1 PT) {} {} := rfl
theorem x_dnt : dNt da env c P = da env c fun x c1 => datK x fun d => boolK d fun b => P (.dat (.bool (!b))) c1 := rfl
theorem x_dan : dAn da db env c P = da env c fun x c1 => datK x fun d => boolK d fun b => Br b (db env c1 P) (P (.dat (.bool false)) c1) {} {} := rfl
theorem x_doo : dOo da db env c P = da env c fun x c1 => datK x fun d => boolK d fun b => Br b (P (.dat (.bool true)) c1) (db env c1 P) {} {} := rfl
theorem x_dorT : dOrT da db env c P = da env c fun x c1 => datK x fun d => truK d fun b => Br b (P (.dat d) c1) (db env c1 P) {} {} := rfl
theorem x_ife : dIfE ta da db env c P = ta env c fun b c1 => Br b (da env c1 P) (db env c1 P) {} {} := rfl
theorem x_lc {o : List (Str × Nat)} : dLc dw dg ta da (List.map (·.2) o) env c P = dw env c fun items c1 => WipeM env o fun env' => Sq (items.length < sizeLine) (LL dg ta da env' items [] c1 (fun out c2 => P (.dat (.list out)) c2) {}) {} := rfl
theorem x_flc {o : List (Str × Nat)} : fLc dw dg ta da (List.map (·.2) o) env c PF = dw env c fun items c1 => WipeM env o fun env' => Sq (items.length < sizeLine) (LL dg ta da env' items [] c1 PF {}) {} := rfl
theorem x_ton : tOn env c PT = PT true c := rfl
theorem x_flst : fLst dr env c PF = dr env c fun xs c1 => datsK xs fun ds => Sq (ds.length ≤ sizeLine) (PF ds c1) {} := rfl
theorem x_flist : fList da env c PF = da env c fun x c1 => datK x fun d => match d with
  | .list xs => PF xs c1
  | .tuple xs => PF xs c1
  | _ => False := rfl
theorem x_fcat : fCat da db env c PF = da env c fun x c1 => datK x fun d => db env c1 fun y c2 => datK y fun e => match d, e with
  | .list xs, .list ys => Sq (xs.length + ys.length ≤ sizeLine) (PF (xs ++ ys) c2) {}
  | _, _ => False := rfl
theorem x_fsl {lo hi : DO} : fSl da lo hi env c PF = da env c fun x c1 => datK x fun d => lo env c1 fun l c2 => hi env c2 fun u c3 => match d with
  | .list ds => PF (cutD ds l u) c3
  | _ => False := rfl
theorem x_frev : fRev da env c PF = da env c fun x c1 => datK x fun d => match d with
  | .list ds => PF ds.reverse c1
  | _ => False := rfl
theorem x_frep : fRep df db env c PF = df env c fun l c1 => db env c1 fun y c2 => datK y fun e => intK e fun k => Sq (0 ≤ k ∧ k < 2 ^ 63 ∧ l.length * k.toNat ≤ sizeLine) (PF (List.replicate k.toNat l).flatten c2) {} := rfl
theorem x_df : dF df env c P = df env c fun l c' => P (.dat (.list l)) c' := rfl
theorem x_ownIx : dOwnIx i db env c P = OwnK env i fun l => db env c fun y c1 => datK y fun e => ixK l e fun z => P (.dat z) c1 := rfl
theorem x_ownLen : dOwnLen i env c P = OwnK env i fun l => P (.dat (.int l.length)) c := rfl
theorem x_repL {xs : List PyData} {k : Int} : rdRepL (.list xs) (.int k) PD = Sq (0 ≤ k ∧ k < 2 ^ 63 ∧ xs.length * k.toNat ≤ sizeLine) (PD (.list (List.replicate k.toNat xs).flatten)) {} := rfl
theorem x_wl : wL da env c PF = da env c fun x c1 => datK x fun d => match d with
  | .list ds => PF ds c1
  | _ => False := rfl
theorem x_wt : wT da env c PF = da env c fun x c1 => datK x fun d => match d with
  | .tuple ds => PF ds c1
  | _ => False := rfl
theorem x_wr1 : wR1 dr env c PF = dr env c fun xs c1 => datsK xs fun ds => match ds with
  | [.int n] => Sq (-(2 ^ 62) ≤ n) (Sq (n < 2 ^ 62) (PF (rangeD 0 n.toNat) c1) {}) {}
  | _ => False := rfl
theorem x_wr2 : wR2 dr env c PF = dr env c fun xs c1 => datsK xs fun ds => match ds with
  | [.int i, .int j] => Sq (-(2 ^ 62) ≤ i ∧ i < 2 ^ 62 ∧ -(2 ^ 62) ≤ j ∧ j < 2 ^ 62) (PF (rangeD i (j - i).toNat) c1) {}
  | _ => False := rfl
theorem x_wzT : wZipT dr env c PF = dr env c fun xs c1 => datsK xs fun ds => match ds with
  | [.tuple xs, .tuple ys] => PF ((xs.zip ys).map fun z => .tuple [z.1, z.2]) c1
  | _ => False := rfl
theorem x_wzL : wZipL dr env c PF = dr env c fun xs c1 => datsK xs fun ds => match ds with
  | [.list xs, .list ys] => PF ((xs.zip ys).map fun z => .tuple [z.1, z.2]) c1
  | _ => False := rfl
theorem x_weT : wEnumerateT dr env c PF = dr env c fun xs c1 => datsK xs fun ds => match ds with
  | [.tuple xs] => PF (enumD xs) c1
  | _ => False := rfl
theorem x_weL : wEnumerateL dr env c PF = dr env c fun xs c1 => datsK xs fun ds => match ds with
  | [.list xs] => PF (enumD xs) c1
  | _ => False := rfl
theorem x_gnm {x : Vl} {f : Ev → Prop} : gNm i x env f = SetK env i (some x) f := rfl
theorem x_gs0 {f : Ev → Prop} : gsNil [] env f = f env := rfl
theorem x_gsS {f : Ev → Prop} {r : List PyData} : gsCons dg dgs (d :: r) env f = dg (.dat d) env fun env' => dgs r env' f := rfl
theorem x_gtu {f : Ev → Prop} {ds : List PyData} : gTu i dgs (.dat (.tuple ds)) env f = Sq (ds.length = i) (dgs ds env f) {} := rfl
theorem x_gli {f : Ev → Prop} {ds : List PyData} : gLi i dgs (.dat (.list ds)) env f = Sq (ds.length = i) (dgs ds env f) {} := rfl
theorem x_wipe0 {env : Ev} : wipeE env [] = env := rfl
theorem x_wipeS {env : Ev} {l : List Nat} : wipeE env (i :: l) = (wipeE env l).set i none := rfl
theorem x_sd {C A : Prop} {tg : Tg A} (h : C) : Sq C A tg = A := by
  show (C ∧ A) = A
  simp [h]
theorem x_sdY {A : Prop} {tg : Tg A} : Sq True A tg = A := by
  show (True ∧ A) = A
  simp
theorem x_flI {i : Int} : (flatP (.int i) = true) = True := by simp [flatP]
theorem x_flS' {x : Str} : (flatP (.str x) = true) = True := by simp [flatP]
theorem x_flN : (flatP .none = true) = True := by simp [flatP]
theorem x_flB {b : Bool} : (flatP (.bool b) = true) = True := by simp [flatP]
theorem x_all0 : (([] : List PyData).all flatP = true) = True := by simp
theorem x_allS {a : PyData} {l : List PyData} : ((a :: l).all flatP = true) = (flatP a = true ∧ l.all flatP = true) := by simp
theorem x_andT {p : Prop} : (True ∧ p) = p := by simp
theorem x_brT {A B : Prop} {t1 : Tg A} {t2 : Tg B} : Br true A B t1 t2 = A := by
  show (if true = true then A else B) = A
  simp
theorem x_brF {A B : Prop} {t1 : Tg A} {t2 : Tg B} : Br false A B t1 t2 = B := by
  show (if false = true then A else B) = B
  simp
theorem x_brN {b : Bool} {A B : Prop} {t1 : Tg A} {t2 : Tg B} : Br (!b) A B t1 t2 = Br b B A t2 t1 := by
  cases b <;> simp [Br]
theorem x_brO {a b : Bool} {A B : Prop} {t1 : Tg A} {t2 : Tg B} : Br (a || b) A B t1 t2 = Br a A (Br b A B t1 t2) t1 {} := by
  cases a <;> cases b <;> simp [Br]
theorem x_brA {a b : Bool} {A B : Prop} {t1 : Tg A} {t2 : Tg B} : Br (a && b) A B t1 t2 = Br a (Br b A B t1 t2) B {} t2 := by
  cases a <;> cases b <;> simp [Br]
theorem x_eqPI {a b : Int} : eqP (.int a) (.int b) = decide (a = b) := rfl
theorem x_any0 {p : PyData → Bool} : [].any p = false := rfl
theorem x_anyS {p : PyData → Bool} {a : PyData} {l : List PyData} : (a :: l).any p = (p a || l.any p) := rfl
theorem x_brP {q A B : Prop} [Decidable q] {t1 : Tg A} {t2 : Tg B} (h : q) : Br (decide q) A B t1 t2 = A := by
  simp [Br, h]
theorem x_brQ {q A B : Prop} [Decidable q] {t1 : Tg A} {t2 : Tg B} (h : ¬ q) : Br (decide q) A B t1 t2 = B := by
  simp [Br, h]
theorem x_brB {b : Bool} {A B : Prop} {t1 : Tg A} {t2 : Tg B} (h : b = true) : Br b A B t1 t2 = A := by
  simp [Br, h]
theorem x_brC {b : Bool} {A B : Prop} {t1 : Tg A} {t2 : Tg B} (h : b = false) : Br b A B t1 t2 = B := by
  simp [Br, h]
theorem x_fl0 {tg : Tg D} : FL dg s D [] env c tg = D.nx env c := rfl
theorem x_flS {a : Ev → Ct → Prop} {b : Vl → Ct → Prop} {e f : Ev → Ct → Prop} {tg : Tg (DEnds.mk a b e f)} {ds : List PyData} : FL dg s (no_index (DEnds.mk a b e f)) (d :: ds) env c tg = dg (.dat d) env fun env' => s (DEnds.mk (forL dg s (DEnds.mk a b e f) ds) b a (forL dg s (DEnds.mk a b e f) ds)) env' c := rfl
theorem x_fl {ds : List PyData} : forL dg s D ds env c = FL dg s D ds env c {} := rfl
theorem x_ll0 {acc : List PyData} {tg : Tg PF} : LL dg ta da env [] acc c PF tg = PF acc c := rfl
theorem x_llS {acc ds : List PyData} {tg : Tg PF} : LL dg ta da env (d :: ds) acc c PF tg = dg (.dat d) env fun env' => ta env' c fun b c1 => Br b (da env' c1 fun x c2 => datK x fun z => LL dg ta da env ds (acc ++ [z]) c2 PF {}) (LL dg ta da env ds acc c1 PF {}) {} {} := rfl
theorem x_s0 {x : Option Vl} {y : Option Vl} {env : Ev} : (x :: env).set 0 y = y :: env := rfl
theorem x_sS {x : Option Vl} {y : Option Vl} {env : Ev} : (x :: env).set (i + 1) y = x :: env.set i y := rfl
theorem x_g0 {x : Option Vl} {env : Ev} : (x :: env)[0]? = some x := rfl
theorem x_gS {x : Option Vl} {env : Ev} : (x :: env)[i + 1]? = env[i]? := rfl
theorem x_body {N : Nat} {args : List Vl} : bodySpec N s args c P = StK N args fun env => s { nx := fun _ c' => P (.dat .none) c', rt := P, bk := fun _ _ => False, ct := fun _ _ => False } env c := rfl
theorem x_bodyX {N : Nat} {dt : Xd → DS} {args : List Vl} {Px : Xd} : bodySpecX N dt args c P Px = StK N args fun env => dt Px { nx := fun _ c' => P (.dat .none) c', rt := P, bk := fun _ _ => False, ct := fun _ _ => False } env c := rfl
end
theorem cmul_l {i j : Int} (h1 : -(2 ^ 64) < i) (h2 : i < 2 ^ 64) : CMul i j := .inl ⟨h1, h2⟩
theorem cmul_r {i j : Int} (h1 : -(2 ^ 64) < j) (h2 : j < 2 ^ 64) : CMul i j := .inr ⟨h1, h2⟩
theorem cdiv_ok {i j : Int} (h1 : 0 < j) (h2 : j < 1073741824) : CDiv i j := ⟨h1, h2⟩
theorem cpow_ok {i j : Int} (h1 : 0 ≤ j) (h2 : j ≤ 1000000) (h3 : i.natAbs < 2 ^ 64) : CPow i j := ⟨h1, h2, h3⟩
theorem cl_ok {sp : Spec} {n : Nat} {xs : List Vl} {c : Ct} {P : Vl → Ct → Prop} {t : Tg P} (h : sp xs c P) (hl : xs.length = n := by rfl) : Cl (fun xs c P => xs.length = n ∧ sp xs c P) xs c P t := ⟨hl, h⟩
theorem br_both {b : Bool} {A B : Prop} {t1 : Tg A} {t2 : Tg B} (h1 : b = true → A) (h2 : b = false → B) : Br b A B t1 t2 := by
  cases b
  · exact x_brF.symm ▸ h2 rfl
  · exact x_brT.symm ▸ h1 rfl
theorem br_dec {q A B : Prop} [Decidable q] {t1 : Tg A} {t2 : Tg B} (h1 : q → A) (h2 : ¬ q → B) : Br (decide q) A B t1 t2 := br_both (fun h => h1 (of_decide_eq_true h)) (fun h => h2 (of_decide_eq_false h))
theorem ixk_ok {ds : List PyData} {i : Int} {z : PyData} {P : PyData → Prop} {t : Tg P} (e : atI ds i = some z) (h : P z) : IxK ds i P t := ix_ok e h
theorem fl_ok {dg : DG} {db : DS} {D : DEnds} {items : List PyData} {env : Ev} {c : Ct} {t : Tg D} (h : forL dg db D items env c) : FL dg db D items env c t := h
end DL
namespace DL
open PySem PySem.Spec PyProof.Rows L2
theorem ll_gen {α : Type} {dg : DG} {dt : DT} {de : DE} {env : Ev} (toD : α → PyData) (p : α → Bool) (f : α → PyData) : ∀ (xs : List α) (acc : List PyData) (c : Ct) (k : List PyData → Ct → Prop) (t : Tg k),
    (∀ x ∈ xs, ∀ (A : PyData → Ct → Prop) (B : Ct → Prop), (p x = true → A (f x) c) → (p x = false → B c) → dg (.dat (toD x)) env fun env' => dt env' c fun b c1 => Br b (de env' c1 fun y c2 => datK y fun z => A z c2) (B c1) {} {}) →
    k (acc ++ (xs.filter p).map f) c → LL dg dt de env (xs.map toD) acc c k t
  | [], acc, c, k, t, _, h => by
    have h : k (acc ++ []) c := h
    rw [List.append_nil] at h
    exact h
  | x :: xs, acc, c, k, t, hx, h => by
    refine hx x List.mem_cons_self (fun z c2 => LL dg dt de env (xs.map toD) (acc ++ [z]) c2 k {}) (fun c1 => LL dg dt de env (xs.map toD) acc c1 k {}) (fun hp => ?_) (fun hp => ?_)
    · refine ll_gen toD p f xs (acc ++ [f x]) c k {} (fun y hy => hx y (List.mem_cons_of_mem _ hy)) ?_
      rw [List.filter_cons_of_pos hp] at h
      simpa using h
    · refine ll_gen toD p f xs acc c k {} (fun y hy => hx y (List.mem_cons_of_mem _ hy)) ?_
      rw [List.filter_cons_of_neg (by simp [hp])] at h
      exact h
/-- each item gives one -/
theorem ll_map {α : Type} {dg : DG} {de : DE} {env : Ev} {xs : List α} {c : Ct} {k : List PyData → Ct → Prop} {t : Tg k} (toD : α → PyData) (f : α → PyData)
    (hx : ∀ x ∈ xs, ∀ (A : PyData → Ct → Prop), A (f x) c → dg (.dat (toD x)) env fun env' => de env' c fun y c2 => datK y fun z => A z c2) (h : k (xs.map f) c) : LL dg tOn de env (xs.map toD) [] c k t := by
  refine ll_gen toD (fun _ => true) f xs [] c k t (fun x hm A B ha _ => ?_) ?_
  · have q := hx x hm A (ha rfl)
    have e : (fun env' => tOn env' c fun b c1 => Br b (de env' c1 fun y c2 => datK y fun z => A z c2) (B c1) {} {}) = fun env' => de env' c fun y c2 => datK y fun z => A z c2 := by
      funext env'
      exact x_brT (t1 := {}) (t2 := {})
    rw [e]
    exact q
  · rw [List.filter_eq_self.mpr (fun _ _ => rfl), List.nil_append]
    exact h
/-- nothing comes of it -/
theorem ll_none {dg : DG} {dt : DT} {de : DE} {env : Ev} {items : List PyData} {c : Ct} {k : List PyData → Ct → Prop} {t : Tg k} (Q : PyData → Prop) (hQ : ∀ d ∈ items, Q d)
    (hx : ∀ d, Q d → ∀ (A : PyData → Ct → Prop) (B : Ct → Prop), B c → dg (.dat d) env fun env' => dt env' c fun b c1 => Br b (de env' c1 fun y c2 => datK y fun z => A z c2) (B c1) {} {}) (h : k [] c) : LL dg dt de env items [] c k t := by
  have e : items.map id = items := by simp
  rw [← e]
  refine ll_gen id (fun _ => false) id items [] c k t (fun d hd A B _ hB => hx d (hQ d hd) A B (hB rfl)) ?_
  have e2 : items.filter (fun _ => false) = [] := List.filter_eq_nil_iff.mpr (by simp)
  rw [e2]
  exact h
theorem rep_len {α : Type} (k : Nat) (l : List α) : ((List.replicate k l).flatten).length = k * l.length := by simp
/-- over a range -/
theorem ll_range {dg : DG} {de : DE} {env : Ev} {lo : Int} {n : Nat} {c : Ct} {k : List PyData → Ct → Prop} {t : Tg k} (f : Nat → PyData)
    (hx : ∀ j, j < n → ∀ (A : PyData → Ct → Prop), A (f j) c → dg (.dat (.int (lo + (j : Int)))) env fun env' => de env' c fun y c2 => datK y fun z => A z c2) (h : k ((List.range n).map f) c) : LL dg tOn de env (rangeD lo n) [] c k t :=
  ll_map (fun j : Nat => PyData.int (lo + (j : Int))) f (fun j hj => hx j (List.mem_range.mp hj)) h
theorem ll_rangeF {dg : DG} {dt : DT} {de : DE} {env : Ev} {lo : Int} {n : Nat} {c : Ct} {k : List PyData → Ct → Prop} {t : Tg k} (p : Nat → Bool) (f : Nat → PyData)
    (hx : ∀ j, j < n → ∀ (A : PyData → Ct → Prop) (B : Ct → Prop), (p j = true → A (f j) c) → (p j = false → B c) → dg (.dat (.int (lo + (j : Int)))) env fun env' => dt env' c fun b c1 => Br b (de env' c1 fun y c2 => datK y fun z => A z c2) (B c1) {} {})
    (h : k (((List.range n).filter p).map f) c) : LL dg dt de env (rangeD lo n) [] c k t :=
  ll_gen (fun j : Nat => PyData.int (lo + (j : Int))) p f (List.range n) [] c k t (fun j hj => hx j (List.mem_range.mp hj)) (by rw [List.nil_append]; exact h)
theorem fl_inv {dg : DG} {db : DS} {a : Ev → Ct → Prop} {b : Vl → Ct → Prop} {e f : Ev → Ct → Prop} {items : List PyData} {env : Ev} {c : Ct} {t : Tg (DEnds.mk a b e f)} (I : Nat → Ev → Ct → Prop)
    (step : ∀ (j : Nat) (d : PyData) (env : Ev) (c : Ct) (k : Ev → Ct → Prop), items[j]? = some d → I j env c → (∀ env' c', I (j + 1) env' c' → k env' c') → dg (.dat d) env fun env' => db (DEnds.mk k b a k) env' c)
    (h0 : I 0 env c) (hk : ∀ env c, I items.length env c → a env c) : FL dg db (DEnds.mk a b e f) items env c t := fl_ok (forL_inv I step h0 hk)
/-- a draw -/
theorem draw_ok {m : Int} {c : Ct} {P : Vl → Ct → Prop} {t : Tg P} (h0 : 0 < m) (h1 : m < 2 ^ 200) (hc : c.n < 10000000) (h : ∀ r : Int, 0 ≤ r → r < m → P (.dat (.int r)) c.tick) : Cl (fun xs c P => xs.length = 2 ∧ drawSpec xs c P) [.deck, .dat (.int m)] c P t := ⟨rfl, h0, h1, by omega, h⟩
theorem plain_start (N : Nat) (d : PyData) : ∀ x ∈ startE N [.dat d], plain x := fun x hx => by
  simp only [startE, List.map_cons, List.map_nil, List.mem_append, List.mem_singleton, List.mem_replicate] at hx
  rcases hx with rfl | ⟨_, rfl⟩ <;> trivial
/-- the law's first row: the deck -/
theorem law_start {T : List (Addr × Str)} {N i : Nat} {t : DS} {ns : List Int} {P : Vl → Ct → Prop} (h63 : ns.length ≤ 63)
    (h : StK N [.dat (.list (ns.map PyData.int))] fun env => SetK env i (some .deck) fun env' => t { nx := fun _ c' => P (.dat .none) c', rt := P, bk := fun _ _ => False, ct := fun _ _ => False } env' (CtT T)) :
    bodySpec N (sSeq (sDeck i 0) t) [.dat (.list (ns.map PyData.int))] (CtT T) P := ⟨⟨T, rfl⟩, ⟨ns, h63, rfl⟩, plain_start N _, h⟩
end DL
set_option maxHeartbeats 2000000
namespace DL
open PySem PySem.Spec PyProof.Rows L2
def fRg (da : DE) : DF := fun env c P => da env c fun x c1 => datK x fun d => match d with
  | .int n => 0 ≤ n ∧ n ≤ 16777216 ∧ P (rangeD 0 n.toNat) c1
  | _ => False
def dOwnLst (i : Nat) : DE := fun env c P => match env[i]? with
  | some (some (.own l)) => P (.dat (.list l)) c
  | _ => False
def dOwnNe (i : Nat) (db : DE) : DE := fun env c P => match env[i]? with
  | some (some (.own l)) => db env c fun y c1 => datK y fun e => rdNe (.list l) e fun z => P (.dat z) c1
  | _ => False
section
variable {X : Cx} {E : En} {a b : Expr} {da db : DE} {p1 p2 pos pos2 : Pos}
end
section
variable {env : Ev} {c : Ct} {P : Vl → Ct → Prop} {PF : List PyData → Ct → Prop} {da db : DE} {i : Nat}
theorem x_frg : fRg da env c PF = da env c fun x c1 => datK x fun d => match d with
  | .int n => Sq (0 ≤ n) (Sq (n ≤ 16777216) (PF (rangeD 0 n.toNat) c1) {}) {}
  | _ => False := rfl
theorem x_ownLst : dOwnLst i env c P = OwnK env i fun l => P (.dat (.list l)) c := rfl
theorem x_ownNe : dOwnNe i db env c P = OwnK env i fun l => db env c fun y c1 => datK y fun e => rdNe (.list l) e fun z => P (.dat z) c1 := rfl
end
end DL
set_option maxHeartbeats 2000000
namespace DL
open PySem PySem.Spec PyProof.Rows L2
def sExt (i : Nat) (dt : DF) : DS := fun D env c => match env[i]? with
  | some (some (.own l)) => dt env c fun m c1 => l.length + m.length ≤ sizeLine ∧ D.nx (env.set i (some (.own (l ++ m)))) c1
  | _ => False
def downD (hi : Int) (n : Nat) : List PyData := (List.range n).map fun (k : Nat) => PyData.int (hi - k)
def wR3 (da : DA) : DI := fun env c P => da env c fun xs c1 => datsK xs fun ds => match ds with
  | [.int i, .int j, .int k] => (k = -1 ∧ -(2 ^ 62) ≤ i ∧ i < 2 ^ 62 ∧ -(2 ^ 62) ≤ j ∧ j < 2 ^ 62) ∧ P (downD i (i - j).toNat) c1
  | _ => False
def dOwnEq (i : Nat) (db : DE) : DE := fun env c P => match env[i]? with
  | some (some (.own l)) => db env c fun y c1 => datK y fun e => rdEq (.list l) e fun z => P (.dat z) c1
  | _ => False
section
variable {X : Cx} {E : En} {tg a b d : Expr} {da db : DE} {dr : DA} {dt : DF} {pos p : Pos}
/-- x.extend([..]) -/
theorem ds_ext (i : Nat) {x : Str} {p1 p2 p3 : Pos} (h : DPF X E a dt) (hN : X.N[i]? = some x := by rfl) (hv : Vis X.env.scope x := by first | exact Or.inl rfl | exact Or.inr (Or.inl rfl) | exact Or.inr (Or.inr rfl)) (h1 : (x == ("__debug__" : Str)) = false := by decide)
    (h2 : (x == ("__classdict__" : Str)) = false := by decide) (hb : attributeBase (.Name x p1) "extend" X.env (eval (.Name x p1) X.env) = eval (.Name x p1) X.env := by rfl)
    (hfew : ((backTo p3 (starEach [a] X.env)).all (fun x => !x.1) && (backToKw p3 (keywordEach [] X.env)).all (fun x => x.1.isSome) && decide ([a].length + ([] : List Keyword).length + (if ([] : List Keyword).isEmpty then 0 else 1) < 30)) = true := by rfl)
    (hline : (p2.endLine == p3.line) = true := by rfl) (he : starEach [a] X.env = (false, eval a X.env) :: starEach [] X.env := by rfl) (hpl : (backTo p3 (starEach [] X.env)).any (·.1) = false := by rfl)
    (hs : swapsWith (.Call (.Attribute (.Name x p1) "extend" p2) [a] [] p3) none pos.line X.env = pure false := by rfl) :
    DPS X E (.Expr (.Call (.Attribute (.Name x p1) "extend" p2) [a] [] p3) pos) (sExt i dt) := by
  refine ps_imp (ps_expr (pe_bm PySem.F.plainAttrs_list PySem.F.slot_list_extend PySem.F.type_list_extend mt_extend (pe_var hN hv h1 h2) (pa_cons h pa_nil he) hb hfew hline he hpl) hs) fun D σ H h => ?_
  obtain ⟨g, env, c, P, rel, q, k, _⟩ := h
  unfold sExt at q
  split at q
  · rename_i l e
    obtain ⟨v, e1, p, xs, rfl, h3, h4, h5, h6⟩ := rel.sl i _ e
    refine ⟨_, e1, .inl ⟨rfl, _, .of h5⟩, g, env, c, _, rel, q, fun m c1 g1 H1 p' zs p1 m1 r1 hp hp' hF hnd ha => ?_⟩
    have h5' := m1.fr.k p _ h5 (ntL h4)
    exact ⟨p, p', xs, zs, rfl, rfl, h5', hp', by rw [DpAll.len h6, DpAll.len ha]; exact p1.1, k _ c1 g1 _ _ p1.2 m1.f (r1.writeOwn i e e1 (DpAll.app (dpAll_mono m1.f h6) ha))⟩
  · exact q.elim
end
theorem x_ownEq {db : DE} {env : Ev} {c : Ct} {P : Vl → Ct → Prop} {i : Nat} : dOwnEq i db env c P = OwnK env i fun l => db env c fun y c1 => datK y fun e => rdEq (.list l) e fun z => P (.dat z) c1 := rfl
section
variable {env : Ev} {c : Ct} {PF : List PyData → Ct → Prop} {da : DA} {dt : DF} {i : Nat} {D : DEnds}
theorem x_ext : sExt i dt D env c = OwnK env i fun l => dt env c fun m c1 => Sq (l.length + m.length ≤ sizeLine) (SetK env i (some (.own (l ++ m))) fun env' => D.nx env' c1) {} := rfl
theorem x_wr3 : wR3 da env c PF = da env c fun xs c1 => datsK xs fun ds => match ds with
  | [.int i, .int j, .int k] => Sq (k = -1 ∧ -(2 ^ 62) ≤ i ∧ i < 2 ^ 62 ∧ -(2 ^ 62) ≤ j ∧ j < 2 ^ 62) (PF (downD i (i - j).toNat) c1) {}
  | _ => False := rfl
end
end DL
set_option maxHeartbeats 3200000
namespace DL
open PySem PySem.Spec PyProof.Rows L2
section
variable {P : Program} {w : World} {A : Around} {E : Value → Shared → Prop} {s : Shared}
end
section
variable {X : Cx} {E : En} {a : Expr} {p1 p2 pos pos2 : Pos} {da : DE}
end
end DL
set_option maxHeartbeats 2000000
namespace DL
open PySem PySem.Spec PyProof.Rows L2
def lexB (ns ms : List Int) : Bool := Ob.lexAt (fun j => decide (ns.getD j 0 = ms.getD j 0)) (fun j => decide (ns.getD j 0 ≤ ms.getD j 0)) (decide (ns.length ≤ ms.length)) 0 (min ns.length ms.length)
def rdLeT : PyData → PyData → (PyData → Prop) → Prop := fun d e P => match d, e with
  | .tuple xs, .tuple ys => ∃ ns ms, intsOf xs = some ns ∧ intsOf ys = some ms ∧ P (.bool (lexB ns ms))
  | _, _ => False
section
variable {X : Cx} {k : Nat}
end
end DL
set_option maxHeartbeats 2000000
namespace DL
open PySem PySem.Spec PyProof.Rows L2
theorem x_leT {ns ms : List Int} {PD : PyData → Prop} : rdLeT (.tuple (dInts ns)) (.tuple (dInts ms)) PD = PD (.bool (lexB ns ms)) := propext ⟨fun h => by
  obtain ⟨a, b, e1, e2, h⟩ := h
  rw [show intsOf (dInts ns) = some ns from intsOf_map ns] at e1
  rw [show intsOf (dInts ms) = some ms from intsOf_map ms] at e2
  cases e1
  cases e2
  exact h, fun h => ⟨ns, ms, intsOf_map ns, intsOf_map ms, h⟩⟩
end DL
set_option maxHeartbeats 2000000
namespace DL
open PySem PySem.Spec PyProof.Rows L2
section
variable {K : PySem.W.Frag} {E : En}
/-- a field of an f-string -/
def dFmt (d : DE) : DE := fun env c P => d env c fun x c1 => datK x fun z => match z with
  | .str y => y.length ≤ sizeLine ∧ P (.dat (.str y)) c1
  | .int i => i.natAbs.log2 < 1920 ∧ P (.dat (.str (toString i))) c1
  | _ => False
def dFs : List DE → Str → DE
  | [], acc => fun env c P => P (.dat (.str acc)) c
  | d :: ds, acc => fun env c P => d env c fun x c1 => datK x fun z => match z with
    | .str y => (acc ++ y).length ≤ sizeLine ∧ dFs ds (acc ++ y) env c1 P
    | _ => False
end
section
variable {X : Cx} {E : En} {o e v1 v2 : Expr} {rest es : List Expr} {da db d : DE} {ds : List DE} {pos apos : Pos}
end
end DL
set_option maxHeartbeats 2000000
namespace DL
open PySem PySem.Spec PyProof.Rows L2
def strK (d : PyData) (k : Str → Prop) : Prop := match d with
  | .str s => k s
  | _ => False
def lstK (d : PyData) (k : List PyData → Prop) : Prop := match d with
  | .list l => k l
  | _ => False
def fmtK (d : PyData) (k : Str → Prop) : Prop := match d with
  | .str y => y.length ≤ sizeLine ∧ k y
  | .int i => i.natAbs.log2 < 1920 ∧ k (toString i)
  | _ => False
def JoinK (s : Str) (ds : List PyData) (k : Str → Prop) : Prop := ∃ ys, strsOf ds = some ys ∧ (ys.map (·.length)).sum + ys.length * s.length ≤ 16777216 ∧ k (Txt.join s ys)
section
variable {d : DE} {ds : List DE} {da db : DE} {env : Ev} {c : Ct} {P : Vl → Ct → Prop} {k : Str → Prop} {kl : List PyData → Prop} {PD : PyData → Prop}
theorem x_strK {s : Str} : strK (.str s) k = k s := rfl
theorem x_lstK {l : List PyData} : lstK (.list l) kl = kl l := rfl
theorem x_fmtKS {s : Str} : fmtK (.str s) k = Sq (s.length ≤ sizeLine) (k s) {} := rfl
theorem x_fmtKI {i : Int} : fmtK (.int i) k = Sq (i.natAbs.log2 < 1920) (k (Str.ofString (toString i))) {} := rfl
theorem x_fmt : dFmt d env c P = d env c fun x c1 => datK x fun z => fmtK z fun y => P (.dat (.str y)) c1:= rfl
theorem x_fs0 {acc : Str} : dFs [] acc env c P = P (.dat (.str acc)) c := rfl
theorem x_fsS {acc : Str} : dFs (d :: ds) acc env c P = d env c fun x c1 => datK x fun z => strK z fun y => Sq ((acc ++ y).length ≤ sizeLine) (dFs ds (acc ++ y) env c1 P) {} := rfl
theorem x_join : dJoin da db env c P = da env c fun x c1 => datK x fun z => strK z fun s => db env c1 fun y c2 => datK y fun e => lstK e fun l => JoinK s l fun t => P (.dat (.str t)) c2 := rfl
theorem x_strI {i : Int} : rdStr [.int i] PD = Sq (i.natAbs.log2 < 1920) (PD (.str (Str.ofString (toString i)))) {} := rfl
theorem x_addS {x y : Str} : rdAddS (.str x) (.str y) PD = Sq (x.length + y.length ≤ sizeLine) (PD (.str (x ++ y))) {} := rfl
end
end DL
set_option maxHeartbeats 2000000
namespace DL
open PySem PySem.Spec PyProof.Rows L2
def dM1 (rd : Str → Str → (PyData → Prop) → Prop) (da db : DE) : DE := fun env c P => da env c fun x c1 => datK x fun d => strK d fun a => db env c1 fun y c2 => datK y fun e => strK e fun b => rd a b fun z => P (.dat z) c2
def dM0 (rd : Str → (PyData → Prop) → Prop) (da : DE) : DE := fun env c P => da env c fun x c1 => datK x fun d => strK d fun a => rd a fun z => P (.dat z) c1
section
variable {K : PySem.W.Frag} {E : En}
end
def rdSplit : Str → Str → (PyData → Prop) → Prop := fun a b P => (b.length == 0) = false ∧ a.length + 2 ≤ sizeLine ∧ P (.list ((Txt.split a b).map PyData.str))
def rdPart : Str → Str → (PyData → Prop) → Prop := fun a b P => (b.length == 0) = false ∧ a.length ≤ sizeLine ∧ P (.tuple [.str (Txt.partition a b).1, .str (Txt.partition a b).2.1, .str (Txt.partition a b).2.2])
def rdEnds : Str → Str → (PyData → Prop) → Prop := fun a b P => P (.bool (Txt.endswith a b))
def rdDigit : Str → (PyData → Prop) → Prop := fun a P => P (.bool (Txt.isdigit a))
def rdAscii : Str → (PyData → Prop) → Prop := fun a P => P (.bool (Txt.isascii a))
section
variable {X : Cx} {E : En} {o e : Expr} {da db : DE} {pos apos : Pos}
/-- text in text -/
def rdInS (neg : Bool) : PyData → PyData → (PyData → Prop) → Prop := fun d e P => match d, e with
  | .str i, .str j => P (.bool (if neg then (Builtin.Str.occurrences j i 0 j.length 1).isEmpty else !(Builtin.Str.occurrences j i 0 j.length 1).isEmpty))
  | _, _ => False
/-- len of a text, int of a text -/
def rdLenS : List PyData → (PyData → Prop) → Prop := fun ds P => match ds with
  | [.str z] => z.length ≤ sizeLine ∧ P (.int z.length)
  | _ => False
def rdIntS : List PyData → (PyData → Prop) → Prop := fun ds P => match ds with
  | [.str a] => ∃ n, intText? a = some n ∧ a.length ≤ 640 ∧ P (.int n)
  | _ => False
end
end DL
set_option maxHeartbeats 2000000
namespace DL
open PySem PySem.Spec PyProof.Rows L2
def signsD (z : Str) : List PyData := z.cps.toList.map fun c => .str ⟨#[c]⟩
def wS (da : DE) : DI := fun env c P => da env c fun x c1 => datK x fun d => strK d fun z => P (signsD z) c1
def dSlS (da : DE) (lo hi : DO) : DE := fun env c P => da env c fun x c1 => datK x fun d => lo env c1 fun l c2 => hi env c2 fun u c3 => strK d fun z => z.length ≤ sizeLine ∧ P (.dat (.str (cutS z l u))) c3
section
variable {X : Cx} {E : En} {tg a b : Expr} {da db : DE} {pos : Pos}
end
section
variable {da db : DE} {env : Ev} {c : Ct} {P : Vl → Ct → Prop} {PF : List PyData → Ct → Prop} {PD : PyData → Prop} {rd : Str → Str → (PyData → Prop) → Prop} {rd0 : Str → (PyData → Prop) → Prop} {lo hi : DO} {a b : Str}
theorem x_dM1 : dM1 rd da db env c P = da env c fun x c1 => datK x fun d => strK d fun a => db env c1 fun y c2 => datK y fun e => strK e fun b => rd a b fun z => P (.dat z) c2 := rfl
theorem x_dM0 : dM0 rd0 da env c P = da env c fun x c1 => datK x fun d => strK d fun a => rd0 a fun z => P (.dat z) c1 := rfl
theorem x_split : rdSplit a b PD = Sq ((b.length == 0) = false) (Sq (a.length + 2 ≤ sizeLine) (PD (.list ((Txt.split a b).map PyData.str))) {}) {} := rfl
theorem x_part : rdPart a b PD = Sq ((b.length == 0) = false) (Sq (a.length ≤ sizeLine) (PD (.tuple [.str (Txt.partition a b).1, .str (Txt.partition a b).2.1, .str (Txt.partition a b).2.2])) {}) {} := rfl
theorem x_ends : rdEnds a b PD = PD (.bool (Txt.endswith a b)) := rfl
theorem x_digit : rdDigit a PD = PD (.bool (Txt.isdigit a)) := rfl
theorem x_ascii : rdAscii a PD = PD (.bool (Txt.isascii a)) := rfl
theorem x_lenS : rdLenS [.str a] PD = Sq (a.length ≤ sizeLine) (PD (.int a.length)) {} := rfl
theorem x_inSf : rdInS false (.str a) (.str b) PD = PD (.bool (!(Builtin.Str.occurrences b a 0 b.length 1).isEmpty)) := rfl
theorem x_inSt : rdInS true (.str a) (.str b) PD = PD (.bool ((Builtin.Str.occurrences b a 0 b.length 1).isEmpty)) := rfl
theorem x_wS : wS da env c PF = da env c fun x c1 => datK x fun d => strK d fun z => PF (signsD z) c1 := rfl
theorem x_slS : dSlS da lo hi env c P = da env c fun x c1 => datK x fun d => lo env c1 fun l c2 => hi env c2 fun u c3 => strK d fun z => Sq (z.length ≤ sizeLine) (P (.dat (.str (cutS z l u))) c3) {} := rfl
end
end DL
set_option maxHeartbeats 2000000
namespace DL
open PySem PySem.Spec PyProof.Rows L2
section
variable {X : Cx} {es : List Expr} {cs : List V} {ws : List Value} {cx : Str} {p : Pos}
end
section
variable {X : Cx} {E : En} {a C : Addr} {oe : Obj} {d : Option Addr} {pn : List (Addr × Obj)} {e n1 : Expr} {es : List Expr} {cs : List V} {ws : List Value} {de : DE} {x : Str} {fs : List (Str × PyData)} {b : Bool} {p pos tpos : Pos} {kk : Nat}
end
end DL
set_option maxHeartbeats 2000000
namespace DL
open PySem PySem.Spec PyProof.Rows L2

def Ct.put (c : Ct) (a : Addr) (o : Ob) : Ct := ⟨c.n, fun b => if b = a then some o else c.os b, c.ls, c.tb⟩
theorem Ct.put_put (c : Ct) (a : Addr) (o o' : Ob) : (c.put a o).put a o' = c.put a o' := by
  show Ct.mk _ _ _ _ = Ct.mk _ _ _ _
  congr 1
  funext b
  by_cases h : b = a <;> simp [Ct.put, h]
def putFv (f : Str) (x : Fv) : List (Str × Fv) → List (Str × Fv)
  | [] => [(f, x)]
  | (g, y) :: r => if g = f then (g, x) :: r else (g, y) :: putFv f x r
section
variable {K : PySem.W.Frag} {E : En} {g g' : Gh} {env : Ev} {c : Ct} {σ : L2.St} {H H' : Hp}
theorem FsOk.put {f : Str} {v : V} {x : Fv} (hx : FvOk K g v x) : ∀ {vs : List (Str × V)} {xs : List (Str × Fv)}, FsOk K g vs xs → FsOk K g (putF f v vs) (putFv f x xs)
  | [], [], _ => ⟨rfl, hx, trivial⟩
  | (a, u) :: vs, (b, y) :: xs, h => by
    obtain ⟨rfl, h1, h2⟩ := h
    show FsOk K g (if a = f then (a, v) :: vs else (a, u) :: putF f v vs) (if a = f then (a, x) :: xs else (a, y) :: putFv f x xs)
    by_cases e : a = f
    · rw [if_pos e, if_pos e]
      exact ⟨rfl, hx, h2⟩
    · rw [if_neg e, if_neg e]
      exact ⟨rfl, h1, FsOk.put hx h2⟩
  | [], _ :: _, h => h.elim
  | _ :: _, [], h => h.elim
def Gh.more (g : Gh) (x : Addr) : Gh := ⟨g.F, g.dk, fun a => g.ob a ∨ a = x⟩
end

def fvV : Fv → Vl
  | .dat d => .dat d
  | .ob a => .ob a
def obK (x : Vl) (k : Addr → Prop) : Prop := match x with
  | .ob a => k a
  | _ => False
/-- the field f of the object at a, which is of one of the classes -/
def fldS (Cs : List Addr) (f : Str) (c : Ct) (a : Addr) (k : Fv → Prop) : Prop := ∃ o x, c.os a = some o ∧ o.cls ∈ Cs ∧ o.fs.lookup f = some x ∧ k x
def dFld (Cs : List Addr) (f : Str) (de : DE) : DE := fun env c P => de env c fun x c1 => obK x fun a => fldS Cs f c1 a fun y => P (fvV y) c1
def fvK (x : Vl) (k : Fv → Prop) : Prop := match x with
  | .dat d => k (.dat d)
  | .ob a => k (.ob a)
  | _ => False
def setS (Cs : List Addr) (f : Str) (c : Ct) (a : Addr) (x : Fv) (k : Ct → Prop) : Prop := ∃ o, c.os a = some o ∧ o.cls ∈ Cs ∧ o.fs.length < 1000 ∧ k (c.put a ⟨o.cls, putFv f x o.fs⟩)
def sFldD (Cs : List Addr) (f : Str) (de dv : DE) : DS := fun D env c => dv env c fun y c1 => fvK y fun z => de env c1 fun x c2 => obK x fun a => setS Cs f c2 a z fun c3 => D.nx env c3
/-- o.f += e, of ints -/
def sFldAdd (Cs : List Addr) (f : Str) (de dv : DE) : DS := fun D env c => de env c fun x c1 => obK x fun a => ∃ o i, c1.os a = some o ∧ o.cls ∈ Cs ∧ o.fs.lookup f = some (.dat (.int i)) ∧ dv env c1 fun w c2 => ∃ j o', w = .dat (.int j) ∧ c2.os a = some o' ∧ o'.cls = o.cls ∧ o'.fs.length < 1000 ∧ D.nx env (c2.put a ⟨o'.cls, putFv f (.dat (.int (i + j))) o'.fs⟩)
section
variable {X : Cx} {E : En} {o value : Expr} {f : Str} {pos pos' tpos : Pos} {de dv : DE} {Cs : List Addr}
end
end DL
set_option maxHeartbeats 2000000
namespace DL
open PySem PySem.Spec PyProof.Rows L2

section
variable {X : Cx} {k : Nat} {f C : Addr} {fd : FuncData} {ps : List Str} {sp : Sp} {W : WX} {pins : List (Addr × Obj)} {s : Shared} {σ : L2.St} {H : Hp} {us : List Value} {vs : List V} {Q : VK}
end

section
variable {ι : Type} {X : Cx} {C f : ι → Addr} {sp : ι → List V → L2.St → Hp → VK → Prop} {m : Str} {o e : Expr} {es : List Expr} {pos apos : Pos} {ta : TE} {t : TA}
end

/-- what stands beside the class C first -/
def findS {α : Type} (C : Addr) : List (Addr × α) → (α → Prop) → Prop
  | [], _ => False
  | (D, s) :: r, k => (C = D ∧ k s) ∨ (C ≠ D ∧ findS C r k)
/-- the classes a method is found for, and what it then does -/
def methS {α : Type} (L : List (Addr × α)) (m : Str) (c : Ct) (a : Addr) (k : α → Prop) : Prop := ∃ o, c.os a = some o ∧ o.fs.lookup m = none ∧ findS o.cls L k
def dMeth (L : List (Addr × Spec)) (m : Str) (n : Nat) (do_ : DE) (da : DA) : DE := fun env c P => do_ env c fun x c1 => obK x fun a => methS L m c1 a fun sp => da env c1 fun xs c2 => (x :: xs).length = n ∧ sp (x :: xs) c2 P
def dMethX (L : List (Addr × SpecX)) (m : Str) (n : Nat) (W : XW) (do_ : DE) (da : DA) : DE := fun env c P => do_ env c fun x c1 => obK x fun a => methS L m c1 a fun sp => da env c1 fun xs c2 => (x :: xs).length = n ∧ sp (x :: xs) c2 P fun y fs c3 => W y fs env c3
section
variable {X : Cx} {E : En} {k n : Nat} {L : List (Addr × Spec)} {LX : List (Addr × SpecX)} {m : Str} {o e : Expr} {es : List Expr} {pos apos : Pos} {do_ : DE} {da : DA} {W : XW}
end
end DL
set_option maxHeartbeats 2000000
namespace DL
open PySem PySem.Spec PyProof.Rows L2

section
variable {ι : Type} {X : Cx} {k : Nat} {C p g : ι → Addr} {fd : ι → FuncData} {ps : ι → List Str} {sp : ι → Sp} {f : Str} {o : Expr} {pos : Pos} {ta : TE}
end
def propS (L : List (Addr × Spec)) (c : Ct) (a : Addr) (k : Spec → Prop) : Prop := ∃ o, c.os a = some o ∧ findS o.cls L k
def dProp (L : List (Addr × Spec)) (do_ : DE) : DE := fun env c P => do_ env c fun x c1 => obK x fun a => propS L c1 a fun sp => sp [.ob a] c1 P
section
variable {X : Cx} {E : En} {k n : Nat} {L : List (Addr × Spec)} {f : Str} {o : Expr} {pos : Pos} {do_ : DE}
end

def isNon (v : Vl) : Prop := v = .dat .none
def dMake (C : Addr) (n : Nat) (sp : Spec) (da : DA) : DE := fun env c P => da env c fun xs c1 => xs.length + 1 = n ∧ ∀ a, c1.os a = none → sp (.ob a :: xs) (c1.put a ⟨C, []⟩) fun v c2 => isNon v ∧ P (.ob a) c2
def dMakeX (C : Addr) (n : Nat) (sp : SpecX) (W : XW) (da : DA) : DE := fun env c P => da env c fun xs c1 => xs.length + 1 = n ∧ ∀ a, c1.os a = none → sp (.ob a :: xs) (c1.put a ⟨C, []⟩) (fun v c2 => isNon v ∧ P (.ob a) c2) fun y fs c3 => W y fs env c3
section
variable {K : PySem.W.Frag} {E : En} {g g1 : Gh} {env : Ev} {c c1 : Ct} {σ : L2.St} {H H1 : Hp} {vs : List V} {xs : List Vl} {C : Addr} {n : Nat}
end
section
variable {X : Cx} {E : En} {k n : Nat} {x : Str} {C : Addr} {sp : Spec} {spx : SpecX} {p pos : Pos} {e : Expr} {es : List Expr} {da : DA} {W : XW}
end
section
variable {P : Program} {w : World} {K : PySem.W.Frag} {mg : Str → Option Value} {base : Heap}
end
end DL
set_option maxHeartbeats 2000000
namespace DL
open PySem PySem.Spec PyProof.Rows L2

def repS (x : Str) (n : Nat) : Str := ⟨(List.replicate n x.cps).foldl (· ++ ·) #[]⟩
def rdMulS (d e : PyData) (P : PyData → Prop) : Prop := match d, e with
  | .str x, .int n => 0 ≤ n ∧ n < 16777216 ∧ x.length * n.toNat ≤ sizeLine ∧ P (.str (repS x n.toNat))
  | _, _ => False
theorem x_mulS {x : Str} {n : Int} {P : PyData → Prop} : rdMulS (.str x) (.int n) P = Sq (0 ≤ n ∧ n < 16777216 ∧ x.length * n.toNat ≤ sizeLine) (P (.str (repS x n.toNat))) {} := propext ⟨fun h => ⟨⟨h.1, h.2.1, h.2.2.1⟩, h.2.2.2⟩, fun h => ⟨h.1.1, h.1.2.1, h.1.2.2, h.2⟩⟩

def dOwnSl (i : Nat) (lo hi : DO) : DE := fun env c P => match env[i]? with
  | some (some (.own l)) => lo env c fun a c2 => hi env c2 fun b c3 => P (.dat (.list (cutD l a b))) c3
  | _ => False
section
variable {X : Cx} {E : En} {a C : Addr} {oe : Obj} {d : Option Addr} {pn : List (Addr × Obj)} {e : Expr} {de : DE} {x cx n : Str} {fs : List (Str × PyData)} {b : Bool} {p p2 pos tpos : Pos} {kk : Nat} {T' : String}
end
end DL
set_option maxHeartbeats 2000000
namespace DL
open PySem PySem.Spec PyProof.Rows L2

open He (eqO eqO_ok ba ga ma)
section
variable {cs : List Ck} {fn : List He5.DefA} {K : PySem.W.Frag}
theorem SaysO.ck (c : SaysO cs fn K) (i : Nat) {f : Ck} (h : cs[i]? = some f := by rfl) : f K = true := by
  have c1 := (ba (show (ckAll cs K && fn.all fun d => d.ok K) = true from congrArg (fun z : AlO => z.1) c)).1
  exact List.all_eq_true.mp c1 f (List.mem_of_getElem? h)
theorem SaysO.def_ (c : SaysO cs fn K) (i : Nat) {d : He5.DefA} (h : fn[i]? = some d := by rfl) : ∃ fd, L2.FunD K d.name d.qual d.params d.body d.scope (d.dvs K) (d.kws K) (d.at_ K) fd := by
  have c2 := (ba (show (ckAll cs K && fn.all fun d => d.ok K) = true from congrArg (fun z : AlO => z.1) c)).2
  have e : fn.map (fun d => He5.fnA K (d.at_ K)) = fn.map He5.DefA.val := congrArg (fun z : AlO => z.2) c
  have e2 : (fn.map fun d => He5.fnA K (d.at_ K))[i]? = (fn.map He5.DefA.val)[i]? := by rw [e]
  rw [List.getElem?_map, List.getElem?_map, h] at e2
  exact He5.DefA.funD (Option.some.inj e2) (List.all_eq_true.mp c2 d (List.mem_of_getElem? h))
end
theorem dA_fun {K : PySem.W.Frag} {at_ : PySem.W.Frag → Addr} {x q : Str} {st : Stmt} (ps : List Str) (h : ∃ fd, L2.FunD K x q (defArgs st) (defBody st) (defScope st) [] [] (at_ K) fd)
    (hb : ∀ (kV doc pm : Value) (an : Option Addr) (cdv ct : Value) (us : List Value), us.length = ps.length → bindArgs (PySem.W.fnOf x q (defArgs st) (defBody st) (defScope st) .none kV doc pm an cdv ct) ⟨us, []⟩ = pure (ps.zip us)) :
    ∃ fd, Fun K x q st (at_ K) fd ∧ Binds K fd ps [] := by
  obtain ⟨fd, F⟩ := h
  exact ⟨fd, He5.fun_of F, F.bindsN hb⟩
/-- the law's own: its parameter is bound in every state -/
theorem dA_law {K : PySem.W.Frag} {at_ : PySem.W.Frag → Addr} {x q : Str} {st : Stmt} (ps : List Str) (h : ∃ fd, L2.FunD K x q (defArgs st) (defBody st) (defScope st) [] [] (at_ K) fd)
    (hb : ∀ (kV doc pm : Value) (an : Option Addr) (cdv ct : Value) (us : List Value), us.length = ps.length → bindArgs (PySem.W.fnOf x q (defArgs st) (defBody st) (defScope st) .none kV doc pm an cdv ct) ⟨us, []⟩ = pure (ps.zip us)) :
    ∃ fd, Fun K x q st (at_ K) fd ∧ ∀ (s : Shared) (us : List Value), us.length = ps.length → BindsTo s fd ⟨us, []⟩ (ps.zip us) := by
  obtain ⟨fd, F⟩ := h
  exact ⟨fd, He5.fun_of F, F.bindsA hb⟩
section
variable {K : PySem.W.Frag} {h : Heap} {mg : Str → Option Value}
theorem glo_ok (X : K.In h) (G : h.Ns mainGlobals mg) {x : Str} (c : ckGlo x K = true) : mg x = some (.ref (ga K x)) := PySem.W.mg_of X G (eqO_ok c)
theorem free_ok (X : K.In h) (G : h.Ns mainGlobals mg) {x : Str} (c : ckFree x K = true) : mg x = none := PySem.W.mg_none_of X G (eqO_ok c)
theorem int_ok (X : K.In h) (G : h.Ns mainGlobals mg) {x : Str} {i : Int} (c : ckInt x i K = true) : ∃ t, mg x = some (.int i t) := He.int_ok X G (x := x) (i := i) c
end
theorem walk_endO {l : PySem.W.OpenLaw} {n k : Nat} {q : Program} {loose : List Str} {XP : (Str → Option Value) → Heap → Prop} {YP : World → Heap → Prop} {d : DefRec} {x : Str}
    (hn : l.most = some n) (hn2 : n ≤ sizeLine) (hdf : d.params.defaults = []) (hr : Room k callerA)
    (F : ∀ (w : World) (mg : Str → Option Value) (fa : Addr) (h : Heap), YP w h → h.Ns mainGlobals mg → mg d.name = some (.ref fa) →
      ∃ (K : PySem.W.Frag) (fd : FuncData) (sp : Sp), K.In h ∧ (∀ (s : Shared) (u : Value), BindsTo s fd ⟨[u], []⟩ [(x, u)]) ∧
        (∀ (H : Hp) (a : Addr) (ns : List Int), ns.length ≤ n → SqL K H a (ns.map V.int) → sp [.ref a] H (fun v _ => v = .bl true) E0) ∧
        ∀ base : Heap, K.In base → base.Ns mainGlobals mg → FnG l.prog w K mg base k fa fd [x] sp) :
    PySem.W.WalkO q loose XP YP l.row.toRowW d [] (fun f vs => PySem.call f vs) := by
  refine Att.attach_call hn hdf fun w s₀ s₁ mg mb fa o pm cd doc a vs ns G Y ho hd hcd hmg hobj hints hlen hg => ?_
  obtain ⟨K, fd, sp, KX, bd, want, hF⟩ := F w mg fa _ Y G.T.g hmg
  exact law_end KX G.T.g G.T.b G.T.builtins G.T.nolimit hg hobj hints (Nat.le_trans hlen hn2) hr hF bd fun H _ hS => want H a ns hlen hS
end DL
set_option maxHeartbeats 2000000
namespace DL
open PySem PySem.Spec PyProof.Rows L2
def sExpr (de : DE) : DS := fun D env c => de env c fun _ c1 => D.nx env c1
end DL
set_option maxHeartbeats 2000000
namespace DL
open PySem PySem.Spec PyProof.Rows L2

abbrev r0 : Rst := ⟨fun _ => none, fun _ => none, []⟩
theorem st_n {n : Nat} {L : List (Addr × Ob)} {r : Rst} : (St n L r).n = n := rfl
theorem st_tick {n : Nat} {L : List (Addr × Ob)} {r : Rst} : (St n L r).tick = St (n + 1) L r := rfl
theorem beq_self (a : Addr) : (a == a) = true := beq_iff_eq.mpr rfl
theorem beq_ne {a b : Addr} (h : a ≠ b) : (a == b) = false := by
  cases e : a == b with
  | false => rfl
  | true => exact absurd (beq_iff_eq.mp e) h
theorem st_os1 {n : Nat} {L : List (Addr × Ob)} {r : Rst} {a : Addr} {o : Ob} : (St n ((a, o) :: L) r).os a = some o := by
  show (match List.lookup a ((a, o) :: L) with | some o => some o | none => r a) = some o
  rw [List.lookup_cons, beq_self]
theorem st_os2 {n : Nat} {L : List (Addr × Ob)} {r : Rst} {a b : Addr} {o : Ob} (h : a ≠ b) : (St n ((b, o) :: L) r).os a = (St n L r).os a := by
  show (match List.lookup a ((b, o) :: L) with | some o => some o | none => r a) = _
  rw [List.lookup_cons, beq_ne h]
  rfl
theorem st_put {n : Nat} {L : List (Addr × Ob)} {r : Rst} {a : Addr} {o : Ob} : (St n L r).put a o = St n ((a, o) :: L) r := by
  show Ct.mk _ _ _ _ = Ct.mk _ _ _ _
  congr 1
  funext b
  by_cases h : b = a
  · subst h
    rw [if_pos rfl, List.lookup_cons, beq_self]
  · rw [if_neg h, List.lookup_cons, beq_ne h]
    rfl
theorem st_putput {n : Nat} {L : List (Addr × Ob)} {r : Rst} {a : Addr} {o o' : Ob} : St n ((a, o') :: (a, o) :: L) r = St n ((a, o') :: L) r := by
  rw [← st_put, ← st_put, Ct.put_put, st_put]
theorem st_swap {n : Nat} {L : List (Addr × Ob)} {r : Rst} {a b : Addr} {o o' : Ob} (h : a ≠ b) : St n ((a, o) :: (b, o') :: L) r = St n ((b, o') :: (a, o) :: L) r := by
  show Ct.mk _ _ _ _ = Ct.mk _ _ _ _
  congr 1
  funext x
  by_cases h1 : x = a
  · subst h1
    simp only [List.lookup_cons, beq_self, beq_ne h]
  · simp only [List.lookup_cons, beq_ne h1]
section
variable {n : Nat} {L : List (Addr × Ob)} {r : Rst} {a b : Addr} {o o' : Ob} {Cs : List Addr} {f g : Str} {x y : Fv} {fs : List (Str × Fv)} {C D : Addr} {env : Ev} {c : Ct} {P : Vl → Ct → Prop} {de dv do_ : DE} {da : DA} {DD : DEnds}
/-- a field in the list of fields -/
def LookK (fs : List (Str × Fv)) (f : Str) (k : Fv → Prop) : Prop := ∃ x, fs.lookup f = some x ∧ k x
theorem str_beq {f g : Str} (h : f ≠ g) : (f == g) = false := by
  cases e : f == g with
  | false => rfl
  | true => exact absurd (beq_iff_eq.mp e) h
theorem x_look1 {k : Fv → Prop} : LookK ((f, x) :: fs) f k = k x := by
  unfold LookK
  rw [List.lookup_cons, beq_iff_eq.mpr (rfl : f = f)]
  exact propext ⟨fun ⟨_, e, h⟩ => by cases e; exact h, fun h => ⟨_, rfl, h⟩⟩
theorem x_look2 {k : Fv → Prop} (h : f ≠ g) : LookK ((g, x) :: fs) f k = LookK fs f k := by
  unfold LookK
  rw [List.lookup_cons, str_beq h]
theorem x_putFv0 : putFv f x [] = [(f, x)] := rfl
theorem x_putFv1 : putFv f x ((f, y) :: fs) = (f, x) :: fs := if_pos rfl
theorem x_putFv2 (h : g ≠ f) : putFv f x ((g, y) :: fs) = (g, y) :: putFv f x fs := if_neg h
/-- the class stands in the list -/
def InC (C : Addr) (Cs : List Addr) (A : Prop) : Prop := C ∈ Cs ∧ A
theorem x_inC1 {A : Prop} : InC C (C :: Cs) A = A := propext ⟨fun h => h.2, fun h => ⟨List.mem_cons_self, h⟩⟩
theorem x_inC2 {A : Prop} : InC C (D :: C :: Cs) A = A := propext ⟨fun h => h.2, fun h => ⟨List.mem_cons_of_mem _ List.mem_cons_self, h⟩⟩
theorem x_find1 {α : Type} {s : α} {R : List (Addr × α)} {k : α → Prop} : findS C ((C, s) :: R) k = k s := propext ⟨fun h => h.elim (fun z => z.2) (fun z => absurd rfl z.1), fun h => .inl ⟨rfl, h⟩⟩
theorem x_find2 {α : Type} {s : α} {R : List (Addr × α)} {k : α → Prop} (h : C ≠ D) : findS C ((D, s) :: R) k = findS C R k := propext ⟨fun z => z.elim (fun z => absurd z.1 h) (fun z => z.2), fun z => .inr ⟨h, z⟩⟩
/-- what the object at a holds, in a written state -/
def AtK (c : Ct) (a : Addr) (k : Ob → Prop) : Prop := ∃ o, c.os a = some o ∧ k o
theorem x_at1 {k : Ob → Prop} : AtK (St n ((a, o) :: L) r) a k = k o := by
  unfold AtK
  rw [st_os1]
  exact propext ⟨fun ⟨_, e, h⟩ => by cases e; exact h, fun h => ⟨_, rfl, h⟩⟩
theorem x_at2 {k : Ob → Prop} (h : a ≠ b) : AtK (St n ((b, o) :: L) r) a k = AtK (St n L r) a k := by
  unfold AtK
  rw [st_os2 h]
theorem x_fldS {k : Fv → Prop} : fldS Cs f c a k = AtK c a fun o => InC o.cls Cs (LookK o.fs f k) := by
  unfold fldS AtK InC LookK
  exact propext ⟨fun ⟨o, x, h1, h2, h3, h4⟩ => ⟨o, h1, h2, x, h3, h4⟩, fun ⟨o, h1, h2, x, h3, h4⟩ => ⟨o, x, h1, h2, h3, h4⟩⟩
theorem x_obK {k : Addr → Prop} : obK (.ob a) k = k a := rfl
theorem x_fvV : fvV (.dat d) = .dat d := rfl
theorem x_fvVo : fvV (.ob a) = .ob a := rfl
theorem x_fvK {d : PyData} {k : Fv → Prop} : fvK (.dat d) k = k (.dat d) := rfl
theorem x_fvKo {k : Fv → Prop} : fvK (.ob a) k = k (.ob a) := rfl
theorem x_v0o {env : Ev} : dVar 0 (some (.ob a) :: env) c P = P (.ob a) c := rfl
theorem x_fld : dFld Cs f de env c P = de env c fun x c1 => obK x fun a => fldS Cs f c1 a fun y => P (fvV y) c1 := rfl
/-- the object at a gets other fields -/
def PutK (c : Ct) (a : Addr) (o : Ob) (k : Ct → Prop) : Prop := k (c.put a o)
theorem x_put1 {k : Ct → Prop} : PutK (St n ((a, o) :: L) r) a o' k = k (St n ((a, o') :: L) r) := by
  unfold PutK
  rw [st_put, st_putput]
theorem x_put2 {k : Ct → Prop} {u : Ob} (h : a ≠ b) : PutK (St n ((b, u) :: (a, o) :: L) r) a o' k = k (St n ((b, u) :: (a, o') :: L) r) := by
  unfold PutK
  rw [st_swap (Ne.symm h), st_put, st_putput, st_swap h]
theorem x_setOb {k : Ct → Prop} : setS Cs f c a x k = AtK c a fun o => InC o.cls Cs (Sq (o.fs.length < 1000) (PutK c a ⟨o.cls, putFv f x o.fs⟩ k) {}) := by
  unfold setS AtK InC Sq PutK
  exact propext ⟨fun ⟨o, h1, h2, h3, h4⟩ => ⟨o, h1, h2, h3, h4⟩, fun ⟨o, h1, h2, h3, h4⟩ => ⟨o, h1, h2, h3, h4⟩⟩
theorem x_sfld : sFldD Cs f de dv DD env c = dv env c fun y c1 => fvK y fun z => de env c1 fun x c2 => obK x fun a => setS Cs f c2 a z fun c3 => DD.nx env c3 := rfl
/-- an int in a field -/
def fvI (x : Fv) (k : Int → Prop) : Prop := match x with
  | .dat (.int i) => k i
  | _ => False
theorem x_fvI {i : Int} {k : Int → Prop} : fvI (.dat (.int i)) k = k i := rfl
/-- of the class that it was of -/
def SameC (C : Addr) (o : Ob) (A : Prop) : Prop := o.cls = C ∧ A
theorem x_sameC {A : Prop} : SameC C ⟨C, fs⟩ A = A := propext ⟨fun h => h.2, fun h => ⟨rfl, h⟩⟩
theorem x_fldadd : sFldAdd Cs f de dv DD env c = de env c fun x c1 => obK x fun a => AtK c1 a fun o => InC o.cls Cs (LookK o.fs f fun y => fvI y fun i => dv env c1 fun w c2 => datK w fun d => intK d fun j => AtK c2 a fun o' => SameC o.cls o' (Sq (o'.fs.length < 1000) (PutK c2 a ⟨o'.cls, putFv f (.dat (.int (i + j))) o'.fs⟩ fun c3 => DD.nx env c3) {})) := by
  unfold sFldAdd
  congr 1
  funext x c1
  congr 1
  funext a
  refine propext ⟨fun ⟨o, i, h1, h2, h3, h4⟩ => ⟨o, h1, h2, _, h3, ?_⟩, fun ⟨o, h1, h2, y, h3, h4⟩ => ?_⟩
  · show dv env c1 _
    refine cast (congrArg (dv env c1) ?_) h4
    funext w c2
    exact propext ⟨fun ⟨j, o', e, k1, k2, k3, k4⟩ => by subst e; exact ⟨o', k1, k2, k3, k4⟩, fun h => by
      cases w with
      | dat d =>
        cases d with
        | int j =>
          obtain ⟨o', k1, k2, k3, k4⟩ := h
          exact ⟨j, o', rfl, k1, k2, k3, k4⟩
        | _ => exact h.elim
      | _ => exact h.elim⟩
  · cases y with
    | ob _ => exact h4.elim
    | dat d =>
      cases d with
      | int i =>
        refine ⟨o, i, h1, h2, h3, ?_⟩
        refine cast (congrArg (dv env c1) ?_) h4
        funext w c2
        exact propext ⟨fun h => by
          cases w with
          | dat d =>
            cases d with
            | int j =>
              obtain ⟨o', k1, k2, k3, k4⟩ := h
              exact ⟨j, o', rfl, k1, k2, k3, k4⟩
            | _ => exact h.elim
          | _ => exact h.elim, fun ⟨j, o', e, k1, k2, k3, k4⟩ => by subst e; exact ⟨o', k1, k2, k3, k4⟩⟩
      | _ => exact h4.elim
theorem x_prop {PL : List (Addr × Spec)} : dProp PL do_ env c P = do_ env c fun x c1 => obK x fun a => AtK c1 a fun o => findS o.cls PL fun sp => Cl sp [.ob a] c1 P {} := rfl
/-- no field of that name -/
def NoF (fs : List (Str × Fv)) (m : Str) (A : Prop) : Prop := fs.lookup m = none ∧ A
theorem x_noF0 {A : Prop} : NoF [] f A = A := propext ⟨fun h => h.2, fun h => ⟨rfl, h⟩⟩
theorem x_noF1 {A : Prop} (h : f ≠ g) : NoF ((g, x) :: fs) f A = NoF fs f A := by
  unfold NoF
  rw [List.lookup_cons, str_beq h]
theorem x_methS {α : Type} {ML : List (Addr × α)} {k : α → Prop} : methS ML f c a k = AtK c a fun o => NoF o.fs f (findS o.cls ML k) := rfl
theorem x_meth {ML : List (Addr × Spec)} {j : Nat} : dMeth ML f j do_ da env c P = do_ env c fun x c1 => obK x fun a => methS ML f c1 a fun sp => da env c1 fun xs c2 => Sq ((x :: xs).length = j) (Cl sp (x :: xs) c2 P {}) {} := rfl
theorem x_methX {ML : List (Addr × SpecX)} {j : Nat} {W : XW} : dMethX ML f j W do_ da env c P = do_ env c fun x c1 => obK x fun a => methS ML f c1 a fun sp => da env c1 fun xs c2 => Sq ((x :: xs).length = j) (ClX sp (x :: xs) c2 P (fun y fs c3 => W y fs env c3) {} {}) {} := rfl
/-- a new object -/
def MkK (C : Addr) (sp : Spec) (xs : List Vl) (c : Ct) (P : Vl → Ct → Prop) (_ : Tg P) : Prop := ∀ a, c.os a = none → sp (.ob a :: xs) (c.put a ⟨C, []⟩) fun v c2 => isNon v ∧ P (.ob a) c2
def MkX (C : Addr) (sp : SpecX) (xs : List Vl) (c : Ct) (P : Vl → Ct → Prop) (Px : Xd) (_ : Tg P) (_ : Tg Px) : Prop := ∀ a, c.os a = none → sp (.ob a :: xs) (c.put a ⟨C, []⟩) (fun v c2 => isNon v ∧ P (.ob a) c2) Px
theorem x_make {sp : Spec} {j : Nat} : dMake C j sp da env c P = da env c fun xs c1 => Sq (xs.length + 1 = j) (MkK C sp xs c1 P {}) {} := rfl
theorem x_makeX {sp : SpecX} {j : Nat} {W : XW} : dMakeX C j sp W da env c P = da env c fun xs c1 => Sq (xs.length + 1 = j) (MkX C sp xs c1 P (fun y fs c3 => W y fs env c3) {} {}) {} := rfl
theorem x_isNon : isNon (.dat .none) = True := eq_true rfl
theorem draw_okS {m : Int} {t : Tg P} (h0 : 0 < m) (h1 : m < 2 ^ 200) (hc : n < 10000000) (h : ∀ q : Int, 0 ≤ q → q < m → P (.dat (.int q)) (St (n + 1) L r)) : Cl (fun xs c P => xs.length = 2 ∧ drawSpec xs c P) [.deck, .dat (.int m)] (St n L r) P t := draw_ok h0 h1 hc h
theorem x_sexpr : sExpr de DD env c = de env c fun _ c1 => DD.nx env c1 := rfl
theorem x_ownSl {i : Nat} {lo hi : DO} : dOwnSl i lo hi env c P = OwnK env i fun l => lo env c fun a c2 => hi env c2 fun b c3 => P (.dat (.list (cutD l a b))) c3 := by
  unfold dOwnSl OwnK
  cases env[i]? with
  | none => rfl
  | some x => cases x with
    | none => rfl
    | some v => cases v <;> rfl
/-- the wish of a try's body -/
def TryW (i : Nat) (xs : List Str) (ts : Addr → Str → List (Str × PyData) → DS) (D : DEnds) (x : Str) (fs : List (Str × PyData)) (env : Ev) (c : Ct) : Prop := x ∈ xs ∧ NoOwn env ∧ ∀ a, ts a x fs (exEnds i D) (env.set i (some (.exc a))) c
def TryK (env : Ev) (A : Prop) (_ : Tg A) : Prop := NoOwn env ∧ A
theorem x_try {i : Nat} {xs : List Str} {tb : XW → DS} {ts : Addr → Str → List (Str × PyData) → DS} : sTry i xs tb ts DD env c = TryK env (tb (TryW i xs ts DD) DD env c) {} := rfl
def ExcK (x : Vl) (a : Addr) (A : Prop) : Prop := x = .exc a ∧ A
theorem x_excK {A : Prop} : ExcK (.exc a) a A = A := propext ⟨fun h => h.2, fun h => ⟨rfl, h⟩⟩
theorem x_isXr {b : Bool} : dIsX a b de env c P = de env c fun x c1 => ExcK x a (P (.dat (.bool b)) c1) := rfl
def XfK (fs : List (Str × PyData)) (f : Str) (k : PyData → Prop) : Prop := ∃ z, fs.lookup f = some z ∧ k z
theorem x_xfK1 {d : PyData} {xs : List (Str × PyData)} {k : PyData → Prop} : XfK ((f, d) :: xs) f k = k d := by
  unfold XfK
  rw [List.lookup_cons, beq_iff_eq.mpr (rfl : f = f)]
  exact propext ⟨fun ⟨_, e, h⟩ => by cases e; exact h, fun h => ⟨_, rfl, h⟩⟩
theorem x_xf {xs : List (Str × PyData)} : dXf a f xs de env c P = de env c fun x c1 => ExcK x a (XfK xs f fun z => P (.dat z) c1) := rfl
theorem x_raise {W : XW} {n : Str} : sRaise n f W de DD env c = de env c fun v c1 => datK v fun z => W n [(f, z)] env c1 := rfl
end
end DL
set_option maxHeartbeats 2000000
namespace DL
open PySem PySem.Spec PyProof.Rows L2
section
variable {ι : Type} {X : Cx} {k : Nat} {C f : ι → Addr} {fd : ι → FuncData} {ps : ι → List Str} {sp : ι → Sp} {m : Str}
end
/-- a method that a built-in calls: its answer goes through rd -/
def dDun (L : List (Addr × Spec)) (m : Str) (rd : PyData → (PyData → Prop) → Prop) (da : DE) : DE := fun env c P => da env c fun x c1 => obK x fun a => propS L c1 a fun sp => sp [.ob a] c1 fun v c2 => datK v fun d => rd d fun z => P (.dat z) c2
def rdLenO (d : PyData) (P : PyData → Prop) : Prop := match d with
  | .int n => 0 ≤ n ∧ n < 2 ^ 63 ∧ P (.int n)
  | _ => False
def rdStrO (d : PyData) (P : PyData → Prop) : Prop := match d with
  | .str x => P (.str x)
  | _ => False
section
variable {X : Cx} {E : En} {k : Nat} {L : List (Addr × Spec)} {m : Str} {e : Expr} {p pos : Pos} {de : DE}
end
section
variable {L : List (Addr × Spec)} {m : Str} {de : DE} {env : Ev} {c : Ct} {P : Vl → Ct → Prop} {PD : PyData → Prop} {rd : PyData → (PyData → Prop) → Prop}
theorem x_dun : dDun L m rd de env c P = de env c fun x c1 => obK x fun a => AtK c1 a fun o => findS o.cls L fun sp => Cl sp [.ob a] c1 (fun v c2 => datK v fun d => rd d fun z => P (.dat z) c2) {} := rfl
theorem x_lenO {n : Int} : rdLenO (.int n) PD = Sq (0 ≤ n ∧ n < 2 ^ 63) (PD (.int n)) {} := propext ⟨fun h => ⟨⟨h.1, h.2.1⟩, h.2.2⟩, fun h => ⟨h.1.1, h.1.2, h.2⟩⟩
theorem x_strO {x : Str} : rdStrO (.str x) PD = PD (.str x) := rfl
end
end DL
set_option maxHeartbeats 2000000
namespace DL
open PySem PySem.Spec PyProof.Rows L2

section
variable {X : Cx} {k n : Nat} {f : Addr} {fd : FuncData} {ps ks : List Str} {sp : Sp} {W : WX} {pins : List (Addr × Obj)} {s : Shared} {σ : L2.St} {H : Hp} {us ws ds : List Value} {vs zs dvs : List V} {Q : VK} {gg : List Value → List Value → List Value} {gV : List V → List V → List V}
end
section
variable {ι : Type} {X : Cx} {C f : ι → Addr} {n : Nat} {ks : List Str} {sp : ι → List V → List V → L2.St → Hp → VK → Prop} {m : Str} {o e : Expr} {es : List Expr} {kws : List Keyword} {pos apos : Pos} {ta : TE} {t tk : TA}
end
/-- o.m(..): None for the keyword; o.m(.., kw=e) -/
def dMethN (L : List (Addr × Spec)) (m : Str) (n : Nat) (do_ : DE) (da : DA) : DE := fun env c P => do_ env c fun x c1 => obK x fun a => methS L m c1 a fun sp => da env c1 fun xs c2 => (x :: xs).length = n ∧ sp ((x :: xs) ++ [.dat .none]) c2 P
def dMethK (L : List (Addr × Spec)) (m : Str) (n : Nat) (do_ : DE) (da : DA) (dk : DE) : DE := fun env c P => do_ env c fun x c1 => obK x fun a => methS L m c1 a fun sp => da env c1 fun xs c2 => dk env c2 fun z c3 => (x :: xs).length = n ∧ sp ((x :: xs) ++ [z]) c3 P
def dMethNX (L : List (Addr × SpecX)) (m : Str) (n : Nat) (W : XW) (do_ : DE) (da : DA) : DE := fun env c P => do_ env c fun x c1 => obK x fun a => methS L m c1 a fun sp => da env c1 fun xs c2 => (x :: xs).length = n ∧ sp ((x :: xs) ++ [.dat .none]) c2 P fun y fs c3 => W y fs env c3
def dMethKX (L : List (Addr × SpecX)) (m : Str) (n : Nat) (W : XW) (do_ : DE) (da : DA) (dk : DE) : DE := fun env c P => do_ env c fun x c1 => obK x fun a => methS L m c1 a fun sp => da env c1 fun xs c2 => dk env c2 fun z c3 => (x :: xs).length = n ∧ sp ((x :: xs) ++ [z]) c3 P fun y fs c4 => W y fs env c4
theorem VOks.app {K : PySem.W.Frag} {g : Gh} {H : Hp} : ∀ {vs ws : List V} {xs ys : List Vl}, VOks K g H vs xs → VOks K g H ws ys → VOks K g H (vs ++ ws) (xs ++ ys)
  | [], _, [], _, _, h => h
  | _ :: _, _, _ :: _, _, h, k => ⟨h.1, VOks.app h.2 k⟩
  | [], _, _ :: _, _, h, _ => h.elim
  | _ :: _, _, [], _, h, _ => h.elim
section
variable {X : Cx} {E : En} {k n : Nat} {L : List (Addr × Spec)} {LX : List (Addr × SpecX)} {m kw : Str} {o e ek : Expr} {es : List Expr} {pos apos kpos : Pos} {do_ dk : DE} {da : DA} {W : XW}
end
section
variable {L : List (Addr × Spec)} {LX : List (Addr × SpecX)} {m : Str} {n : Nat} {do_ dk : DE} {da : DA} {W : XW} {env : Ev} {c : Ct} {P : Vl → Ct → Prop}
theorem x_methN : dMethN L m n do_ da env c P = do_ env c fun x c1 => obK x fun a => methS L m c1 a fun sp => da env c1 fun xs c2 => Sq ((x :: xs).length = n) (Cl sp ((x :: xs) ++ [.dat .none]) c2 P {}) {} := rfl
theorem x_methNX : dMethNX LX m n W do_ da env c P = do_ env c fun x c1 => obK x fun a => methS LX m c1 a fun sp => da env c1 fun xs c2 => Sq ((x :: xs).length = n) (ClX sp ((x :: xs) ++ [.dat .none]) c2 P (fun y fs c3 => W y fs env c3) {} {}) {} := rfl
theorem x_methKX : dMethKX LX m n W do_ da dk env c P = do_ env c fun x c1 => obK x fun a => methS LX m c1 a fun sp => da env c1 fun xs c2 => dk env c2 fun z c3 => Sq ((x :: xs).length = n) (ClX sp ((x :: xs) ++ [z]) c3 P (fun y fs c4 => W y fs env c4) {} {}) {} := rfl
end
end DL
set_option maxHeartbeats 2000000
namespace DL
open PySem PySem.Spec PyProof.Rows L2
end DL
set_option maxHeartbeats 2000000
namespace DL
open PySem PySem.Spec PyProof.Rows L2
def sOwnAug (i : Nat) (f : Int → Int → Int) (di dv : DE) : DS := fun D env c => match env[i]? with
  | some (some (.own l)) => di env c fun y c1 => datK y fun d => intK d fun j => ∃ k u, ixN l.length j = some k ∧ l[k]? = some (.int u) ∧ dv env c1 fun z c2 => datK z fun e => intK e fun w => D.nx (env.set i (some (.own (l.set k (.int (f u w)))))) c2
  | _ => False
section
variable {X : Cx} {E : En} {a b : Expr} {da db : DE} {pos tpos p1 : Pos} {x : Str} {op : Operator} {f : Int → Int → Int}
end
mutual
/-- no list, no dict within -/
def noL : PyData → Bool
  | .list _ => false
  | .dict _ => false
  | .tuple ds => noLs ds
  | _ => true
def noLs : List PyData → Bool
  | [] => true
  | d :: ds => noL d && noLs ds
end
def fvNL : Fv → Bool
  | .dat d => noL d
  | .ob _ => true
def fsNL : List (Str × Fv) → Bool
  | [] => true
  | (_, x) :: r => fvNL x && fsNL r
/-- no object holds a list -/
structure NL (c : Ct) : Prop where
  o : ∀ a o, c.os a = some o → fsNL o.fs = true
  l : ∀ a l, c.ls a = some l → l.all fvNL = true
def vNL : Vl → Bool
  | .dat d => noL d
  | .ob _ => true
  | _ => false
def dLend (i : Nat) (de : DE) : DE := fun env c P => match env[i]? with
  | some (some (.own l)) => de (env.set i (some (.dat (.list l)))) c fun x c' => vNL x = true ∧ NL c' ∧ P x c'
  | _ => False
section
variable {i : Nat} {f : Int → Int → Int} {di dv de : DE} {D : DEnds} {env : Ev} {c : Ct} {P : Vl → Ct → Prop}
/-- a place of an own list of which an int is known -/
def AugK (l : List PyData) (j : Int) (k : Nat → Int → Prop) (_ : Tg k) : Prop := ∃ m u, ixN l.length j = some m ∧ l[m]? = some (.int u) ∧ k m u
theorem x_ownAug : sOwnAug i f di dv D env c = OwnK env i fun l => di env c fun y c1 => datK y fun d => intK d fun j => AugK l j (fun k u => dv env c1 fun z c2 => datK z fun e => intK e fun w => SetK env i (some (.own (l.set k (.int (f u w))))) fun env' => D.nx env' c2) {} := by
  unfold sOwnAug OwnK
  cases env[i]? with
  | none => rfl
  | some x => cases x with
    | none => rfl
    | some v => cases v <;> rfl
/-- what comes back while a list was lent -/
def LendK (x : Vl) (c : Ct) (A : Prop) : Prop := vNL x = true ∧ NL c ∧ A
theorem x_lend : dLend i de env c P = OwnK env i fun l => SetK env i (some (.dat (.list l))) fun env' => de env' c fun x c' => LendK x c' (P x c') := by
  unfold dLend OwnK
  cases env[i]? with
  | none => rfl
  | some x => cases x with
    | none => rfl
    | some v => cases v <;> rfl
theorem x_lendB {b : Bool} {A : Prop} (h : NL c) : LendK (.dat (.bool b)) c A = A := propext ⟨fun z => z.2.2, fun z => ⟨rfl, h, z⟩⟩
theorem x_lendI {b : Int} {A : Prop} (h : NL c) : LendK (.dat (.int b)) c A = A := propext ⟨fun z => z.2.2, fun z => ⟨rfl, h, z⟩⟩
theorem x_lendT {b : List PyData} {A : Prop} (h : NL c) (h2 : noLs b = true) : LendK (.dat (.tuple b)) c A = A := propext ⟨fun z => z.2.2, fun z => ⟨h2, h, z⟩⟩
end
end DL
set_option maxHeartbeats 2000000
namespace DL
open PySem PySem.Spec PyProof.Rows L2
end DL
set_option maxHeartbeats 2000000
namespace DL
open PySem PySem.Spec PyProof.Rows L2
section
variable {X : Cx} {E : En} {k n : Nat} {L : List (Addr × Spec)} {m kw : Str} {o e ek : Expr} {es : List Expr} {pos apos kpos : Pos} {do_ dk : DE} {da : DA}
end
section
variable {L : List (Addr × Spec)} {m : Str} {n : Nat} {do_ dk : DE} {da : DA} {env : Ev} {c : Ct} {P : Vl → Ct → Prop}
theorem x_methK : dMethK L m n do_ da dk env c P = do_ env c fun x c1 => obK x fun a => methS L m c1 a fun sp => da env c1 fun xs c2 => dk env c2 fun z c3 => Sq ((x :: xs).length = n) (Cl sp ((x :: xs) ++ [z]) c3 P {}) {} := rfl
end
end DL
set_option maxHeartbeats 2000000
namespace HandSHeadRun
noncomputable section
open PySem PySem.W PySem.Calls PyProof.Rows
end
end HandSHeadRun
set_option maxHeartbeats 2000000
namespace DL
open PySem PySem.Spec PyProof.Rows L2
section
variable {X : Cx} {C : Addr} {bmB : List Value} {B newId initId : String}
end
def sRaise0 (x : Str) (W : XW) : DS := fun _ env c => W x [] env c
section
variable {X : Cx} {E : En} {x : Str} {p pos pos' : Pos} {W : XW}
end
section
variable {X : Cx} {E : En} {i : Nat} {l : Tsl} {tb : XW → DS} {bx n : Str} {C0 : Addr} {body suite : List Stmt} {b₀ : Stmt} {np pos pos' : Pos}
end
section
variable {X : Cx} {E : En} {k : Nat} {f : Addr} {fd : FuncData} {sp : Sp} {x : Str} {p pos : Pos} {spec : Spec}
def dCall0 (spec : Spec) : DE := fun _ c P => spec [] c P
end
end DL
namespace DL
open PySem PySem.Spec PyProof.Rows L2
section
open PySem.Builtin PySem.Builtin.ObjectAttr
variable {prog : Program} {w : World} {A : Around} {R : Result → Shared → Prop} {hp : Heap} {g : Array GenState} {d : Drawn} {t : Nat} {os : OsState}
end
section
variable {X : Cx} {pins : List (Addr × Obj)} {σ : L2.St} {H : Hp} {s : Shared} {a C : Addr} {fld : Str} {y : V} {u : Value} {Q : Unit → Shared → Prop} {E : Value → Shared → Prop} {A : Around}
end
section
variable {X : Cx} {o e : Expr} {es : List Expr} {to te : TE} {ta : TA} {f : Str} {p p' pos : Pos}
end
section
variable {P : Program} {w : World} {K : PySem.W.Frag} {mg : Str → Option Value} {base : Heap}
end
section
variable {X : Cx} {E : En} {x f : Str} {p pos pos' : Pos} {e : Expr} {da : DE} {W : XW} {k : Nat}
end
end DL
set_option maxHeartbeats 2000000
namespace DL
open PySem PySem.Spec PyProof.Rows L2
end DL
namespace DL
open PySem PySem.Spec PyProof.Rows L2
section
variable {X : Cx} {body : List Stmt} {h0 : ExceptHandler} {hds : List ExceptHandler} {pos : Pos} {tb : WX → TS}
end
def exEndsO (i : Option Nat) (D : DEnds) : DEnds := match i with
  | none => D
  | some i => exEnds i D
def envO (i : Option Nat) (a : Addr) (env : Ev) : Ev := match i with
  | none => env
  | some i => env.set i (some (.exc a))
def trW (x : Str) (fs : List (Str × PyData)) (env : Ev) (c : Ct) (D : DEnds) : List TrE → Prop
  | [] => False
  | p :: r => if x = p.1 then ∀ a, p.2.2 a fs (exEndsO p.2.1 D) (envO p.2.1 a env) c else trW x fs env c D r
def sTryG (l : List TrE) (tb : XW → DS) : DS := fun D env c => NoOwn env ∧ tb (fun x fs env' c' => NoOwn env' ∧ trW x fs env' c' D l) D env c
section
variable {X : Cx} {E : En} {l : List TrE} {tb : XW → DS} {body : List Stmt} {h0 : ExceptHandler} {hds : List ExceptHandler} {pos : Pos}
end
end DL
set_option maxHeartbeats 2000000
namespace DL
open PySem PySem.Spec PyProof.Rows L2
open He (ba ga)
end DL
set_option maxHeartbeats 2000000
namespace DL
open PySem PySem.Spec PyProof.Rows L2
section
variable {x : Str} {fs : List (Str × PyData)} {env : Ev} {c : Ct} {l : List TrE} {P : Vl → Ct → Prop} {DD : DEnds}
theorem x_raise0 {W : XW} : sRaise0 x W DD env c = W x [] env c := rfl
theorem x_call0 {sp : Spec} : dCall0 sp env c P = Cl sp [] c P {} := rfl
def TrW (l : List TrE) (D : DEnds) (x : Str) (fs : List (Str × PyData)) (env : Ev) (c : Ct) : Prop := NoOwn env ∧ trW x fs env c D l
theorem x_tryG {tb : XW → DS} : sTryG l tb DD env c = TryK env (tb (TrW l DD) DD env c) {} := rfl
end
end DL
set_option maxHeartbeats 2000000
namespace DL
open PySem PySem.Spec PyProof.Rows L2
def LsK (d : PyData) (k : List PyData → Prop) : Prop := match d with
  | .list ds => k ds
  | _ => False
def dLM (K : List PyData → PyData → (Int → Prop) → Prop) (do_ da : DE) : DE := fun env c P => do_ env c fun x c1 => datK x fun l => LsK l fun ds => da env c1 fun y c2 => datK y fun d => K ds d fun n => P (.dat (.int n)) c2
section
variable {X : Cx} {E : En} {o a : Expr} {do_ da : DE} {p2 p3 : Pos}
theorem x_lm {KK : List PyData → PyData → (Int → Prop) → Prop} {env : Ev} {c : Ct} {P : Vl → Ct → Prop} : dLM KK do_ da env c P = do_ env c fun x c1 => datK x fun l => LsK l fun ds => da env c1 fun y c2 => datK y fun d => KK ds d fun n => P (.dat (.int n)) c2 := rfl
theorem x_lsk {ds : List PyData} {k : List PyData → Prop} : LsK (.list ds) k = k ds := rfl
end
end DL
set_option maxHeartbeats 2000000
namespace DL
open PySem PySem.Spec PyProof.Rows L2
section
variable {X : Cx} {E : En} {a b : Expr} {da db : DE} {pos : Pos} {k : Nat} {A' : Around}
end
end DL
set_option maxHeartbeats 2000000
namespace DL
open PySem PySem.Spec PyProof.Rows L2
theorem DpAll.dropLast {K : PySem.W.Frag} {H : Hp} {vs : List V} {ds : List PyData} (h : DpAll K H vs ds) : DpAll K H vs.dropLast ds.dropLast := by
  rw [List.dropLast_eq_take, List.dropLast_eq_take, ← h.len]
  exact h.take _
def sPop (i : Nat) : DS := fun D env c => match env[i]? with
  | some (some (.own l)) => 0 < l.length ∧ D.nx (env.set i (some (.own l.dropLast))) c
  | _ => False
def dOwnNn (i : Nat) (db : DE) : DE := fun env c P => match env[i]? with
  | some (some (.own l)) => db env c fun y c1 => datK y fun e => rdNeNil (.list l) e fun z => P (.dat z) c1
  | _ => False
theorem ownNn_up {K : PySem.W.Frag} {E : En} {db : DE} {i : Nat} {σ : L2.St} {H : Hp} {Q : VK} (h : up K E (dOwnNn i db) σ H Q) : tOp (fun x y H Q => rNeLen K x y H Q ∨ rNeD K x y H Q) (tVar i) (up K E db) σ H Q := by
  obtain ⟨g, env, c, P, rel, q, k⟩ := h
  unfold dOwnNn at q
  split at q
  · rename_i l e
    obtain ⟨v, e1, p, xs, rfl, h3, h4, h5, h6⟩ := rel.sl i _ e
    refine ⟨_, e1, g, env, c, _, rel, q, fun y c1 g1 H1 w p1 m1 r1 o1 f1 => ?_⟩
    cases y with
    | deck => exact p1.elim
    | exc _ => exact p1.elim
    | ob _ => exact p1.elim
    | own l => exact p1.elim
    | dat d =>
      have o1 : Dp K g1.F w d := o1
      have p1 : rdNeNil (.list l) d fun z => P (.dat z) c1 := p1
      have h5' := m1.fr.k p _ h5 (ntL h4)
      have h6' := dpAll_mono m1.f h6
      have D1 : Dp K H1 (.ref p) (.list l) := .lst (.of h5') (dpAll_mono r1.ex h6')
      cases d with
      | list es =>
        cases es with
        | cons _ _ => exact p1.elim
        | nil =>
          have p1 : P (.dat (.bool (!l.isEmpty))) c1 := p1
          cases l with
          | nil => exact .inr ⟨_, _, dp_l2 D1 rfl, dp_l2 (dp_mono r1.ex o1) rfl, rfl, rfl, k _ c1 g1 H1 _ p1 m1 r1 (.bl _) trivial⟩
          | cons z zs =>
            cases o1 with
            | lst s2 a2 =>
              cases a2
              refine .inl ⟨_, _, _, _, rfl, rfl, .of h5', r1.ex.seq s2, ?_, k _ c1 g1 H1 _ p1 m1 r1 (.bl _) trivial⟩
              rw [DpAll.len h6]
              simp
      | _ => exact p1.elim
  · exact q.elim
theorem dt_ownNn {X : Cx} {E : En} {b : Expr} {db : DE} {p pos : Pos} (i : Nat) {x : Str} {k : Nat} (hr : Room k X.A) (hb : DPE X E b db) (hN : X.N[i]? = some x := by rfl) (hv : Vis X.env.scope x := by first | exact Or.inl rfl | exact Or.inr (Or.inl rfl) | exact Or.inr (Or.inr rfl)) (h1 : (x == ("__debug__" : Str)) = false := by decide)
    (h2 : (x == ("__classdict__" : Str)) = false := by decide) (hm : behindInMarks .NotEq b = false := by first | exact nobehind _ (by decide) (by decide) | rfl) : DPT X E (.Compare (.Name x p) [.NotEq] [b] pos) (tVal (dOwnNn i db)) :=
  pt_imp (pt_cmpR (op_or (op_neLen (room_line hr)) (op_neD hr.units)) (pe_var hN hv h1 h2) hb hm) fun _ _ _ h => tB_up (fun _ _ _ h => ownNn_up h) h
theorem x_ownNn {i : Nat} {db : DE} {env : Ev} {c : Ct} {P : Vl → Ct → Prop} : dOwnNn i db env c P = OwnK env i fun l => db env c fun y c1 => datK y fun e => rdNeNil (.list l) e fun z => P (.dat z) c1 := rfl
theorem x_pop {i : Nat} {D : DEnds} {env : Ev} {c : Ct} : sPop i D env c = OwnK env i fun l => Sq (0 < l.length) (SetK env i (some (.own l.dropLast)) fun env' => D.nx env' c) {} := rfl
end DL
set_option maxHeartbeats 2000000
namespace DL
open PySem PySem.Spec PyProof.Rows L2
def sFin (db df : DS) : DS := fun D env c => db { nx := fun e c' => df D e c', rt := fun _ _ => False, bk := fun _ _ => False, ct := fun _ _ => False } env c
theorem x_fin {db df : DS} {D : DEnds} {env : Ev} {c : Ct} : sFin db df D env c = db { nx := fun e c' => df D e c', rt := fun _ _ => False, bk := fun _ _ => False, ct := fun _ _ => False } env c := rfl
end DL
set_option maxHeartbeats 2000000
namespace DL
open PySem PySem.Spec PyProof.Rows L2
def pairK (x : Vl) (k : PyData → PyData → Prop) : Prop := match x with
  | .dat (.tuple [a, b]) => k a b
  | _ => False
def sFld2 (Cs : List Addr) (f g : Str) (de1 de2 dv : DE) : DS := fun D env c => dv env c fun x c1 => pairK x fun d1 d2 => de1 env c1 fun y c2 => obK y fun a => setS Cs f c2 a (.dat d1) fun c3 => de2 env c3 fun z c4 => obK z fun b => setS Cs g c4 b (.dat d2) fun c5 => D.nx env c5
section
variable {X : Cx} {E : En} {o1 o2 value : Expr} {f h : Str} {pos p1 p2 p3 : Pos} {de1 de2 dv : DE} {Cs : List Addr} {kk : Nat}
end
theorem x_pairK {a b : PyData} {k : PyData → PyData → Prop} : pairK (.dat (.tuple [a, b])) k = k a b := rfl
theorem x_fld2 {Cs : List Addr} {f g : Str} {de1 de2 dv : DE} {D : DEnds} {env : Ev} {c : Ct} : sFld2 Cs f g de1 de2 dv D env c = dv env c fun x c1 => pairK x fun d1 d2 => de1 env c1 fun y c2 => obK y fun a => setS Cs f c2 a (.dat d1) fun c3 => de2 env c3 fun z c4 => obK z fun b => setS Cs g c4 b (.dat d2) fun c5 => D.nx env c5 := rfl
end DL
set_option maxHeartbeats 2000000
namespace DL
open PySem PySem.Spec PyProof.Rows L2
def isLT : PyData → Bool
  | .list _ => true
  | .tuple _ => true
  | _ => false
section
variable {X : Cx} {E : En} {a : Expr} {da : DE} {pos p p2 p3 tpos : Pos} {x1 x2 : Str} {T1 T2 : String} {kk : Nat} {f : PyData → Bool}
end
theorem x_isLT0 {l : List PyData} : isLT (.list l) = true := rfl
theorem x_isLT1 {l : List PyData} : isLT (.tuple l) = true := rfl
def rdInK (l : List (Str × Int)) : PyData → (PyData → Prop) → Prop := fun d P => match d with
  | .str z => P (.bool (l.lookup z).isSome)
  | _ => False
section
variable {X : Cx} {E : En} {a : Expr} {da : DE} {pos p2 : Pos} {x : Str} {l : List (Str × Int)}
end
theorem x_inK {l : List (Str × Int)} {z : Str} {P : PyData → Prop} : rdInK l (.str z) P = P (.bool (l.lookup z).isSome) := rfl
section
variable {cs : List Ck} {fn : List He5.DefA} {ts : List He.Tab} {w : World} {K : PySem.W.Frag}
end
end DL
set_option maxHeartbeats 2000000
namespace DL
open PySem PySem.Spec PyProof.Rows L2
section
variable {P : Program} {w : World} {K : PySem.W.Frag} {mg : Str → Option Value} {base : Heap}
end
end DL
set_option maxHeartbeats 2000000
namespace HandSHeadRun
noncomputable section
open PySem PySem.W PySem.Calls PyProof.Rows
end
end HandSHeadRun
namespace DL
open PySem PySem.Spec PyProof.Rows L2
end DL
set_option maxHeartbeats 2000000
namespace DL
open PySem PySem.Spec PyProof.Rows L2
def enumK (k0 : Int) (ds : List PyData) : List PyData := (List.range ds.length).map fun i => .tuple [.int (k0 + (i : Nat)), ds.getD i .none]
def wEnumK (k0 : Int) (da : DA) : DI := fun env c P => da env c fun xs c1 => datsK xs fun ds => match ds with
  | [.list xs] => P (enumK k0 xs) c1
  | _ => False
section
variable {X : Cx} {E : En} {a : Expr} {pos : Pos}
end
def rdCountS : Str → Str → (PyData → Prop) → Prop := fun a b P => P (.int (Txt.count a b))
section
variable {X : Cx} {E : En} {o e : Expr} {da db : DE} {pos apos : Pos}
end
section
variable {dr : DA} {env : Ev} {c : Ct} {PF : List PyData → Ct → Prop} {PD : PyData → Prop} {a b : Str} {k0 : Int}
theorem x_wEK : wEnumK k0 dr env c PF = dr env c fun xs c1 => datsK xs fun ds => match ds with
  | [.list xs] => PF (enumK k0 xs) c1
  | _ => False := rfl
theorem x_countS : rdCountS a b PD = PD (.int (Txt.count a b)) := rfl
end
def rdIxS : PyData → PyData → (PyData → Prop) → Prop := fun d e P => match d, e with
  | .str z, .int i => z.length ≤ sizeLine ∧ ∃ c, atI z.cps.toList i = some c ∧ P (.str ⟨#[c]⟩)
  | _, _ => False
section
variable {PD : PyData → Prop}
theorem x_ixS {z : Str} {i : Int} : rdIxS (.str z) (.int i) PD = Sq (z.length ≤ sizeLine) (∃ c, atI z.cps.toList i = some c ∧ PD (.str ⟨#[c]⟩)) {} := rfl
end
def sTryU (l : List TrE) (tb : XW → DS) : DS := fun D env c => tb (fun x fs env' c' => trW x fs env' c' D l) D env c
section
variable {X : Cx} {E : En} {l : List TrE} {tb : XW → DS} {body : List Stmt} {h0 : ExceptHandler} {hds : List ExceptHandler} {pos : Pos}
end
section
variable {DD : DEnds} {env : Ev} {c : Ct} {l : List TrE} {tb : XW → DS} {x : Str} {fs : List (Str × PyData)} {ts : Addr → List (Str × PyData) → DS}
theorem x_tryU : sTryU l tb DD env c = tb (fun x fs env' c' => trW x fs env' c' DD l) DD env c := rfl
end
end DL
set_option maxHeartbeats 2000000
namespace PySem
namespace HandSPX
section
variable {M : Model} {A : Around} {E : Value → Shared → Prop} {s : Shared} {Z : Obj → Prop} {base : Heap} {env : Env} {outer l : List Env} {L L' e : Addr}
end
end HandSPX
end PySem
namespace L2
open PySem PySem.Spec PyProof.Rows
end L2
namespace L2
open PySem PySem.Spec PyProof.Rows
section
variable {X : Cx} {pins : List (Addr × Obj)} {σ : St} {H : Hp} {s : Shared}
end
end L2
namespace DL
open PySem PySem.Spec PyProof.Rows L2
section
variable {X : Cx} {E : En} {tg a elt : Expr} {pos : Pos} {Px : Xd}
end
section
variable {P : Program} {w : World} {K : PySem.W.Frag} {mg : Str → Option Value} {base : Heap}
end
end DL
set_option maxHeartbeats 2000000
namespace DL
open PySem PySem.Spec PyProof.Rows L2
def sFinX (W : XW) (tb : XW → DS) (df : DS) : DS := fun D env c => tb (fun x fs env' c' => df { nx := fun e2 c2 => W x fs e2 c2, rt := fun _ _ => False, bk := fun _ _ => False, ct := fun _ _ => False } env' c') { nx := fun e c' => df D e c', rt := fun _ _ => False, bk := fun _ _ => False, ct := fun _ _ => False } env c
section
variable {X : Cx} {E : En} {W : XW} {b₀ f₀ : Stmt} {bs fs : List Stmt} {pos : Pos} {tb : XW → DS} {df : DS}
theorem x_finX {D : DEnds} {env : Ev} {c : Ct} : sFinX W tb df D env c = tb (fun x fs env' c' => df { nx := fun e2 c2 => W x fs e2 c2, rt := fun _ _ => False, bk := fun _ _ => False, ct := fun _ _ => False } env' c') { nx := fun e c' => df D e c', rt := fun _ _ => False, bk := fun _ _ => False, ct := fun _ _ => False } env c := rfl
end
end DL
set_option maxHeartbeats 2000000
namespace DL
open PySem PySem.Spec PyProof.Rows L2

section
variable {X : Cx} {C f : Addr} {sp : List V → L2.St → Hp → VK → Prop} {m x : Str} {e : Expr} {es : List Expr} {p pos apos : Pos} {t : TA}
end
section
variable {X : Cx} {E : En} {k n : Nat} {spec : Spec} {spx : SpecX} {m x : Str} {e : Expr} {es : List Expr} {p pos apos : Pos} {da : DA} {W : XW}
end
def isNV (x : Vl) (k : Bool → Prop) : Prop := match x with
  | .dat .none => k true
  | .dat _ => k false
  | .ob _ => k false
  | _ => False
def dIsNV (da : DE) : DE := fun env c P => da env c fun x c1 => isNV x fun b => P (.dat (.bool b)) c1
section
variable {X : Cx} {E : En} {a : Expr} {da : DE} {pos : Pos}
end
theorem x_isNV0 {k : Bool → Prop} : isNV (.dat .none) k = k true := rfl
theorem x_isNV1 {a : Addr} {k : Bool → Prop} : isNV (.ob a) k = k false := rfl
theorem x_isNV {da : DE} {env : Ev} {c : Ct} {P : Vl → Ct → Prop} : dIsNV da env c P = da env c fun x c1 => isNV x fun b => P (.dat (.bool b)) c1 := rfl
theorem VOks.get {K : PySem.W.Frag} {g : Gh} {H : Hp} : ∀ {vs : List V} {xs : List Vl} {i : Nat} {x : Vl}, VOks K g H vs xs → xs[i]? = some x → ∃ v, vs[i]? = some v ∧ VOk K g H v x
  | [], [], _, _, _, e => by simp at e
  | v :: vs, x :: xs, 0, y, h, e => by
    simp at e
    subst e
    exact ⟨v, rfl, h.1⟩
  | v :: vs, x :: xs, i + 1, y, h, e => by
    obtain ⟨u, h1, h2⟩ := VOks.get (i := i) h.2 (by simpa using e)
    exact ⟨u, by simpa using h1, h2⟩
  | [], _ :: _, _, _, h, _ => h.elim
  | _ :: _, [], _, _, h, _ => h.elim
def pickK (xs : List Vl) (i : Int) (k : Vl → Prop) : Prop := ∃ x, atI xs i = some x ∧ k x
def dPick (da : DA) (di : DE) : DE := fun env c P => da env c fun xs c1 => xs.length ≤ 1000 ∧ di env c1 fun y c2 => datK y fun d => intK d fun i => pickK xs i fun x => P x c2
section
variable {X : Cx} {E : En} {es : List Expr} {b : Expr} {da : DA} {di : DE} {pos pos2 : Pos}
end
def isiS (L : List (Addr × Bool)) (c : Ct) (a : Addr) (k : Bool → Prop) : Prop := ∃ o, c.os a = some o ∧ findS o.cls L k
def dIsiO (L : List (Addr × Bool)) (da : DE) : DE := fun env c P => da env c fun x c1 => obK x fun a => isiS L c1 a fun b => P (.dat (.bool b)) c1
section
variable {X : Cx} {E : En} {a : Expr} {da : DE} {pos p p2 : Pos} {x : Str} {L : List (Addr × Bool)}
end
theorem x_isiS {L : List (Addr × Bool)} {c : Ct} {a : Addr} {k : Bool → Prop} : isiS L c a k = AtK c a fun o => findS o.cls L k := rfl
theorem x_isiO {L : List (Addr × Bool)} {da : DE} {env : Ev} {c : Ct} {P : Vl → Ct → Prop} : dIsiO L da env c P = da env c fun x c1 => obK x fun a => isiS L c1 a fun b => P (.dat (.bool b)) c1 := rfl
end DL
set_option maxHeartbeats 2000000
namespace DL
open PySem PySem.Spec PyProof.Rows L2

section
variable {prog : Program} {w : World} {A : Around} {E : Value → Shared → Prop} {s : Shared} {K : PySem.W.Frag} {x y C D f L : Addr} {h₀ : Heap} {m : Str → Option Value} {ox oy : Obj} {od od' : Option Obj}
end
section
variable {X : Cx} {ι : Type} {C f : ι → Addr} {sp : ι → Sp}
end
def eqBk (P : Vl → Ct → Prop) : Vl → Ct → Prop := fun v c => match v with
  | .dat (.bool r) => P (.dat (.bool r)) c
  | _ => False
def eqS (L : List (Addr × Spec)) (c : Ct) (a b : Addr) (P : Vl → Ct → Prop) : Prop := ∃ o o', c.os a = some o ∧ c.os b = some o' ∧ findS o.cls L (fun sp => sp [.ob a, .ob b] c (eqBk P)) ∧ findS o'.cls L (fun sp => sp [.ob b, .ob a] c (eqBk P))
def dEqO (L : List (Addr × Spec)) (da db : DE) : DE := fun env c P => da env c fun x c1 => db env c1 fun y c2 => obK x fun a => obK y fun b => eqS L c2 a b P
section
variable {X : Cx} {E : En} {k : Nat} {L : List (Addr × Spec)} {LC : List Addr} {a b : Expr} {da db : DE} {pos : Pos}
end
/-- for the runner -/
theorem x_eqOS {L : List (Addr × Spec)} {c : Ct} {a b : Addr} {P : Vl → Ct → Prop} : eqS L c a b P = AtK c a fun o => AtK c b fun o' => (findS o.cls L (fun sp => sp [.ob a, .ob b] c (eqBk P)) ∧ findS o'.cls L (fun sp => sp [.ob b, .ob a] c (eqBk P))) := by
  unfold eqS AtK
  exact propext ⟨fun ⟨o, o', h1, h2, h3, h4⟩ => ⟨o, h1, o', h2, h3, h4⟩, fun ⟨o, h1, o', h2, h3, h4⟩ => ⟨o, o', h1, h2, h3, h4⟩⟩
theorem x_eqO {L : List (Addr × Spec)} {da db : DE} {env : Ev} {c : Ct} {P : Vl → Ct → Prop} : dEqO L da db env c P = da env c fun x c1 => db env c1 fun y c2 => obK x fun a => obK y fun b => eqS L c2 a b P := rfl
theorem x_eqBk {r : Bool} {c : Ct} {P : Vl → Ct → Prop} : eqBk P (.dat (.bool r)) c = P (.dat (.bool r)) c := rfl
open He (eqO eqO_ok ba ga ma)
theorem x_pick {da : DA} {di : DE} {env : Ev} {c : Ct} {P : Vl → Ct → Prop} : dPick da di env c P = da env c fun xs c1 => Sq (xs.length ≤ 1000) (di env c1 fun y c2 => datK y fun d => intK d fun i => pickK xs i fun x => P x c2) {} := rfl
end DL
set_option maxHeartbeats 2000000
namespace DL
open PySem PySem.Spec PyProof.Rows L2
class NEZ (Z : Str → Addr) : Prop where
  ne : Z "Desk" ≠ Z "LogDesk"
def lgT (l : LgS) : PyData := .tuple (l.ls.map PyData.str)
def dkg (Z : Str → Addr) (g : Lg) (b : Bool) (n : Nat) (sts es : List PyData) : Ob := match g with
  | none => ⟨Z "Desk", [("states", .dat (.tuple sts)), ("n", .dat (.int (n : Int))), ("standing", .dat (.tuple es)), ("busy", .dat (.bool b))]⟩
  | some l => ⟨Z "LogDesk", [("states", .dat (.tuple sts)), ("n", .dat (.int (n : Int))), ("standing", .dat (.tuple es)), ("busy", .dat (.bool b)), ("noted", .dat (.int l.k)), ("kept", .dat (lgT l))]⟩
section
variable {Z : Str → Addr} {g : Lg} {b b' : Bool} {n : Nat} {sts es x : List PyData} {A : Prop} {m : Str} {k : Fv → Prop} {α : Type} {s : α} {kk : α → Prop}
theorem x_gInC : InC (dkg Z g b n sts es).cls [Z "Desk", Z "LogDesk"] A = A := by
  cases g with
  | none => exact x_inC1
  | some l => exact x_inC2
theorem x_gFind [h : NEZ Z] : findS (dkg Z g b n sts es).cls [(Z "Desk", s), (Z "LogDesk", s)] kk = kk s := by
  cases g with
  | none => exact x_find1
  | some l => exact (x_find2 (Ne.symm h.ne)).trans x_find1
theorem x_gInC0 {Cs : List Addr} : InC (dkg Z none b n sts es).cls (Z "Desk" :: Cs) A = A := x_inC1
theorem x_gInC1 {l : LgS} : InC (dkg Z (some l) b n sts es).cls [Z "LogDesk"] A = A := x_inC1
theorem x_gFind0 {R : List (Addr × α)} : findS (dkg Z none b n sts es).cls ((Z "Desk", s) :: R) kk = kk s := x_find1
theorem x_gFind1 {l : LgS} {R : List (Addr × α)} : findS (dkg Z (some l) b n sts es).cls ((Z "LogDesk", s) :: R) kk = kk s := x_find1
theorem x_gFind2 [h : NEZ Z] {l : LgS} {s' : α} : findS (dkg Z (some l) b n sts es).cls [(Z "Desk", s'), (Z "LogDesk", s)] kk = kk s := (x_find2 (Ne.symm h.ne)).trans x_find1
theorem x_gNoF (h1 : m ≠ "states") (h2 : m ≠ "n") (h3 : m ≠ "standing") (h4 : m ≠ "busy") (h5 : m ≠ "noted") (h6 : m ≠ "kept") : NoF (dkg Z g b n sts es).fs m A = A := by
  cases g with
  | none =>
    unfold dkg
    rw [x_noF1 h1, x_noF1 h2, x_noF1 h3, x_noF1 h4, x_noF0]
  | some l =>
    unfold dkg
    rw [x_noF1 h1, x_noF1 h2, x_noF1 h3, x_noF1 h4, x_noF1 h5, x_noF1 h6, x_noF0]
theorem x_gStates : LookK (dkg Z g b n sts es).fs "states" k = k (.dat (.tuple sts)) := by
  cases g <;> exact x_look1
theorem x_gN : LookK (dkg Z g b n sts es).fs "n" k = k (.dat (.int (n : Int))) := by
  cases g <;> exact (x_look2 (by decide)).trans x_look1
theorem x_gStanding : LookK (dkg Z g b n sts es).fs "standing" k = k (.dat (.tuple es)) := by
  cases g <;> exact (x_look2 (by decide)).trans ((x_look2 (by decide)).trans x_look1)
theorem x_gBusy : LookK (dkg Z g b n sts es).fs "busy" k = k (.dat (.bool b)) := by
  cases g <;> exact (x_look2 (by decide)).trans ((x_look2 (by decide)).trans ((x_look2 (by decide)).trans x_look1))
theorem x_gSq {t : Tg A} : Sq ((dkg Z g b n sts es).fs.length < 1000) A t = A := by
  have h : (dkg Z g b n sts es).fs.length < 1000 := by
    cases g
    · show (4 : Nat) < 1000
      decide
    · show (6 : Nat) < 1000
      decide
  exact propext ⟨fun z => z.2, fun z => ⟨h, z⟩⟩
theorem x_gPut1 : (⟨(dkg Z g b n sts es).cls, putFv "states" (.dat (.tuple x)) (dkg Z g b n sts es).fs⟩ : Ob) = dkg Z g b n x es := by
  cases g <;> rfl
theorem x_gPut2 : (⟨(dkg Z g b n sts es).cls, putFv "standing" (.dat (.tuple x)) (dkg Z g b n sts es).fs⟩ : Ob) = dkg Z g b n sts x := by
  cases g <;> rfl
theorem x_gPut3 : (⟨(dkg Z g b n sts es).cls, putFv "busy" (.dat (.bool b')) (dkg Z g b n sts es).fs⟩ : Ob) = dkg Z g b' n sts es := by
  cases g <;> rfl
theorem x_lkPut1 {f : Str} {v : Fv} : ∀ {fs : List (Str × Fv)}, LookK (putFv f v fs) f k = k v
  | [] => x_look1
  | (f', w) :: fs => by
    show LookK (if f' = f then (f', v) :: fs else (f', w) :: putFv f v fs) f k = k v
    by_cases h : f' = f
    · rw [if_pos h, h]
      exact x_look1
    · rw [if_neg h, x_look2 (Ne.symm h)]
      exact x_lkPut1
theorem x_lkPut2 {f f' : Str} {v : Fv} (h : f ≠ f') : ∀ {fs : List (Str × Fv)}, LookK (putFv f' v fs) f k = LookK fs f k
  | [] => x_look2 h
  | (f2, w) :: fs => by
    show LookK (if f2 = f' then (f2, v) :: fs else (f2, w) :: putFv f' v fs) f k = LookK ((f2, w) :: fs) f k
    by_cases h2 : f2 = f'
    · rw [if_pos h2, h2, x_look2 h, x_look2 h]
    · rw [if_neg h2]
      by_cases h3 : f = f2
      · rw [← h3, x_look1, x_look1]
      · rw [x_look2 h3, x_look2 h3, x_lkPut2 h]
theorem look_put {f f' : Str} {v : Fv} (h : f ≠ f') : ∀ {fs : List (Str × Fv)}, (putFv f' v fs).lookup f = fs.lookup f
  | [] => by
    show List.lookup f [(f', v)] = none
    rw [List.lookup_cons, str_beq h]
    rfl
  | (f2, w) :: fs => by
    show List.lookup f (if f2 = f' then (f2, v) :: fs else (f2, w) :: putFv f' v fs) = _
    by_cases h2 : f2 = f'
    · rw [if_pos h2, h2, List.lookup_cons, List.lookup_cons, str_beq h]
    · rw [if_neg h2, List.lookup_cons, List.lookup_cons, look_put h]
theorem x_nofPut {f f' : Str} {v : Fv} {fs : List (Str × Fv)} (h : f ≠ f') : NoF (putFv f' v fs) f A = NoF fs f A := by
  unfold NoF
  rw [look_put h]
theorem putFv_le {f : Str} {v : Fv} : ∀ {fs : List (Str × Fv)}, (putFv f v fs).length ≤ fs.length + 1
  | [] => Nat.le_refl _
  | (f', w) :: fs => by
    show (if f' = f then (f', v) :: fs else (f', w) :: putFv f v fs).length ≤ _
    by_cases h : f' = f
    · rw [if_pos h]
      simp
    · rw [if_neg h, List.length_cons, List.length_cons]
      exact Nat.succ_le_succ putFv_le
theorem dkg_len : (dkg Z g b n sts es).fs.length ≤ 6 := by
  cases g
  · show (4 : Nat) ≤ 6
    decide
  · show (6 : Nat) ≤ 6
    decide
theorem x_gSq1 {f : Str} {v : Fv} {t : Tg A} : Sq ((putFv f v (dkg Z g b n sts es).fs).length < 1000) A t = A :=
  propext ⟨fun z => z.2, fun z => ⟨by have := dkg_len (Z := Z) (g := g) (b := b) (n := n) (sts := sts) (es := es); have := putFv_le (f := f) (v := v) (fs := (dkg Z g b n sts es).fs); omega, z⟩⟩
theorem x_gSq2 {f f' : Str} {v v' : Fv} {t : Tg A} : Sq ((putFv f' v' (putFv f v (dkg Z g b n sts es).fs)).length < 1000) A t = A :=
  propext ⟨fun z => z.2, fun z => ⟨by have := dkg_len (Z := Z) (g := g) (b := b) (n := n) (sts := sts) (es := es); have := putFv_le (f := f) (v := v) (fs := (dkg Z g b n sts es).fs); have := putFv_le (f := f') (v := v') (fs := putFv f v (dkg Z g b n sts es).fs); omega, z⟩⟩
theorem x_gPut12 {y : List PyData} : (⟨(dkg Z g b n sts es).cls, putFv "standing" (.dat (.tuple y)) (putFv "states" (.dat (.tuple x)) (dkg Z g b n sts es).fs)⟩ : Ob) = dkg Z g b n x y := by
  cases g <;> rfl
theorem x_gPut21 {y : List PyData} : (⟨(dkg Z g b n sts es).cls, putFv "states" (.dat (.tuple x)) (putFv "standing" (.dat (.tuple y)) (dkg Z g b n sts es).fs)⟩ : Ob) = dkg Z g b n x y := by
  cases g <;> rfl
theorem x_gPut213 {y : List PyData} : (⟨(dkg Z g b n sts es).cls, putFv "busy" (.dat (.bool b')) (putFv "states" (.dat (.tuple x)) (putFv "standing" (.dat (.tuple y)) (dkg Z g b n sts es).fs))⟩ : Ob) = dkg Z g b' n x y := by
  cases g <;> rfl
end
end DL
set_option maxHeartbeats 2000000
namespace DL
open PySem PySem.Spec PyProof.Rows L2
def isLst : PyData → Bool
  | .list _ => true
  | _ => false
def isiVK (f : PyData → Bool) (L : List Addr) (x : Vl) (c : Ct) (k : Bool → Prop) : Prop := match x with
  | .dat d => k (f d)
  | .ob a => AtK c a fun o => InC o.cls L (k false)
  | _ => False
def dIsiV (f : PyData → Bool) (L : List Addr) (da : DE) : DE := fun env c P => da env c fun x c1 => isiVK f L x c1 fun b => P (.dat (.bool b)) c1
section
variable {X : Cx} {E : En} {a : Expr} {da : DE} {pos : Pos} {L : List Addr}
end
theorem x_isiV {f : PyData → Bool} {L : List Addr} {da : DE} {env : Ev} {c : Ct} {P : Vl → Ct → Prop} : dIsiV f L da env c P = da env c fun x c1 => isiVK f L x c1 fun b => P (.dat (.bool b)) c1 := rfl
theorem x_isiVd {f : PyData → Bool} {L : List Addr} {d : PyData} {c : Ct} {k : Bool → Prop} : isiVK f L (.dat d) c k = k (f d) := rfl
theorem x_isiVo {f : PyData → Bool} {L : List Addr} {a : Addr} {c : Ct} {k : Bool → Prop} : isiVK f L (.ob a) c k = AtK c a fun o => InC o.cls L (k false) := rfl
theorem x_isLst0 {l : List PyData} : isLst (.list l) = true := rfl
end DL
set_option maxHeartbeats 2000000
namespace DL
open PySem PySem.Spec PyProof.Rows L2
end DL
set_option maxHeartbeats 2000000
namespace DL
open PySem PySem.Spec PyProof.Rows L2
section
variable {P : Program} {w : World} {K : PySem.W.Frag} {mg : Str → Option Value} {base : Heap}
end
section
variable {X : Cx} {k : Nat} {f : Addr} {fd : FuncData} {ps : List Str} {sp : Sp} {x : Str} {p pos : Pos} {e : Expr} {es : List Expr} {t : TA} {W : WX}
end
structure DefXN (P : Program) (w : World) (K : PySem.W.Frag) (mg : Str → Option Value) (base : Heap) (k : Nat) (x : Str) (n : Nat) (spec : SpecX) : Prop where
  ex : ∃ f fd ps, FnXN P w K mg base k f fd ps (spDX K mg n spec) ∧ mg x = some (.ref f) ∧ PySem.W.keepIn K (.ref f) = true ∧ Binds K fd ps []
section
variable {X : Cx} {E : En} {k n : Nat} {spec : SpecX} {x : Str} {p pos : Pos} {e : Expr} {es : List Expr} {dr : DA} {W : XW}
end
section
variable {P : Program} {w : World} {K : PySem.W.Frag} {mg : Str → Option Value} {base : Heap}
end
section
variable {X : Cx} {k : Nat} {f C : Addr} {fd : FuncData} {ps : List Str} {sp : Sp} {W : WX} {pins : List (Addr × Obj)} {s : Shared} {σ : L2.St} {H : Hp} {us : List Value} {vs : List V} {Q : VK}
end
section
variable {X : Cx} {E : En} {k n : Nat} {L : List (Addr × Spec)} {LX : List (Addr × SpecX)} {m : Str} {o e : Expr} {es : List Expr} {pos apos : Pos} {do_ : DE} {da : DA} {W : XW}
end
section
variable {P : Program} {w : World} {K : PySem.W.Frag} {mg : Str → Option Value} {base : Heap}
end
section
variable {X : Cx} {o e : Expr} {es : List Expr} {to te : TE} {ta : TA} {f : Str} {p p' pos : Pos}
end
section
variable {X : Cx} {E : En} {x f : Str} {p pos pos' : Pos} {e : Expr} {da : DE} {W : XW} {k : Nat}
end
section
variable {X : Cx} {C : Addr} {bmB : List Value} {B newId initId : String}
end
section
variable {X : Cx} {E : En} {x : Str} {p pos pos' : Pos} {W : XW}
end
theorem cx_up {P : Program} {w : World} {outer : List Env} {H : Hp} {s : Shared} {E : XK} {u : Value} {s' : Shared} (h : L2N.CX P w outer H s E u s') : L2.CX P w outer H s E u s' := by
  obtain ⟨a, B, H', cls, d, e, fl, r⟩ := h
  exact ⟨a, B, H', cls, d, e, L2H.flyingZ_imp (fun o z => z.zc) fl, r⟩
section
variable {P : Program} {w : World} {K : PySem.W.Frag} {mg : Str → Option Value} {base : Heap}
theorem FnXN.up {k : Nat} {f : Addr} {fd : FuncData} {ps : List Str} {sp : Sp} (F : FnXN P w K mg base k f fd ps sp) : FnX P w K mg base k f fd ps sp :=
  ⟨F.len, fun A outer s H ag us vs Q E hr hgd e0 bd rv hs => codeAny_mono (F.run A outer s H ag us vs Q E hr hgd e0 bd rv hs) fun r s' z => by
    match r, z with
    | .error e, z => exact cx_up z
    | .ok .next, z => exact z
    | .ok .brk, z => exact z
    | .ok .cont, z => exact z
    | .ok (.ret u), z => exact z⟩
theorem DefXN.up {k n : Nat} {x : Str} {spec : SpecX} (F : DefXN P w K mg base k x n spec) : DefX P w K mg base k x n spec := by
  obtain ⟨f, fd, ps, F, r⟩ := F
  exact ⟨f, fd, ps, F.up, r⟩
theorem MDefXN.up {k n : Nat} {C : Addr} {m : Str} {spec : SpecX} (M : MDefXN P w K mg base k C m n spec) : MDefX P w K mg base k C m n spec := by
  obtain ⟨c, f, fd, ps, F, r⟩ := M
  exact ⟨c, f, fd, ps, F.up, r⟩
end
end DL
namespace DL
open PySem PySem.Spec PyProof.Rows L2
section
variable {X : Cx} {body : List Stmt} {h0 : ExceptHandler} {hds : List ExceptHandler} {pos : Pos} {tb : WX → TS} {Wout : WX}
end
section
variable {X : Cx} {E : En} {W : XW} {l : List TrE} {tb : XW → DS} {body : List Stmt} {h0 : ExceptHandler} {hds : List ExceptHandler} {pos : Pos}
end
section
variable {X : Cx} {E : En} {x f : Str} {p pos pos' : Pos} {e : Expr} {da : DE} {W : XW}
end
end DL
set_option maxHeartbeats 2000000
namespace DL
open PySem PySem.Spec PyProof.Rows L2
section
variable {P : Program} {w : World} {K : PySem.W.Frag} {mg : Str → Option Value} {base : Heap}
end
end DL
set_option maxHeartbeats 2000000
namespace DL
open PySem PySem.Spec PyProof.Rows L2
section
variable {prog : Program} {w : World} {A : Around} {E : Value → Shared → Prop} {s : Shared} {K : PySem.W.Frag} {x y C D f L : Addr} {h₀ : Heap} {m : Str → Option Value} {ox oy : Obj} {od od' : Option Obj} {name : Str} {id : String}
end
end DL
set_option maxHeartbeats 2000000
namespace DL
open PySem PySem.Spec PyProof.Rows L2
section
variable {prog : Program} {w : World} {A : Around} {E : Value → Shared → Prop} {s : Shared} {K : PySem.W.Frag} {x y C D f L : Addr} {h₀ : Heap} {m : Str → Option Value} {ox oy : Obj} {od od' : Option Obj}
end
section
variable {X : Cx} {ι : Type} {k : Nat} {C f : ι → Addr} {fd : ι → FuncData} {ps : ι → List Str} {sp : ι → Sp}
end
def neBk (P : Vl → Ct → Prop) : Vl → Ct → Prop := fun v c => match v with
  | .dat (.bool r) => P (.dat (.bool (!r))) c
  | _ => False
def neS (L : List (Addr × Spec)) (c : Ct) (a b : Addr) (P : Vl → Ct → Prop) : Prop := ∃ o o', c.os a = some o ∧ c.os b = some o' ∧ findS o.cls L (fun sp => sp [.ob a, .ob b] c (neBk P)) ∧ findS o'.cls L (fun sp => sp [.ob b, .ob a] c (neBk P))
def dNeO (L : List (Addr × Spec)) (da db : DE) : DE := fun env c P => da env c fun x c1 => db env c1 fun y c2 => obK x fun a => obK y fun b => neS L c2 a b P
section
variable {X : Cx} {E : En} {k : Nat} {L : List (Addr × Spec)} {LC : List Addr} {a b : Expr} {da db : DE} {pos : Pos}
end
/-- for the runner -/
theorem x_neOS {L : List (Addr × Spec)} {c : Ct} {a b : Addr} {P : Vl → Ct → Prop} : neS L c a b P = AtK c a fun o => AtK c b fun o' => (findS o.cls L (fun sp => sp [.ob a, .ob b] c (neBk P)) ∧ findS o'.cls L (fun sp => sp [.ob b, .ob a] c (neBk P))) := by
  unfold neS AtK
  exact propext ⟨fun ⟨o, o', h1, h2, h3, h4⟩ => ⟨o, h1, o', h2, h3, h4⟩, fun ⟨o, h1, o', h2, h3, h4⟩ => ⟨o, o', h1, h2, h3, h4⟩⟩
theorem x_neO {L : List (Addr × Spec)} {da db : DE} {env : Ev} {c : Ct} {P : Vl → Ct → Prop} : dNeO L da db env c P = da env c fun x c1 => db env c1 fun y c2 => obK x fun a => obK y fun b => neS L c2 a b P := rfl
theorem x_neBk {r : Bool} {c : Ct} {P : Vl → Ct → Prop} : neBk P (.dat (.bool r)) c = P (.dat (.bool (!r))) c := rfl
open He (eqO eqO_ok ba ga ma)
end DL
set_option maxHeartbeats 2000000
namespace DL
open PySem PySem.Spec PyProof.Rows L2
section
variable {prog : Program} {w : World} {A : Around} {E : Value → Shared → Prop} {s : Shared}
end
end DL
namespace DL
open PySem PySem.Spec PyProof.Rows L2
theorem Zx.zc {B : Heap} {H : Hp} {cls : Value} {d : Option Addr} {o : Obj} (h : Zx B H cls d o) : Zc cls d o := h.1
/-- any error's -/
theorem cx2_up {P : Program} {w : World} {outer : List Env} {H : Hp} {s : Shared} {E : XK} {u : Value} {s' : Shared} (h : CX2 P w outer H s E u s') : L2.CX P w outer H s E u s' := by
  obtain ⟨a, B, H', cls, d, e, fl, r⟩ := h
  exact ⟨a, B, H', cls, d, e, L2H.flyingZ_imp (fun o z => z.zc) fl, r⟩
section
variable {X : Cx} {pins : List (Addr × Obj)} {σ : L2.St} {H : Hp} {sI s s' : Shared} {B : Heap} {W : WX} {E : XK}
end
end DL
namespace DL
open PySem PySem.Spec PyProof.Rows L2
section
variable {X : Cx} {f₀ : Stmt} {fs : List Stmt} {tfs : TS} {Wout : WX}
end
end DL
namespace DL
open PySem PySem.Spec PyProof.Rows L2
section
variable {P : Program} {w : World} {K : PySem.W.Frag} {mg : Str → Option Value} {base : Heap}
end
section
variable {P : Program} {w : World} {K : PySem.W.Frag} {mg : Str → Option Value} {base : Heap}
end
section
variable {X : Cx} {k : Nat} {f C : Addr} {fd : FuncData} {ps : List Str} {sp : Sp} {W : WX} {pins : List (Addr × Obj)} {s : Shared} {σ : L2.St} {H : Hp} {us : List Value} {vs : List V} {Q : VK}
end
section
variable {X : Cx} {E : En} {k n : Nat} {L : List (Addr × Spec)} {LX : List (Addr × SpecX)} {m : Str} {o e : Expr} {es : List Expr} {pos apos : Pos} {do_ : DE} {da : DA} {W : XW}
end
section
variable {P : Program} {w : World} {K : PySem.W.Frag} {mg : Str → Option Value} {base : Heap}
theorem FnX_2.up {k : Nat} {f : Addr} {fd : FuncData} {ps : List Str} {sp : Sp} (F : FnX_2 P w K mg base k f fd ps sp) : FnX P w K mg base k f fd ps sp :=
  ⟨F.len, fun A outer s H ag us vs Q E hr hgd e0 bd rv hs => codeAny_mono (F.run A outer s H ag us vs Q E hr hgd e0 bd rv hs) fun r s' z => by
    match r, z with
    | .error e, z => exact cx2_up z
    | .ok .next, z => exact z
    | .ok .brk, z => exact z
    | .ok .cont, z => exact z
    | .ok (.ret u), z => exact z⟩
theorem MDefX_2.up {k n : Nat} {C : Addr} {m : Str} {spec : SpecX} (M : MDefX_2 P w K mg base k C m n spec) : MDefX P w K mg base k C m n spec := by
  obtain ⟨c, f, fd, ps, F, r⟩ := M
  exact ⟨c, f, fd, ps, F.up, r⟩
end
section
variable {X : Cx} {body : List Stmt} {h0 : ExceptHandler} {hds : List ExceptHandler} {pos : Pos} {tb : WX → TS} {Wout : WX}
end
section
variable {X : Cx} {E : En} {W : XW} {l : List TrE} {tb : XW → DS} {body : List Stmt} {h0 : ExceptHandler} {hds : List ExceptHandler} {pos : Pos}
end
section
variable {X : Cx} {E : En} {x f : Str} {p pos pos' : Pos} {e : Expr} {da : DE} {W : XW}
end
section
variable {X : Cx} {E : En} {W : XW} {b₀ f₀ : Stmt} {bs fs : List Stmt} {pos : Pos} {tb : XW → DS} {df : DS}
end
section
variable {X : Cx} {E : En} {o1 o2 value : Expr} {f h : Str} {pos p1 p2 p3 : Pos} {de1 de2 dv : DE} {Cs : List Addr} {kk : Nat}
end
end DL
set_option maxHeartbeats 2000000
namespace DL
open PySem PySem.Spec PyProof.Rows L2
def rdStarts : Str → Str → (PyData → Prop) → Prop := fun a b P => P (.bool (Txt.startswith a b))
def rdUpper : Str → (PyData → Prop) → Prop := fun a P => a.length ≤ 5592405 ∧ P (.str (Txt.upper a))
section
variable {X : Cx} {E : En} {o e : Expr} {da db : DE} {pos apos : Pos}
theorem x_starts {a b : Str} {PD : PyData → Prop} : rdStarts a b PD = PD (.bool (Txt.startswith a b)) := rfl
theorem x_upper {a : Str} {PD : PyData → Prop} : rdUpper a PD = Sq (a.length ≤ 5592405) (PD (.str (Txt.upper a))) {} := rfl
end
section
variable {X : Cx} {d : Addr} {es : Array DictEntry} {n : Nat} {o e f : Expr} {apos cpos : Pos} {td ty tx : TE}
end
def rdGetK (l : List (Str × Int)) : PyData → (PyData → Prop) → Prop := fun d P => match d with
  | .str z => P (optD (l.lookup z))
  | _ => False
def dGetK (l : List (Str × Int)) (da db : DE) : DE := fun env c P => da env c fun x c1 => db env c1 fun y c2 => y = .dat .none ∧ datK x fun d => rdGetK l d fun z => P (.dat z) c2
section
variable {X : Cx} {E : En} {a b : Expr} {da db : DE} {pos p2 apos : Pos} {x : Str} {l : List (Str × Int)}
end
theorem x_getK {l : List (Str × Int)} {z : Str} {PD : PyData → Prop} : rdGetK l (.str z) PD = PD (optD (l.lookup z)) := rfl
theorem x_dGetK {l : List (Str × Int)} {da db : DE} {env : Ev} {c : Ct} {P : Vl → Ct → Prop} : dGetK l da db env c P = da env c fun x c1 => db env c1 fun y c2 => Sq (y = .dat .none) (datK x fun d => rdGetK l d fun z => P (.dat z) c2) {} := rfl
end DL
set_option maxHeartbeats 2000000
namespace DL
open PySem PySem.Spec PyProof.Rows L2
section
variable {PD : PyData → Prop}
/-- int of a text: for the hand -/
def IntK (a : Str) (k : PyData → Prop) (_ : Tg k) : Prop := ∃ n, intText? a = some n ∧ a.length ≤ 640 ∧ k (.int n)
theorem x_intS {a : Str} : rdIntS [.str a] PD = IntK a PD {} := rfl
end
end DL
set_option maxHeartbeats 2000000
namespace DL
open PySem PySem.Spec PyProof.Rows L2
section
variable {K : PySem.W.Frag} {E : En} {g : Gh} {env : Ev} {c : Ct} {σ : L2.St} {H : Hp}
end
/-- lent where it is a list of one's own, as it is where it is data -/
def dLendQ (i : Nat) (de : DE) : DE := fun env c P => match env[i]? with
  | some (some (.own l)) => de (env.set i (some (.dat (.list l)))) c fun x c' => vNL x = true ∧ NL c' ∧ P x c'
  | some (some (.dat _)) => de env c P
  | _ => False
def tLendQ (i : Nat) (dt : DT) : DT := fun env c P => match env[i]? with
  | some (some (.own l)) => dt (env.set i (some (.dat (.list l)))) c fun b c' => NL c' ∧ P b c'
  | some (some (.dat _)) => dt env c P
  | _ => False
def fLendQ (i : Nat) (dt : DF) : DF := fun env c P => match env[i]? with
  | some (some (.own l)) => dt (env.set i (some (.dat (.list l)))) c fun m c' => noLs m = true ∧ NL c' ∧ P m c'
  | some (some (.dat _)) => dt env c P
  | _ => False
def sClrO (i : Nat) : DS := fun D env c => match env[i]? with
  | some (some (.own _)) => D.nx (env.set i (some (.own []))) c
  | _ => False
def sPickO (i j : Nat) (da : DE) : DS := fun D env c => match env[i]? with
  | some (some (.own l)) => da env c fun x c1 => datK x fun d => intK d fun k => (k = 0 ∧ D.nx ((env.set i none).set j (some (.own l))) c1) ∨ (k = 1 ∧ D.nx ((env.set i none).set j (some (.dat (.tuple l)))) c1)
  | _ => False
def s3Seq (t : DS) (u : DS3) : DS3 := fun P env c => t { nx := u P, rt := fun _ _ => False, bk := fun _ _ => False, ct := fun _ _ => False } env c
def s3Frz (i : Nat) (u : DS3) : DS3 := fun P env c => match env[i]? with
  | some (some (.own l)) => u P (env.set i (some (.dat (.list l)))) c
  | _ => False
def s3Ret (d0 : DF) (da db : DE) : DS3 := fun P env c => d0 env c fun l c1 => da env c1 fun x c2 => datK x fun d1 => db env c2 fun y c3 => datK y fun d2 => P l d1 d2 c3
abbrev Spec3 := List Vl → Ct → D3 → Prop
def sCall3 (i j l : Nat) (n : Nat) (spec : Spec3) (da : DA) : DS := fun D env c => da env c fun xs c1 => xs.length = n ∧ spec xs c1 fun l0 d1 d2 c2 => D.nx (((env.set i (some (.own l0))).set j (some (.dat d1))).set l (some (.dat d2))) c2
section
variable {X : Cx} {E : En} {st : Stmt} {rest : List Stmt} {t : DS} {u : DS3} {pos : Pos}
end
section
variable {P : Program} {w : World} {K : PySem.W.Frag} {mg : Str → Option Value} {base : Heap}
end
end DL
set_option maxHeartbeats 2000000
namespace DL
open PySem PySem.Spec PyProof.Rows L2
def wEnumV (i : Nat) : DI := fun env c P => match env[i]? with
  | some (some (.dat (.list xs))) => P (enumD xs) c
  | some (some (.dat (.tuple xs))) => P (enumD xs) c
  | _ => False
section
variable {i : Nat} {de : DE} {dt : DT} {df : DF} {D : DEnds} {env : Ev} {c : Ct} {P : Vl → Ct → Prop} {PB : Bool → Ct → Prop} {PL : List PyData → Ct → Prop}
/-- a slot that holds a list of one's own, or data -/
def OwnQ (env : Ev) (i : Nat) (k : List PyData → Prop) (m : Prop) : Prop := match env[i]? with
  | some (some (.own l)) => k l
  | some (some (.dat _)) => m
  | _ => False
theorem x_oq0 {l : List PyData} {k : List PyData → Prop} {m : Prop} : OwnQ (some (.own l) :: env) 0 k m = k l := rfl
theorem x_oqD {d : PyData} {k : List PyData → Prop} {m : Prop} : OwnQ (some (.dat d) :: env) 0 k m = m := rfl
theorem x_oqS {x : Option Vl} {k : List PyData → Prop} {m : Prop} : OwnQ (x :: env) (i + 1) k m = OwnQ env i k m := rfl
theorem x_pickO {j : Nat} : sPickO i j de D env c = OwnK env i fun l => de env c fun x c1 => datK x fun d => intK d fun k => (k = 0 ∧ D.nx ((env.set i none).set j (some (.own l))) c1) ∨ (k = 1 ∧ D.nx ((env.set i none).set j (some (.dat (.tuple l)))) c1) := by
  unfold sPickO OwnK
  cases env[i]? with
  | none => rfl
  | some x => cases x with
    | none => rfl
    | some v => cases v <;> rfl
theorem x_call3 {j l n : Nat} {sp : Spec3} {da : DA} : sCall3 i j l n sp da D env c = da env c fun xs c1 => Sq (xs.length = n) (sp xs c1 fun l0 d1 d2 c2 => SetK env i (some (.own l0)) fun env' => SetK env' j (some (.dat d1)) fun env' => SetK env' l (some (.dat d2)) fun env' => D.nx env' c2) {} := rfl
theorem x_s3 {t : DS} {u : DS3} {P : D3} : s3Seq t u P env c = t { nx := u P, rt := fun _ _ => False, bk := fun _ _ => False, ct := fun _ _ => False } env c := rfl
theorem x_s3f {u : DS3} {P : D3} : s3Frz i u P env c = OwnK env i fun l => SetK env i (some (.dat (.list l))) fun env' => u P env' c := by
  unfold s3Frz OwnK
  cases env[i]? with
  | none => rfl
  | some x => cases x with
    | none => rfl
    | some v => cases v <;> rfl
theorem x_s3r {d0 : DF} {da db : DE} {P : D3} : s3Ret d0 da db P env c = d0 env c fun l c1 => da env c1 fun x c2 => datK x fun d1 => db env c2 fun y c3 => datK y fun d2 => P l d1 d2 c3 := rfl
theorem x_wEnV0 {xs : List PyData} {K : List PyData → Ct → Prop} : wEnumV 0 (some (.dat (.list xs)) :: env) c K = K (enumD xs) c := rfl
theorem x_wEnV1 {xs : List PyData} {K : List PyData → Ct → Prop} : wEnumV 0 (some (.dat (.tuple xs)) :: env) c K = K (enumD xs) c := rfl
def LendB (c : Ct) (A : Prop) : Prop := NL c ∧ A
def LendL (l : List PyData) (c : Ct) (A : Prop) : Prop := noLs l = true ∧ NL c ∧ A
theorem x_lendQ : dLendQ i de env c P = OwnQ env i (fun l => SetK env i (some (.dat (.list l))) fun env' => de env' c fun x c' => LendK x c' (P x c')) (de env c P) := by
  unfold dLendQ OwnQ
  cases env[i]? with
  | none => rfl
  | some x => cases x with
    | none => rfl
    | some v => cases v <;> rfl
theorem x_lendQt : tLendQ i dt env c PB = OwnQ env i (fun l => SetK env i (some (.dat (.list l))) fun env' => dt env' c fun x c' => LendB c' (PB x c')) (dt env c PB) := by
  unfold tLendQ OwnQ
  cases env[i]? with
  | none => rfl
  | some x => cases x with
    | none => rfl
    | some v => cases v <;> rfl
theorem x_lendQf : fLendQ i df env c PL = OwnQ env i (fun l => SetK env i (some (.dat (.list l))) fun env' => df env' c fun x c' => LendL x c' (PL x c')) (df env c PL) := by
  unfold fLendQ OwnQ
  cases env[i]? with
  | none => rfl
  | some x => cases x with
    | none => rfl
    | some v => cases v <;> rfl
theorem x_clr : sClrO i D env c = OwnK env i fun _ => SetK env i (some (.own [])) fun env' => D.nx env' c := by
  unfold sClrO OwnK
  cases env[i]? with
  | none => rfl
  | some x => cases x with
    | none => rfl
    | some v => cases v <;> rfl
theorem x_lendS {s : Str} {A : Prop} (h : NL c) : LendK (.dat (.str s)) c A = A := propext ⟨fun z => z.2.2, fun z => ⟨rfl, h, z⟩⟩
theorem x_lendBB {A : Prop} (h : NL c) : LendB c A = A := propext ⟨fun z => z.2, fun z => ⟨h, z⟩⟩
theorem x_lendLL {l : List PyData} {A : Prop} (h2 : noLs l = true) (h : NL c) : LendL l c A = A := propext ⟨fun z => z.2.2, fun z => ⟨h2, h, z⟩⟩
end
end DL
set_option maxHeartbeats 2000000
namespace DL
open PySem PySem.Spec PyProof.Rows L2
end DL
set_option maxHeartbeats 2000000
namespace L2
open PySem PySem.Spec PyProof.Rows
theorem d_dictSet {X : Cx} {pins : List (Addr × Obj)} {σ : L2.St} {H : Hp} {s : Shared} {a b : Addr} {kvs : List (List Key × V)} {k : List Key} {v : V} {r : Value} {A : Around} {E : Value → Shared → Prop} {Q : Unit → Shared → Prop}
    (hu : A.units < cLine) (I : L2.Inv X pins σ H s) (e : H a = some (.dT kvs)) (eb : H b = some (.tup (k.map kV))) (rv : RelV v r) (l : kvs.length < sizeLine) (h : ∀ s', L2.Inv X pins σ (upd H a (.dT (putK kvs k v))) s' → Q () s') :
    wpAny (model X.prog X.w) A (dictSet a (.ref b) r) Q E s := by
  obtain ⟨z, hd, xs, rel, dd⟩ := dt_of I.hok e
  have hz : xs.length ≤ sizeLine := by rw [← Paired.length rel]; exact z
  refine wpAny_dictSet_heap (knd := tupleKind (mixKind X.prog X.w)) hu (key_of I.hok eb) dd (fun h' dd' hs => h _ ?_) hz
  obtain ⟨o, es, ep, h1, h2, h3, h4, h5, h6⟩ := dd'
  have kp := rel.put k eb rv
  refine d_write I (by rw [e]; trivial) hs ⟨_, h1⟩ ?_
  unfold ObjOk
  have hlp := length_putK kvs k v
  refine ⟨by omega, hd, _, ?_, o, es, ep, h1, h2, h3, h4, h6⟩
  exact KT.keeps kp fun q u hq => by
    by_cases w : q = a
    · rw [w, e] at hq
      cases hq
    · rw [upd_ne w]
      exact hq
/-- {k: v}, a tuple as the key -/
def tDispT (tk tv : TE) : TE := fun σ H Q => ∀ p, H p = none → tk σ (upd H p (.dT [])) fun x H1 => tv σ H1 fun y H2 => H2 p = some (.dT []) ∧ ∃ (ks : List Key) (b : Addr), x = .ref b ∧ H2 b = some (.tup (ks.map kV)) ∧ Q (.ref p) (upd H2 p (.dT [(ks, y)]))
theorem pe_dispT {X : Cx} {k v : Expr} {pos : Pos} {tk tv : TE} (hu : X.A.units < cLine) (hk : PE X k tk) (hv : PE X v tv) : PE X (.Dict [some k] [v] pos) (tDispT tk tv) := by
  constructor
  intro pins s σ H Q I h
  have fr : H s.heap.objs.size = none := HOk.fresh I.hok (Nat.le_refl _)
  have I1 := Inv.laid (t' := s.toks) I (fun b o e => Heap.get?_push_of_some { cls := Value.type "dict", data := Data.dict #[] } e) (Nat.le_refl s.heap.objs.size) (dt_empty (H := upd H s.heap.objs.size (.dT [])) s.heap (Inv.big I))
  refine wpAny_Dict_any rfl rfl (by simp) (by simp) ?_
  refine wpAny_mono (PPs.run (pps_cons hk hv pps_nil) pins _ σ _ (fun ps H2 => match ps with
    | [(x, y)] => H2 s.heap.objs.size = some (.dT []) ∧ ∃ (ks : List Key) (b : Addr), x = .ref b ∧ H2 b = some (.tup (ks.map kV)) ∧ Q (.ref s.heap.objs.size) (upd H2 s.heap.objs.size (.dT [(ks, y)]))
    | _ => False) I1 (h _ fr)) (fun ws s1 z => ?_) (fun e s1 z => z)
  obtain ⟨ps, H2, I2, vv, z⟩ := z
  match ps, ws, vv, z with
  | [(x, y)], [(u, r)], .cons ⟨rx, ry⟩ .nil, ⟨hp, ks, b, e, hb, q⟩ =>
    subst e
    have rx : u = .ref b := rx
    subst rx
    unfold storeAll
    simp only [List.forIn_cons, List.forIn_nil]
    refine wpAny_bind (wpAny_bind (d_dictSet (k := ks) (v := y) hu I2 hp hb ry (by decide) fun s' I3 => ?_))
    exact wpAny_pure (wpAny_pure ⟨.ref s.heap.objs.size, _, I3, rfl, q⟩)
end L2
namespace DL
open PySem PySem.Spec PyProof.Rows L2
def Ct.putL (c : Ct) (a : Addr) (l : List Fv) : Ct := ⟨c.n, c.os, fun b => if b = a then some l else c.ls b, c.tb⟩
section
variable {K : PySem.W.Frag} {E : En} {g g' : Gh} {env : Ev} {c : Ct} {σ : L2.St} {H H' : Hp}
/-- a new list, known from now on -/
theorem Rel.newLs (r : Rel K E g env c σ H) {x : Addr} {xs : List (List Key × V)} {l : List Fv} (hx : H x = none) (hl : DlOk K g xs l) :
    c.ls x = none ∧ Rel K E (g.more x) env (c.putL x l) σ (upd H x (.dT xs)) ∧ Mv g H (g.more x) (upd H x (.dT xs)) ∧ (g.more x).ob x := by
  have keep : ∀ b u, H b = some u → upd H x (.dT xs) b = some u := fun b u z => by
    rw [upd_ne (ne_of_none z hx)]
    exact z
  have hn : c.ls x = none := by
    cases q : c.ls x with
    | none => rfl
    | some o =>
      obtain ⟨_, _, _, ws, z, _⟩ := r.dk.ob.li x o q
      rw [hx] at z
      cases z
  have dd : ∀ a, isDk (g.more x) a → isDk g a ∨ a = x := fun a z => by
    rcases z with z | z | z
    · exact .inl (.inl z)
    · exact .inl (.inr z)
    · exact .inr z
  have mono : DlOk K (g.more x) xs l := hl
  refine ⟨hn, ⟨r.mo, fun a z => .inl (r.om a z), r.md, r.mt, fun a z => ?_, fun a z => ?_, r.nf, r.fr.map keep, r.nw, fun b u z => keep b u (r.ex b u z), fun i y z => ?_, r.ap, ⟨fun p q z => ?_, ⟨fun b z => ?_, fun b u z => ?_, fun b u z => ?_⟩, tabs_keep (fun b u _ z => keep b u z) r.dk.tb⟩, r.len⟩,
    ⟨⟨Same.refl _, rfl, fun _ z => Or.inl z⟩, (Sty.refl _ _).map keep, fun b u z => ⟨u, keep b u z⟩, fun b u z => .inl z, fun b z => ?_⟩, .inr rfl⟩
  · rcases dd a z with w | w
    · exact r.dn a w
    · exact .inr (by rw [w]; exact r.oldN hx)
  · rcases z with w | w
    · exact r.on a w
    · exact .inr (by rw [w]; exact r.oldN hx)
  · obtain ⟨v, h1, h2⟩ := r.sl i y z
    refine ⟨v, h1, ?_⟩
    cases y with
    | dat d => exact h2
    | deck => exact h2
    | exc _ => exact h2
    | ob _ => exact ⟨h2.1, .inl h2.2⟩
    | own l =>
      obtain ⟨b, ys, e1, h3, h4, h5, h6⟩ := h2
      refine ⟨b, ys, e1, h3, fun w => ?_, keep b _ h5, h6⟩
      rcases dd b w with w | w
      · exact h4 w
      · rw [w, hx] at h5
        cases h5
  · obtain ⟨h1, h2, h3, ns, h4, h5, h6, ys, h7, h8⟩ := r.dk.dk p q z
    exact ⟨h1, h2, h3, ns, h4, h5, keep q _ h6, ys, keep p _ h7, h8⟩
  · by_cases w : b = x
    · exact .inr ⟨l, by rw [w]; exact if_pos rfl⟩
    · rcases r.dk.ob.al b (z.resolve_right w) with ⟨o, e⟩ | ⟨m, e⟩
      · exact .inl ⟨o, e⟩
      · exact .inr ⟨m, (if_neg w).trans e⟩
  · obtain ⟨h1, h2, dy, ws, h3, h4⟩ := r.dk.ob.is b u z
    exact ⟨.inl h1, h2, dy, ws, keep b _ h3, FsOk.mono (g := g) (g' := g.more x) (Same.refl _) (fun _ z => Or.inl z) h4⟩
  · by_cases w : b = x
    · subst w
      have z : (if b = b then some l else c.ls b) = some u := z
      rw [if_pos rfl] at z
      cases z
      refine ⟨.inr rfl, r.ex.free hx, fun p q e => ?_, xs, upd_same, mono⟩
      obtain ⟨_, _, _, ns, _, _, h6, ys, h7, _⟩ := r.dk.dk p q e
      exact ⟨(fun e2 => by rw [← e2, hx] at h7; cases h7), (fun e2 => by rw [← e2, hx] at h6; cases h6)⟩
    · have z : (if b = x then some l else c.ls b) = some u := z
      rw [if_neg w] at z
      obtain ⟨h1, h2, h5, ws, h3, h4⟩ := r.dk.ob.li b u z
      exact ⟨.inl h1, h2, h5, ws, keep b _ h3, h4⟩
  · rcases z with w | w
    · exact .inl w
    · exact .inr (by rw [w]; exact hx)
/-- a list that is known changes -/
theorem Rel.putLs (r : Rel K E g env c σ H) {a : Addr} {l l' : List Fv} {xs xs' : List (List Key × V)} (e : c.ls a = some l) (ha : H a = some (.dT xs)) (hf : DlOk K g xs' l') :
    Rel K E g env (c.putL a l') σ (upd H a (.dT xs')) ∧ Mv g H g (upd H a (.dT xs')) := by
  obtain ⟨hg, hF, hq, _⟩ := r.dk.ob.li a l e
  have keep : ∀ b u, b ≠ a → H b = some u → upd H a (.dT xs') b = some u := fun b u n z => by
    rw [upd_ne n]
    exact z
  refine ⟨⟨r.mo, r.om, r.md, r.mt, r.dn, r.on, r.nf, r.fr.map1 keep (fun o eo n => by
    rcases r.on a hg with w | w
    · exact n.1 (.inr w)
    · rw [eo] at w
      cases w) (fun ps e => by rw [ha] at e; cases e), r.nw, fun b u z => keep b u (ne_of_none z hF) (r.ex b u z), fun i x z => ?_, r.ap, ⟨fun p q z => ?_, ⟨fun b z => ?_, fun b u z => ?_, fun b u z => ?_⟩, tabs_keep (fun b u ht z => keep b u (fun q => by rw [q, ha] at z; cases z; exact ht) z) r.dk.tb⟩, r.len⟩,
    ⟨Mo.refl _, (Sty.refl _ _).map1 keep (fun o _ n => n.1 (.inr hg)) (fun ps e => by rw [ha] at e; cases e), fun b u z => ?_, fun b u z => .inl z, fun b z => .inl z⟩⟩
  · obtain ⟨v, h1, h2⟩ := r.sl i x z
    refine ⟨v, h1, ?_⟩
    cases x with
    | dat d => exact h2
    | deck => exact h2
    | exc _ => exact h2
    | ob _ => exact h2
    | own l =>
      obtain ⟨b, ys, e1, h3, h4, h5, h6⟩ := h2
      exact ⟨b, ys, e1, h3, h4, keep b _ (fun q => h4 (.inr (q ▸ hg))) h5, h6⟩
  · obtain ⟨h1, h2, h3, ns, h4, h5, h6, ys, h7, h8⟩ := r.dk.dk p q z
    exact ⟨h1, h2, h3, ns, h4, h5, keep q _ (Ne.symm (hq p q z).2) h6, ys, keep p _ (Ne.symm (hq p q z).1) h7, h8⟩
  · by_cases w : b = a
    · exact .inr ⟨l', by rw [w]; exact if_pos rfl⟩
    · rcases r.dk.ob.al b z with ⟨o, e⟩ | ⟨m, e⟩
      · exact .inl ⟨o, e⟩
      · exact .inr ⟨m, (if_neg w).trans e⟩
  · obtain ⟨h1, h2, dy, ws, h3, h4⟩ := r.dk.ob.is b u z
    exact ⟨h1, h2, dy, ws, keep b _ (fun q => by rw [q, ha] at h3; cases h3) h3, h4⟩
  · by_cases w : b = a
    · subst w
      have z : (if b = b then some l' else c.ls b) = some u := z
      rw [if_pos rfl] at z
      cases z
      exact ⟨hg, hF, hq, xs', upd_same, hf⟩
    · have z : (if b = a then some l' else c.ls b) = some u := z
      rw [if_neg w] at z
      obtain ⟨h1, h2, h5, ws, h3, h4⟩ := r.dk.ob.li b u z
      exact ⟨h1, h2, h5, ws, keep b _ w h3, h4⟩
  · by_cases q : b = a
    · exact ⟨_, by rw [q]; exact upd_same⟩
    · exact ⟨u, keep b u q z⟩
end
theorem dpAll_intsV {K : PySem.W.Frag} {F : Hp} : ∀ {ns : List Int} {xs : List V}, DpAll K F xs (ns.map PyData.int) → xs = ns.map V.int
  | [], _, h => by cases h; rfl
  | n :: ns, _, h => by
    cases h with
    | cons h1 t =>
      rw [dp_int h1, dpAll_intsV t]
      rfl
theorem dp_key {K : PySem.W.Frag} {F : Hp} {v : V} {ns : List Int} (h : Dp K F v (.tuple (ns.map PyData.int))) : ∃ b, v = .ref b ∧ F b = some (.tup ((ns.map (Sum.inl : Int → Key)).map kV)) := by
  generalize e : PyData.tuple (ns.map PyData.int) = d at h
  cases h with
  | tup s a =>
    injection e with e
    subst e
    refine ⟨_, rfl, ?_⟩
    rw [s, dpAll_intsV a, List.map_map]
    rfl
  | _ => cases e
theorem inl_inj : ∀ {a b : List Int}, a.map (Sum.inl : Int → Key) = b.map Sum.inl → a = b
  | [], [], _ => rfl
  | [], _ :: _, h => by cases h
  | _ :: _, [], h => by cases h
  | x :: a, y :: b, h => by
    rw [List.map_cons, List.map_cons] at h
    injection h with h1 h2
    injection h1 with h1
    rw [h1, inl_inj h2]
def lookI (kv : List (List Int × Int)) (ns : List Int) : Option Int := (kv.find? fun p => decide (p.1 = ns)).map (·.2)
theorem lookI_cons (p : List Int × Int) (kv : List (List Int × Int)) (ns : List Int) : lookI (p :: kv) ns = if p.1 = ns then some p.2 else lookI kv ns := by
  unfold lookI
  rw [List.find?_cons]
  by_cases h : p.1 = ns
  · rw [if_pos h, decide_eq_true h]
    rfl
  · rw [if_neg h, decide_eq_false h]
theorem valV_ent (ns : List Int) : ∀ kv : List (List Int × Int), valV (kv.map entH) (ns.map (Sum.inl : Int → Key)) = (lookI kv ns).map V.int
  | [] => rfl
  | p :: kv => by
    rw [List.map_cons, lookI_cons]
    by_cases h : p.1 = ns
    · rw [if_pos h]
      exact valV_pos (p := entH p) (r := kv.map entH) (by show p.1.map _ = _; rw [h])
    · rw [if_neg h, ← valV_ent ns kv]
      exact valV_neg (p := entH p) (r := kv.map entH) (fun z => h (inl_inj z))
/-- a datum that is a tuple of ints -/
def tupI (d : PyData) (k : List Int → Prop) : Prop := ∃ ns : List Int, d = .tuple (ns.map PyData.int) ∧ k ns
/-- what the dict at a holds -/
def AtD (c : Ct) (a : Addr) (k : List (List Int × Int) → Prop) : Prop := ∃ kv : List (List Int × Int), c.ls a = some (kv.map entF) ∧ k kv
section
variable {X : Cx} {E : En} {pos pos' : Pos} {o b e : Expr} {de db da : DE} {kk : Nat}
/-- {x: i} -/
def dDic (j : Nat) (i : Int) : DE := fun env c P => match env[j]? with
  | some (some (.dat d)) => tupI d fun ns => ∀ a, c.ls a = none → P (.ob a) (c.putL a ([(ns, i)].map entF))
  | _ => False
theorem upd_upd2 {H : Hp} {p : Addr} {o o' : HO} : upd (upd H p o) p o' = upd H p o' := by
  funext q
  by_cases h : q = p
  · rw [h, upd_same, upd_same]
  · rw [upd_ne h, upd_ne h, upd_ne h]
theorem de_dic (j : Nat) {i : Int} {x : Str} {p2 p3 : Pos} (hr : Room kk X.A) (hN : X.N[j]? = some x := by rfl) (hv : Vis X.env.scope x := by first | exact Or.inl rfl | exact Or.inr (Or.inl rfl) | exact Or.inr (Or.inr rfl)) (h1 : (x == ("__debug__" : Str)) = false := by decide) (h2 : (x == ("__classdict__" : Str)) = false := by decide) : DPE X E (.Dict [some (.Name x p2)] [.Constant (.int i) k p3] pos) (dDic j i) := by
  refine pe_imp (pe_dispT (Nat.lt_of_le_of_lt (Nat.le_add_right _ _) hr.units) (pe_var hN hv h1 h2) pe_int) fun σ H Q h p hp => ?_
  obtain ⟨g, env, c, P, rel, q, k⟩ := h
  unfold dDic at q
  split at q
  · rename_i d e
    obtain ⟨v, e1, e2⟩ := rel.sl j _ e
    obtain ⟨ns, rfl, q⟩ := q
    obtain ⟨bb, rfl, eb⟩ := dp_key e2
    have eb2 := rel.ex _ _ eb
    have nb : bb ≠ p := ne_of_none eb2 hp
    obtain ⟨n1, r2, m2, ho⟩ := rel.newLs (xs := [(ns, i)].map entH) (l := [(ns, i)].map entF) hp ⟨_, rfl, rfl⟩
    refine ⟨_, e1, upd_same, ns.map Sum.inl, bb, rfl, by rw [upd_ne nb]; exact eb2, ?_⟩
    rw [upd_upd2]
    exact k (.ob p) _ _ _ _ (q p n1) m2 r2 ⟨rfl, ho⟩ trivial
  · exact q.elim
/-- x in d -/
def dInD (neg : Bool) (da de : DE) : DE := fun env c P => da env c fun x c1 => datK x fun d => de env c1 fun y c2 => obK y fun a => tupI d fun ns => AtD c2 a fun kv => P (.dat (.bool (if neg then (lookI kv ns).isNone else (lookI kv ns).isSome))) c2
theorem inD_up {neg : Bool} {σ : L2.St} {H : Hp} {Q : VK} (h : up X.K E (dInD neg da de) σ H Q) :
    up X.K E da σ H fun y H1 => up X.K E de σ H1 fun x H2 => ∃ a o, x = .ref a ∧ DGet H2 a y o ∧ Q (.bl (if neg then !o.isSome else o.isSome)) H2 := by
  obtain ⟨g, env, c, P, rel, q, k⟩ := h
  refine ⟨g, env, c, _, rel, q, fun x c1 g1 H1 v p1 m1 r1 o1 f1 => ?_⟩
  cases x with
  | deck => exact p1.elim
  | exc _ => exact p1.elim
  | ob _ => exact p1.elim
  | own _ => exact p1.elim
  | dat d =>
    refine ⟨g1, env, c1, _, r1, p1, fun y c2 g2 H2 w p2 m2 r2 o2 f2 => ?_⟩
    cases y with
    | deck => exact p2.elim
    | exc _ => exact p2.elim
    | dat _ => exact p2.elim
    | own _ => exact p2.elim
    | ob a =>
      obtain ⟨rfl, hg⟩ := o2
      obtain ⟨ns, rfl, kv, hkv, p3⟩ := p2
      obtain ⟨bb, rfl, eb⟩ := dp_key (dp_mono m2.f o1)
      refine ⟨a, _, rfl, .inr ⟨_, ns.map Sum.inl, bb, .inl (r2.dict hkv), rfl, r2.ex _ _ eb, rfl⟩, ?_⟩
      have e : (if neg then !(valV (kv.map entH) (ns.map (Sum.inl : Int → Key))).isSome else (valV (kv.map entH) (ns.map (Sum.inl : Int → Key))).isSome) = (if neg then (lookI kv ns).isNone else (lookI kv ns).isSome) := by
        rw [valV_ent]
        cases lookI kv ns <;> rfl
      rw [e]
      exact k _ c2 g2 H2 _ p3 (m1.trans m2) r2 (.bl _) trivial
theorem dt_notInOD (hr : Room kk X.A) (ha : DPE X E e da) (ho : DPE X E o de) (hm : behindInMarks .NotIn o = false := by first | exact nobehind _ (by decide) (by decide) | rfl) : DPT X E (.Compare e [.NotIn] [o] pos) (tVal (dInD true da de)) :=
  pt_imp (pt_cmp (pc_dnotin (Nat.lt_of_le_of_lt (Nat.add_le_add_left (by decide) _) hr.units) ha ho) hm) fun _ _ _ h => tB_up (fun _ _ _ h => inD_up h) h
/-- d[x] -/
def dIxD (de da : DE) : DE := fun env c P => de env c fun y c1 => obK y fun a => da env c1 fun x c2 => datK x fun d => tupI d fun ns => AtD c2 a fun kv => ∃ i, lookI kv ns = some i ∧ P (.dat (.int i)) c2
theorem de_ixD (hr : Room kk X.A) (ho : DPE X E o de) (ha : DPE X E e da) (hs : NoSl e := by exact fun _ _ => rfl) : DPE X E (.Subscript o e pos) (dIxD de da) := by
  refine pe_imp (pe_dget (Nat.lt_of_le_of_lt (Nat.add_le_add_left (by decide) _) hr.units) ho ha hs) fun σ H Q h => ?_
  obtain ⟨g, env, c, P, rel, q, k⟩ := h
  refine ⟨g, env, c, _, rel, q, fun y c1 g1 H1 w p1 m1 r1 o1 f1 => ?_⟩
  cases y with
  | deck => exact p1.elim
  | exc _ => exact p1.elim
  | dat _ => exact p1.elim
  | own _ => exact p1.elim
  | ob a =>
    obtain ⟨rfl, hg⟩ := o1
    refine ⟨g1, env, c1, _, r1, p1, fun x c2 g2 H2 v p2 m2 r2 o2 f2 => ?_⟩
    cases x with
    | deck => exact p2.elim
    | exc _ => exact p2.elim
    | ob _ => exact p2.elim
    | own _ => exact p2.elim
    | dat d =>
      obtain ⟨ns, rfl, kv, hkv, i, hi, p3⟩ := p2
      obtain ⟨bb, rfl, eb⟩ := dp_key o2
      refine ⟨a, .int i, rfl, .inr ⟨_, ns.map Sum.inl, bb, .inl (r2.dict hkv), rfl, r2.ex _ _ eb, ?_⟩, k _ c2 g2 H2 _ p3 (m1.trans m2) r2 (.int i) trivial⟩
      rw [valV_ent, hi]
      rfl
/-- d[x] = e, a new key -/
def sPutD (de da dv : DE) : DS := fun D env c => dv env c fun z c1 => datK z fun f => intK f fun i => de env c1 fun y c2 => obK y fun a => da env c2 fun x c3 => datK x fun d => tupI d fun ns => AtD c3 a fun kv => lookI kv ns = none ∧ kv.length < sizeLine ∧ D.nx env (c3.putL a ((kv ++ [(ns, i)]).map entF))
theorem ds_putD {dv : DE} (hr : Room kk X.A) (ho : DPE X E o de) (ha : DPE X E e da) (hv : DPE X E b dv) (hs : swapsWith b (some (.Subscript o e pos')) pos.line X.env = pure false := by rfl) : DPS X E (.Assign [.Subscript o e pos'] b pos) (sPutD de da dv) := by
  refine ps_imp (ps_dput (Nat.lt_of_le_of_lt (Nat.add_le_add_left (by decide) _) hr.units) ho ha hv hs) fun D σ H h => ?_
  obtain ⟨g, env, c, P, rel, q, k, _⟩ := h
  refine ⟨g, env, c, _, rel, q, fun z c1 g1 H1 u p1 m1 r1 o1 f1 => ?_⟩
  cases z with
  | deck => exact p1.elim
  | exc _ => exact p1.elim
  | ob _ => exact p1.elim
  | own _ => exact p1.elim
  | dat f =>
    have q1 : intK f fun i => de env c1 fun y c2 => obK y fun a => da env c2 fun x c3 => datK x fun d => tupI d fun ns => AtD c3 a fun kv => lookI kv ns = none ∧ kv.length < sizeLine ∧ P.nx env (c3.putL a ((kv ++ [(ns, i)]).map entF)) := p1
    clear p1
    cases f <;> try exact q1.elim
    rename_i i
    rw [dp_int o1]
    refine ⟨g1, env, c1, _, r1, q1, fun y c2 g2 H2 w p2 m2 r2 o2 f2 => ?_⟩
    cases y with
    | deck => exact p2.elim
    | exc _ => exact p2.elim
    | dat _ => exact p2.elim
    | own _ => exact p2.elim
    | ob a =>
      obtain ⟨rfl, hg⟩ := o2
      refine ⟨g2, env, c2, _, r2, p2, fun x c3 g3 H3 v p3 m3 r3 o3 f3 => ?_⟩
      cases x with
      | deck => exact p3.elim
      | exc _ => exact p3.elim
      | ob _ => exact p3.elim
      | own _ => exact p3.elim
      | dat d =>
        obtain ⟨ns, rfl, kv, hkv, hn, hl, p4⟩ := p3
        obtain ⟨bb, rfl, eb⟩ := dp_key o3
        obtain ⟨r4, m4⟩ := r3.putLs (xs' := (kv ++ [(ns, i)]).map entH) (l' := (kv ++ [(ns, i)]).map entF) hkv (r3.dict hkv) ⟨_, rfl, rfl⟩
        refine ⟨a, _, rfl, .inr ⟨_, ns.map Sum.inl, bb, r3.dict hkv, rfl, r3.ex _ _ eb, by rw [List.length_map]; exact hl, ?_⟩, k _ _ _ _ _ p4 (((m1.trans m2).trans m3).trans m4).f r4⟩
        rw [putK_new _ (by rw [valV_ent, hn]; rfl), List.map_append]
        rfl
end
def sPopA (i j : Nat) : DS := fun D env c => match env[i]? with
  | some (some (.own (d :: r))) => D.nx ((env.set i (some (.own r))).set j (some (.dat d))) c
  | _ => False
def sPar3EEF (i j l : Nat) (da db : DE) (du : DF) : DS := fun D env c => da env c fun x c1 => db env c1 fun y c2 => du env c2 fun m c3 => D.nx (((env.set l (some (.own m))).set i (some x)).set j (some y)) c3
section
variable {X : Cx} {E : En} {a b e : Expr} {da db : DE} {pos p1 p2 p3 p4 px py pz pt pt2 : Pos} {kt k2 kk : Nat} {x y z : Str}
theorem ds_popA (i j : Nat) (hN : X.N.Nodup) (hx : X.N[i]? = some x := by rfl) (hv : Vis X.env.scope x := by first | exact Or.inl rfl | exact Or.inr (Or.inl rfl) | exact Or.inr (Or.inr rfl)) (h1 : (x == ("__debug__" : Str)) = false := by decide) (h2 : (x == ("__classdict__" : Str)) = false := by decide)
    (hb : attributeBase (.Name x p1) "pop" X.env (eval (.Name x p1) X.env) = eval (.Name x p1) X.env := by rfl)
    (hfew : ((backTo p3 (starEach [.Constant (.int 0) kk p4] X.env)).all (fun x => !x.1) && (backToKw p3 (keywordEach [] X.env)).all (fun x => x.1.isSome) && decide ([Expr.Constant (.int 0) kk p4].length + ([] : List Keyword).length + (if ([] : List Keyword).isEmpty then 0 else 1) < 30)) = true := by rfl)
    (hline : (p2.endLine == p3.line) = true := by rfl) (he : starEach [.Constant (.int 0) kk p4] X.env = (false, eval (.Constant (.int 0) kk p4) X.env) :: starEach [] X.env := by rfl) (hpl : (backTo p3 (starEach [] X.env)).any (·.1) = false := by rfl)
    (hy : X.N[j]? = some y := by rfl) (hly : Loc X.env.scope y := by first | exact Or.inl rfl | exact Or.inr rfl) (hs : swapsWith (.Call (.Attribute (.Name x p1) "pop" p2) [.Constant (.int 0) kk p4] [] p3) (some (.Name y py)) pos.line X.env = pure false := by rfl)
    (hf : X.fn y = true ∨ X.env.scope.names.lookup y = some .local := by first | exact .inl rfl | exact .inr rfl | assumption) :
    DPS X E (.Assign [.Name y py] (.Call (.Attribute (.Name x p1) "pop" p2) [.Constant (.int 0) kk p4] [] p3) pos) (sPopA i j) := by
  refine ps_imp (ps_set hN hy hly (pe_bm PySem.F.plainAttrs_list PySem.F.slot_list_pop PySem.F.type_list_pop mt_popAt (pe_var hx hv h1 h2) (pa_cons pe_int pa_nil he) hb hfew hline he hpl) hs hf) fun D σ H h => ?_
  obtain ⟨g, env, c, P, rel, q, k, _⟩ := h
  unfold sPopA at q
  split at q
  · rename_i d r e
    obtain ⟨v, e1, p, xs, rfl, h3, h4, h5, h6⟩ := rel.sl i _ e
    cases h6 with
    | cons hd ht =>
      exact ⟨_, e1, .inl ⟨rfl, _, .of h5⟩, p, _, 0, 0, _, rfl, rfl, h5, by decide, by decide, by simp [seqIndex?], rfl, k _ c g _ _ q (Same.refl _) ((rel.writeOwn i e e1 ht).set j (x := .dat d) hd trivial)⟩
  · exact q.elim
end
section
variable {n : Nat} {L : List (Addr × Ob)} {r : Rst} {a : Addr} {l : List Fv} {de da dv db : DE} {du : DF} {env : Ev} {c : Ct} {P : Vl → Ct → Prop} {DD : DEnds} {neg : Bool} {d : PyData} {kv : List (List Int × Int)} {ns : List Int}
/-- the rest with the dict l at a -/
def Rst.put (r : Rst) (a : Addr) (l : List Fv) : Rst := ⟨r.os, fun b => if b = a then some l else r.ls b, r.tb⟩
theorem x_stPutL : (St n L r).putL a l = St n L (r.put a l) := rfl
def InD (neg : Bool) (c : Ct) (a : Addr) (d : PyData) (P : Vl → Ct → Prop) (_ : Tg P) : Prop := tupI d fun ns => AtD c a fun kv => P (.dat (.bool (if neg then (lookI kv ns).isNone else (lookI kv ns).isSome))) c
theorem x_inOD : dInD neg da de env c P = da env c fun x c1 => datK x fun d => de env c1 fun y c2 => obK y fun a => InD neg c2 a d P {} := rfl
def IxD (c : Ct) (a : Addr) (d : PyData) (P : Vl → Ct → Prop) (_ : Tg P) : Prop := tupI d fun ns => AtD c a fun kv => ∃ i, lookI kv ns = some i ∧ P (.dat (.int i)) c
theorem x_ixOD : dIxD de da env c P = de env c fun y c1 => obK y fun a => da env c1 fun x c2 => datK x fun d => IxD c2 a d P {} := rfl
def PutD (c : Ct) (a : Addr) (d : PyData) (i : Int) (P : Ct → Prop) (_ : Tg P) : Prop := tupI d fun ns => AtD c a fun kv => lookI kv ns = none ∧ kv.length < sizeLine ∧ P (c.putL a ((kv ++ [(ns, i)]).map entF))
theorem x_putOD : sPutD de da dv DD env c = dv env c fun z c1 => datK z fun f => intK f fun i => de env c1 fun y c2 => obK y fun a => da env c2 fun x c3 => datK x fun d => PutD c3 a d i (DD.nx env) {} := rfl
theorem x_par3EEF {i j k : Nat} : sPar3EEF i j k da db du DD env c = da env c fun x c1 => db env c1 fun y c2 => du env c2 fun m c3 => SetK env k (some (.own m)) fun env1 => SetK env1 i (some x) fun env2 => SetK env2 j (some y) fun env3 => DD.nx env3 c3 := rfl
theorem inD_ok {t : Tg P} (hd : d = .tuple (ns.map PyData.int)) (hk : c.ls a = some (kv.map entF)) (h : P (.dat (.bool (if neg then (lookI kv ns).isNone else (lookI kv ns).isSome))) c) : InD neg c a d P t := ⟨ns, hd, kv, hk, h⟩
theorem ixD_ok {t : Tg P} {i : Int} (hd : d = .tuple (ns.map PyData.int)) (hk : c.ls a = some (kv.map entF)) (hi : lookI kv ns = some i) (h : P (.dat (.int i)) c) : IxD c a d P t := ⟨ns, hd, kv, hk, i, hi, h⟩
theorem putD_ok {P : Ct → Prop} {t : Tg P} {i : Int} (hd : d = .tuple (ns.map PyData.int)) (hk : c.ls a = some (kv.map entF)) (hn : lookI kv ns = none) (hl : kv.length < sizeLine) (h : P (c.putL a ((kv ++ [(ns, i)]).map entF))) : PutD c a d i P t := ⟨ns, hd, kv, hk, hn, hl, h⟩
theorem dic_ok {j : Nat} {i : Int} (he : env[j]? = some (some (.dat (.tuple (ns.map PyData.int))))) (h : ∀ a, r.ls a = none → P (.ob a) (St n L (r.put a ([(ns, i)].map entF)))) : dDic j i env (St n L r) P := by
  unfold dDic
  rw [he]
  exact ⟨ns, rfl, h⟩
theorem popA_ok {i j : Nat} {d : PyData} {q : List PyData} (he : env[i]? = some (some (.own (d :: q)))) (h : DD.nx ((env.set i (some (.own q))).set j (some (.dat d))) c) : sPopA i j DD env c := by
  unfold sPopA
  rw [he]
  exact h
theorem ls_put : (St n L (r.put a l)).ls a = some l := if_pos rfl
theorem x_putPut {l' : List Fv} : (r.put a l).put a l' = r.put a l' := by
  show Rst.mk _ _ _ = Rst.mk _ _ _
  congr 1
  funext b
  by_cases h : b = a <;> simp [Rst.put, h]
theorem x_putOs {b : Addr} : (r.put a l) b = r b := rfl
end
end DL
set_option maxHeartbeats 2000000
namespace DL
open PySem PySem.Spec PyProof.Rows L2
def rdStrA : List PyData → (PyData → Prop) → Prop := fun ds P => match ds with
  | [.int i] => i.natAbs.log2 < 1920 ∧ P (.str (toString i))
  | [.str t] => P (.str t)
  | _ => False
section
variable {PD : PyData → Prop}
theorem x_strAI {i : Int} : rdStrA [.int i] PD = Sq (i.natAbs.log2 < 1920) (PD (.str (Str.ofString (toString i)))) {} := rfl
theorem x_strAS {t : Str} : rdStrA [.str t] PD = PD (.str t) := rfl
end
end DL
set_option maxHeartbeats 2000000
namespace DL
open PySem PySem.Spec PyProof.Rows L2
section
variable {X : Cx} {C f p0 : Addr} {mc : Value} {sp : List V → L2.St → Hp → VK → Prop} {m x : Str} {e : Expr} {es : List Expr} {p pos apos : Pos} {t : TA}
end
def dCmX (C : Addr) (n : Nat) (spec : SpecX) (W : XW) (da : DA) : DE := fun env c P => da env c fun xs c1 => (xs.length + 1 = n ∧ spec (.exc C :: xs) c1 P fun y fs c2 => W y fs env c2)
def dMakeVX (i : Nat) (C : Addr) (n : Nat) (spec : SpecX) (W : XW) (da : DA) : DE := fun env c P => env[i]? = some (some (.exc C)) ∧ dMakeX C n spec W da env c P
section
variable {X : Cx} {E : En} {k n i : Nat} {spx : SpecX} {m x y : Str} {C : Addr} {e : Expr} {es : List Expr} {p pos apos : Pos} {da : DA} {W : XW}
end
section
variable {n : Nat} {sp : SpecX} {C : Addr} {W : XW} {da : DA} {env : Ev} {c : Ct} {P : Vl → Ct → Prop}
theorem x_cmX : dCmX C n sp W da env c P = da env c fun xs c1 => Sq (xs.length + 1 = n) (ClX sp (.exc C :: xs) c1 P (fun y fs c2 => W y fs env c2) {} {}) {} := rfl
theorem x_makeV0 : dMakeVX 0 C n sp W da (some (.exc C) :: env) c P = dMakeX C n sp W da (some (.exc C) :: env) c P := propext ⟨fun h => h.2, fun h => ⟨rfl, h⟩⟩
end
open He (eqO eqO_ok ba ga ma)
end DL
set_option maxHeartbeats 2000000
namespace HandSHeadRun
noncomputable section
open PySem PySem.W PySem.Calls PyProof.Rows
end
end HandSHeadRun
namespace DL
open PySem PySem.Spec PyProof.Rows L2
end DL

namespace RW
open PySem PySem.Spec PyProof.Rows L2 DL
abbrev N_counts_of : List Str := ["heights", "total", "ends", "start", "end"]
theorem sc_counts_of : FnScope N_counts_of ["heights", "total"] (defScope s_counts_of) := ⟨rfl, rfl, rfl, by decide +kernel, rfl, by decide +kernel, by decide +kernel⟩
abbrev N_heights_of : List Str := ["filling", "place"]
theorem sc_heights_of : FnScope N_heights_of ["filling"] (defScope s_heights_of) := ⟨rfl, rfl, rfl, by decide +kernel, rfl, by decide +kernel, by decide +kernel⟩
abbrev N_is_number : List Str := ["value"]
theorem sc_is_number : FnScope N_is_number ["value"] (defScope s_is_number) := ⟨rfl, rfl, rfl, by decide +kernel, rfl, by decide +kernel, by decide +kernel⟩
abbrev N_is_filling : List Str := ["n", "value", "count"]
theorem sc_is_filling : FnScope N_is_filling ["n", "value"] (defScope s_is_filling) := ⟨rfl, rfl, rfl, by decide +kernel, rfl, by decide +kernel, by decide +kernel⟩
abbrev N_covers : List Str := ["n", "first", "size", "place"]
theorem sc_covers : FnScope N_covers ["n", "first", "size", "place"] (defScope s_covers) := ⟨rfl, rfl, rfl, by decide +kernel, rfl, by decide +kernel, by decide +kernel⟩
abbrev N_window_places : List Str := ["n", "first", "size", "place"]
theorem sc_window_places : FnScope N_window_places ["n", "first", "size"] (defScope s_window_places) := ⟨rfl, rfl, rfl, by decide +kernel, rfl, by decide +kernel, by decide +kernel⟩
abbrev N_window_sum : List Str := ["filling", "first", "size", "place"]
theorem sc_window_sum : FnScope N_window_sum ["filling", "first", "size"] (defScope s_window_sum) := ⟨rfl, rfl, rfl, by decide +kernel, rfl, by decide +kernel, by decide +kernel⟩
abbrev N_broken_rules : List Str := ["n", "rules", "filling", "broken", "index", "first", "size", "least", "most", "units"]
theorem sc_broken_rules : FnScope N_broken_rules ["n", "rules", "filling"] (defScope s_broken_rules) := ⟨rfl, rfl, rfl, by decide +kernel, rfl, by decide +kernel, by decide +kernel⟩
abbrev N_fits : List Str := ["n", "rules", "value"]
theorem sc_fits : FnScope N_fits ["n", "rules", "value"] (defScope s_fits) := ⟨rfl, rfl, rfl, by decide +kernel, rfl, by decide +kernel, by decide +kernel⟩
abbrev N_leads_of : List Str := ["one", "other", "start", "end"]
theorem sc_leads_of : FnScope N_leads_of ["one", "other"] (defScope s_leads_of) := ⟨rfl, rfl, rfl, by decide +kernel, rfl, by decide +kernel, by decide +kernel⟩
abbrev N_least_steps : List Str := ["one", "other", "leads"]
theorem sc_least_steps : FnScope N_least_steps ["one", "other"] (defScope s_least_steps) := ⟨rfl, rfl, rfl, by decide +kernel, rfl, by decide +kernel, by decide +kernel⟩
abbrev N_filling_after : List Str := ["heights", "shifts", "total", "steps", "moved", "height", "shift"]
theorem sc_filling_after : FnScope N_filling_after ["heights", "shifts", "total", "steps"] (defScope s_filling_after) := ⟨rfl, rfl, rfl, by decide +kernel, rfl, by decide +kernel, by decide +kernel⟩
abbrev N_find_way : List Str := ["n", "rules", "one", "other", "many", "heights", "leads", "shifts", "lead", "steps"]
theorem sc_find_way : FnScope N_find_way ["n", "rules", "one", "other"] (defScope s_find_way) := ⟨rfl, rfl, rfl, by decide +kernel, rfl, by decide +kernel, by decide +kernel⟩
abbrev N_is_step : List Str := ["one", "other", "steps"]
theorem sc_is_step : FnScope N_is_step ["one", "other"] (defScope s_is_step) := ⟨rfl, rfl, rfl, by decide +kernel, rfl, by decide +kernel, by decide +kernel⟩
abbrev N_way_holds : List Str := ["n", "rules", "one", "other", "value", "filling", "before", "after"]
theorem sc_way_holds : FnScope N_way_holds ["n", "rules", "one", "other", "value"] (defScope s_way_holds) := ⟨rfl, rfl, rfl, by decide +kernel, rfl, by decide +kernel, by decide +kernel⟩
abbrev N__law_sum : List Str := ["_law_filling", "_law_first", "_law_size", "_law_k"]
theorem sc__law_sum : FnScope N__law_sum ["_law_filling", "_law_first", "_law_size"] (defScope s__law_sum) := ⟨rfl, rfl, rfl, by decide +kernel, rfl, by decide +kernel, by decide +kernel⟩
abbrev N__law_rules : List Str := ["_law_deck_here", "_law_n", "_law_fillings", "_law_most", "_law_found", "_law_k", "_law_first", "_law_size", "_law_loose", "_law_sums", "_law_low", "_law_high", "_law_filling"]
theorem sc__law_rules : FnScope N__law_rules ["_law_deck_here", "_law_n", "_law_fillings", "_law_most"] (defScope s__law_rules) := ⟨rfl, rfl, rfl, by decide +kernel, rfl, by decide +kernel, by decide +kernel⟩
abbrev N__law_fits : List Str := ["_law_n", "_law_rules_here", "_law_value", "_law_first", "_law_size", "_law_low", "_law_high", "_law_found", "_law_count"]
theorem sc__law_fits : FnScope N__law_fits ["_law_n", "_law_rules_here", "_law_value"] (defScope s__law_fits) := ⟨rfl, rfl, rfl, by decide +kernel, rfl, by decide +kernel, by decide +kernel⟩
abbrev N__law_all : List Str := ["_law_n", "_law_total", "_law_found", "_law_place", "_law_longer", "_law_row", "_law_left", "_law_count"]
theorem sc__law_all : FnScope N__law_all ["_law_n", "_law_total"] (defScope s__law_all) := ⟨rfl, rfl, rfl, by decide +kernel, rfl, by decide +kernel, by decide +kernel⟩
abbrev N__law_flows : List Str := ["_law_n", "_law_found", "_law_border", "_law_longer", "_law_row", "_law_unit"]
theorem sc__law_flows : FnScope N__law_flows ["_law_n"] (defScope s__law_flows) := ⟨rfl, rfl, rfl, by decide +kernel, rfl, by decide +kernel, by decide +kernel⟩
abbrev N__law_sent : List Str := ["_law_filling", "_law_flows_here", "_law_n", "_law_k"]
theorem sc__law_sent : FnScope N__law_sent ["_law_filling", "_law_flows_here"] (defScope s__law_sent) := ⟨rfl, rfl, rfl, by decide +kernel, rfl, by decide +kernel, by decide +kernel⟩
abbrev N__law_reached : List Str := ["_law_one", "_law_every", "_law_flows_here", "_law_found", "_law_rows", "_law_last", "_law_flow", "_law_after"]
theorem sc__law_reached : FnScope N__law_reached ["_law_one", "_law_every"] (defScope s__law_reached) := ⟨rfl, rfl, rfl, by decide +kernel, rfl, by decide +kernel, by decide +kernel⟩
abbrev N_law : List Str := ["_law_script", "_law_deck_here", "_law_turn", "_law_n", "_law_total", "_law_all_of", "_law_one", "_law_other", "_law_rules_here", "_law_every", "_law_steps", "_law_filling", "_law_way"]
theorem sc_law : FnScope N_law ["_law_script"] (defScope s_law) := ⟨rfl, rfl, rfl, by decide +kernel, rfl, by decide +kernel, by decide +kernel⟩
abbrev sp__law_draw : DL.Spec := drawSpec
def dt_counts_of : DS := (sSeq (sAsg (dOp rdAddX (dF (fSl (dVar 0) (oSome (dC (.int 1))) oNo)) (dLst (aCons (dOp rdAdd (dOp rdIx (dVar 0) (dC (.int 0))) (dVar 1)) aNil))) (gNm 2)) (sRet (dCB rdTuple (aCons (dLc (wZipL (aCons (dVar 0) (aCons (dVar 2) aNil))) (gTu 2 (gsCons (gNm 3) (gsCons (gNm 4) gsNil))) tOn (dOp rdSub (dVar 4) (dVar 3)) (List.map (·.2) ([("start", 3), ("end", 4)] : List (Str × Nat)))) aNil))))
def sp_counts_of : DL.Spec := bodySpec 5 dt_counts_of
def dt_heights_of : DS := (sRet (dLc (wR1 (aCons (dCB rdLen (aCons (dVar 0) aNil)) aNil)) (gNm 1) tOn (dCB rdSumA (aCons (dSlT (dVar 0) oNo (oSome (dVar 1))) aNil)) (List.map (·.2) ([("place", 1)] : List (Str × Nat)))))
def sp_heights_of : DL.Spec := bodySpec 2 dt_heights_of
def dt_is_number : DS := (sRet (dAn (dUn (rdTy isInt) (dVar 0)) (dNt (dUn (rdTy isBool) (dVar 0)))))
def sp_is_number : DL.Spec := bodySpec 1 dt_is_number
def dt_is_filling : DS := (sSeq (sIf (tOo (tNt (tVal (dUn (rdTy isTup) (dVar 1)))) (tVal (dOp rdNe (dCB rdLen (aCons (dVar 1) aNil)) (dVar 0)))) (sRet (dC (.bool false))) sNx) (sRet (dCB rdAll (aCons (dLc (wT (dVar 1)) (gNm 2) tOn (dAn (dCall (fun xs c P => xs.length = 1 ∧ sp_is_number xs c P) (aCons (dVar 2) aNil)) (dOp rdGe (dVar 2) (dC (.int 0)))) (List.map (·.2) ([("count", 2)] : List (Str × Nat)))) aNil))))
def sp_is_filling : DL.Spec := bodySpec 3 dt_is_filling
def dt_covers : DS := (sRet (dOp rdLt (dOp rdMod (dOp rdSub (dVar 3) (dVar 1)) (dVar 0)) (dVar 2)))
def sp_covers : DL.Spec := bodySpec 4 dt_covers
def dt_window_places : DS := (sRet (dCB rdTuple (aCons (dLc (wR1 (aCons (dVar 0) aNil)) (gNm 3) (tVal (dCall (fun xs c P => xs.length = 4 ∧ sp_covers xs c P) (aCons (dVar 0) (aCons (dVar 1) (aCons (dVar 2) (aCons (dVar 3) aNil)))))) (dVar 3) (List.map (·.2) ([("place", 3)] : List (Str × Nat)))) aNil)))
def sp_window_places : DL.Spec := bodySpec 4 dt_window_places
def dt_window_sum : DS := (sRet (dCB rdSumA (aCons (dLc (wT (dCall (fun xs c P => xs.length = 3 ∧ sp_window_places xs c P) (aCons (dCB rdLen (aCons (dVar 0) aNil)) (aCons (dVar 1) (aCons (dVar 2) aNil))))) (gNm 3) tOn (dOp rdIx (dVar 0) (dVar 3)) (List.map (·.2) ([("place", 3)] : List (Str × Nat)))) aNil)))
def sp_window_sum : DL.Spec := bodySpec 4 dt_window_sum
def dt_broken_rules : DS := (sSeq (sNew 3) (sSeq (sFor (wEnumerateT (aCons (dVar 1) aNil)) (gTu 2 (gsCons (gNm 4) (gsCons (gTu 4 (gsCons (gNm 5) (gsCons (gNm 6) (gsCons (gNm 7) (gsCons (gNm 8) gsNil))))) gsNil))) (sSeq (sAsg (dCall (fun xs c P => xs.length = 3 ∧ sp_window_sum xs c P) (aCons (dVar 2) (aCons (dVar 5) (aCons (dVar 6) aNil)))) (gNm 9)) (sSeq (sIf (tVal (dOp rdLt (dVar 9) (dVar 7))) (sApp 3 (dTup (aCons (dVar 4) (aCons (dC (.str "least")) aNil)))) sNx) (sIf (tAn (tVal (dUn rdNotN (dVar 8))) (tVal (dOp rdGt (dVar 9) (dVar 8)))) (sApp 3 (dTup (aCons (dVar 4) (aCons (dC (.str "most")) aNil)))) sNx)))) (sFrz 3 (sRet (dCB rdTuple (aCons (dVar 3) aNil))))))
def sp_broken_rules : DL.Spec := bodySpec 10 dt_broken_rules
def dt_fits : DS := (sRet (dAn (dCall (fun xs c P => xs.length = 2 ∧ sp_is_filling xs c P) (aCons (dVar 0) (aCons (dVar 2) aNil))) (dOp rdEq (dCall (fun xs c P => xs.length = 3 ∧ sp_broken_rules xs c P) (aCons (dVar 0) (aCons (dVar 1) (aCons (dVar 2) aNil)))) (dTup aNil))))
def sp_fits : DL.Spec := bodySpec 3 dt_fits
def dt_leads_of : DS := (sRet (dLc (wZipL (aCons (dCall (fun xs c P => xs.length = 1 ∧ sp_heights_of xs c P) (aCons (dVar 0) aNil)) (aCons (dCall (fun xs c P => xs.length = 1 ∧ sp_heights_of xs c P) (aCons (dVar 1) aNil)) aNil))) (gTu 2 (gsCons (gNm 2) (gsCons (gNm 3) gsNil))) tOn (dOp rdSub (dVar 3) (dVar 2)) (List.map (·.2) ([("start", 2), ("end", 3)] : List (Str × Nat)))))
def sp_leads_of : DL.Spec := bodySpec 4 dt_leads_of
def dt_least_steps : DS := (sSeq (sIf (tVal (dOp rdNe (dCB rdSumA (aCons (dVar 0) aNil)) (dCB rdSumA (aCons (dVar 1) aNil)))) (sRet (dC .none)) sNx) (sSeq (sAsg (dCall (fun xs c P => xs.length = 2 ∧ sp_leads_of xs c P) (aCons (dVar 0) (aCons (dVar 1) aNil))) (gNm 2)) (sRet (dOp rdDiv (dOp rdAdd (dOp rdSub (dCB rdMaxA (aCons (dVar 2) aNil)) (dCB rdMinA (aCons (dVar 2) aNil))) (dC (.int 1))) (dC (.int 2))))))
def sp_least_steps : DL.Spec := bodySpec 3 dt_least_steps
def dt_filling_after : DS := (sSeq (sAsg (dLc (wZipL (aCons (dVar 0) (aCons (dVar 1) aNil))) (gTu 2 (gsCons (gNm 5) (gsCons (gNm 6) gsNil))) tOn (dOp rdAdd (dVar 5) (dCB rdMaxA (aCons (dUn rdNeg (dVar 3)) (aCons (dCB rdMinA (aCons (dVar 3) (aCons (dVar 6) aNil))) aNil)))) (List.map (·.2) ([("height", 5), ("shift", 6)] : List (Str × Nat)))) (gNm 4)) (sRet (dCall (fun xs c P => xs.length = 2 ∧ sp_counts_of xs c P) (aCons (dVar 4) (aCons (dVar 2) aNil)))))
def sp_filling_after : DL.Spec := bodySpec 7 dt_filling_after
def dt_find_way : DS := (sSeq (sAsg (dCall (fun xs c P => xs.length = 2 ∧ sp_least_steps xs c P) (aCons (dVar 2) (aCons (dVar 3) aNil))) (gNm 4)) (sSeq (sIf (tVal (dUn rdIsN (dVar 4))) (sRet (dC .none)) sNx) (sSeq (sIf (tVal (dOp rdGt (dVar 4) (dC (.int 500)))) sNo sNx) (sSeq (sAsg (dCall (fun xs c P => xs.length = 1 ∧ sp_heights_of xs c P) (aCons (dVar 2) aNil)) (gNm 5)) (sSeq (sAsg (dCall (fun xs c P => xs.length = 2 ∧ sp_leads_of xs c P) (aCons (dVar 2) (aCons (dVar 3) aNil))) (gNm 6)) (sSeq (sAsg (dLc (wL (dVar 6)) (gNm 8) tOn (dOp rdAdd (dOp rdSub (dVar 8) (dCB rdMaxA (aCons (dVar 6) aNil))) (dVar 4)) (List.map (·.2) ([("lead", 8)] : List (Str × Nat)))) (gNm 7)) (sRet (dCB rdTuple (aCons (dLc (wR1 (aCons (dOp rdAdd (dVar 4) (dC (.int 1))) aNil)) (gNm 9) tOn (dCall (fun xs c P => xs.length = 4 ∧ sp_filling_after xs c P) (aCons (dVar 5) (aCons (dVar 7) (aCons (dCB rdSumA (aCons (dVar 2) aNil)) (aCons (dVar 9) aNil))))) (List.map (·.2) ([("steps", 9)] : List (Str × Nat)))) aNil)))))))))
def sp_find_way : DL.Spec := bodySpec 10 dt_find_way
def dt_is_step : DS := (sSeq (sAsg (dCall (fun xs c P => xs.length = 2 ∧ sp_least_steps xs c P) (aCons (dVar 0) (aCons (dVar 1) aNil))) (gNm 2)) (sRet (dAn (dUn rdNotN (dVar 2)) (dOp rdLe (dVar 2) (dC (.int 1))))))
def sp_is_step : DL.Spec := bodySpec 3 dt_is_step
def dt_way_holds : DS := (sSeq (sIf (tOo (tNt (tVal (dUn (rdTy isTup) (dVar 4)))) (tVal (dOp rdEq (dCB rdLen (aCons (dVar 4) aNil)) (dC (.int 0))))) (sRet (dC (.bool false))) sNx) (sSeq (sIf (tNt (tVal (dCB rdAll (aCons (dLc (wT (dVar 4)) (gNm 5) tOn (dCall (fun xs c P => xs.length = 3 ∧ sp_fits xs c P) (aCons (dVar 0) (aCons (dVar 1) (aCons (dVar 5) aNil)))) (List.map (·.2) ([("filling", 5)] : List (Str × Nat)))) aNil)))) (sRet (dC (.bool false))) sNx) (sSeq (sIf (tOo (tVal (dOp rdNe (dOp rdIx (dVar 4) (dC (.int 0))) (dVar 2))) (tVal (dOp rdNe (dOp rdIx (dVar 4) (dUn rdNeg (dC (.int 1)))) (dVar 3)))) (sRet (dC (.bool false))) sNx) (sRet (dCB rdAll (aCons (dLc (wZipT (aCons (dVar 4) (aCons (dSlT (dVar 4) (oSome (dC (.int 1))) oNo) aNil))) (gTu 2 (gsCons (gNm 6) (gsCons (gNm 7) gsNil))) tOn (dCall (fun xs c P => xs.length = 2 ∧ sp_is_step xs c P) (aCons (dVar 6) (aCons (dVar 7) aNil))) (List.map (·.2) ([("before", 6), ("after", 7)] : List (Str × Nat)))) aNil))))))
def sp_way_holds : DL.Spec := bodySpec 8 dt_way_holds
def dt__law_sum : DS := (sRet (dCB rdSumA (aCons (dLc (wR1 (aCons (dVar 2) aNil)) (gNm 3) tOn (dOp rdIx (dVar 0) (dOp rdMod (dOp rdAdd (dVar 1) (dVar 3)) (dCB rdLen (aCons (dVar 0) aNil)))) (List.map (·.2) ([("_law_k", 3)] : List (Str × Nat)))) aNil)))
def sp__law_sum : DL.Spec := bodySpec 4 dt__law_sum
def dt__law_rules : DS := (sSeq (sNew 4) (sSeq (sFor (wR1 (aCons (dCall (fun xs c P => xs.length = 2 ∧ sp__law_draw xs c P) (aCons (dVar 0) (aCons (dOp rdAdd (dVar 3) (dC (.int 1))) aNil))) aNil)) (gNm 5) (sSeq (sAsg (dTup (aCons (dCall (fun xs c P => xs.length = 2 ∧ sp__law_draw xs c P) (aCons (dVar 0) (aCons (dVar 1) aNil))) (aCons (dOp rdAdd (dC (.int 1)) (dCall (fun xs c P => xs.length = 2 ∧ sp__law_draw xs c P) (aCons (dVar 0) (aCons (dVar 1) aNil)))) (aCons (dOp rdIx (dLst (aCons (dC (.int 0)) (aCons (dC (.int 0)) (aCons (dC (.int 1)) (aCons (dC (.int 50)) aNil))))) (dCall (fun xs c P => xs.length = 2 ∧ sp__law_draw xs c P) (aCons (dVar 0) (aCons (dC (.int 4)) aNil)))) aNil)))) (gTu 3 (gsCons (gNm 6) (gsCons (gNm 7) (gsCons (gNm 8) gsNil))))) (sSeq (sAsg (dLc (wL (dVar 2)) (gNm 12) tOn (dCall (fun xs c P => xs.length = 3 ∧ sp__law_sum xs c P) (aCons (dVar 12) (aCons (dVar 6) (aCons (dVar 7) aNil)))) (List.map (·.2) ([("_law_filling", 12)] : List (Str × Nat)))) (gNm 9)) (sSeq (sPar 10 11 (aCons (dCB rdMinA (aCons (dOp rdPow (dC (.int 10)) (dC (.int 9))) (aCons (dCB rdMaxA (aCons (dC (.int 0)) (aCons (dOp rdSub (dCB rdMinA (aCons (dVar 9) aNil)) (dVar 8)) aNil))) aNil))) (aCons (dOp rdAdd (dCB rdMaxA (aCons (dVar 9) aNil)) (dVar 8)) aNil))) (sApp 4 (dTup (aCons (dVar 6) (aCons (dVar 7) (aCons (dVar 10) (aCons (dIfE (tOo (tVal (dOp rdGt (dVar 11) (dOp rdPow (dC (.int 10)) (dC (.int 9))))) (tVal (dOp rdEq (dCall (fun xs c P => xs.length = 2 ∧ sp__law_draw xs c P) (aCons (dVar 0) (aCons (dC (.int 4)) aNil))) (dC (.int 0))))) (dC .none) (dVar 11)) aNil)))))))))) (sFrz 4 (sRet (dCB rdTuple (aCons (dVar 4) aNil))))))
def sp__law_rules : DL.Spec := bodySpec 13 dt__law_rules
def dt__law_fits : DS := (sSeq (sIf (tOo (tNt (tVal (dUn (rdTy isTup) (dVar 2)))) (tVal (dOp rdNe (dCB rdLen (aCons (dVar 2) aNil)) (dVar 0)))) (sRet (dC (.bool false))) sNx) (sSeq (sIf (tVal (dOp rdNeNil (dLc (wT (dVar 2)) (gNm 8) (tOo (tNt (tVal (dUn (rdTy isInt) (dVar 8)))) (tOo (tVal (dUn (rdTy isBool) (dVar 8))) (tVal (dOp rdLt (dVar 8) (dC (.int 0)))))) (dC (.int 1)) (List.map (·.2) ([("_law_count", 8)] : List (Str × Nat)))) (dLst aNil))) (sRet (dC (.bool false))) sNx) (sSeq (sFor (wT (dVar 1)) (gTu 4 (gsCons (gNm 3) (gsCons (gNm 4) (gsCons (gNm 5) (gsCons (gNm 6) gsNil))))) (sSeq (sAsg (dCall (fun xs c P => xs.length = 3 ∧ sp__law_sum xs c P) (aCons (dVar 2) (aCons (dVar 3) (aCons (dVar 4) aNil)))) (gNm 7)) (sIf (tOo (tVal (dOp rdLt (dVar 7) (dVar 5))) (tAn (tVal (dUn rdNotN (dVar 6))) (tVal (dOp rdGt (dVar 7) (dVar 6))))) (sRet (dC (.bool false))) sNx))) (sRet (dC (.bool true))))))
def sp__law_fits : DL.Spec := bodySpec 9 dt__law_fits
def dt__law_all : DS := (sSeq (sAsg (dLst (aCons (dTup aNil) aNil)) (gNm 2)) (sSeq (sFor (wR1 (aCons (dVar 0) aNil)) (gNm 3) (sSeq (sNew 4) (sSeq (sFor (wL (dVar 2)) (gNm 5) (sSeq (sAsg (dOp rdSub (dVar 1) (dCB rdSumA (aCons (dVar 5) aNil))) (gNm 6)) (sExt 4 (fLc (wR1 (aCons (dOp rdAdd (dVar 6) (dC (.int 1))) aNil)) (gNm 7) (tOo (tVal (dOp rdLt (dVar 3) (dOp rdSub (dVar 0) (dC (.int 1))))) (tVal (dOp rdEq (dVar 7) (dVar 6)))) (dOp rdAddU (dVar 5) (dTup (aCons (dVar 7) aNil))) (List.map (·.2) ([("_law_count", 7)] : List (Str × Nat))))))) (sFrz 4 (sAsg (dVar 4) (gNm 2)))))) (sRet (dVar 2))))
def sp__law_all : DL.Spec := bodySpec 8 dt__law_all
def dt__law_flows : DS := (sSeq (sAsg (dLst (aCons (dTup aNil) aNil)) (gNm 1)) (sSeq (sFor (wR1 (aCons (dVar 0) aNil)) (gNm 2) (sSeq (sNew 3) (sSeq (sFor (wL (dVar 1)) (gNm 4) (sExt 3 (fLc (wT (dTup (aCons (dUn rdNeg (dC (.int 1))) (aCons (dC (.int 0)) (aCons (dC (.int 1)) aNil))))) (gNm 5) tOn (dOp rdAddU (dVar 4) (dTup (aCons (dVar 5) aNil))) (List.map (·.2) ([("_law_unit", 5)] : List (Str × Nat)))))) (sFrz 3 (sAsg (dVar 3) (gNm 1)))))) (sRet (dVar 1))))
def sp__law_flows : DL.Spec := bodySpec 6 dt__law_flows
def dt__law_sent : DS := (sSeq (sAsg (dCB rdLen (aCons (dVar 0) aNil)) (gNm 2)) (sRet (dCB rdTuple (aCons (dLc (wR1 (aCons (dVar 2) aNil)) (gNm 3) tOn (dOp rdSub (dOp rdAdd (dOp rdIx (dVar 0) (dVar 3)) (dOp rdIx (dVar 1) (dVar 3))) (dOp rdIx (dVar 1) (dOp rdMod (dOp rdAdd (dVar 3) (dC (.int 1))) (dVar 2)))) (List.map (·.2) ([("_law_k", 3)] : List (Str × Nat)))) aNil))))
def sp__law_sent : DL.Spec := bodySpec 4 dt__law_sent
def dt__law_reached : DS := (sSeq (sPar3F 2 3 4 (dCall (fun xs c P => xs.length = 1 ∧ sp__law_flows xs c P) (aCons (dCB rdLen (aCons (dVar 0) aNil)) aNil)) (dDic 0 0) (fLst (aCons (dVar 0) aNil))) (sSeq (sWhile (tVal (dOwnNn 4 (dLst aNil))) (sSeq (sPopA 4 5) (sFor (wL (dVar 2)) (gNm 6) (sSeq (sAsg (dCall (fun xs c P => xs.length = 2 ∧ sp__law_sent xs c P) (aCons (dVar 5) (aCons (dVar 6) aNil))) (gNm 7)) (sIf (tAn (tVal (dOp rdInD (dVar 7) (dVar 1))) (tVal (dInD true (dVar 7) (dVar 3)))) (sSeq (sPutD (dVar 3) (dVar 7) (dOp rdAdd (dIxD (dVar 3) (dVar 5)) (dC (.int 1)))) (sApp 4 (dVar 7))) sNx))))) (sRet (dVar 3))))
def sp__law_reached : DL.Spec := bodySpec 8 dt__law_reached
def dt_law (Z : Str → Addr) : DS := (sSeq (sDeck 1 0) (sSeq (sFor (wR1 (aCons (dC (.int 3)) aNil)) (gNm 2) (sSeq (sAsg (dTup (aCons (dOp rdAdd (dC (.int 1)) (dCall (fun xs c P => xs.length = 2 ∧ sp__law_draw xs c P) (aCons (dVar 1) (aCons (dC (.int 4)) aNil)))) (aCons (dCall (fun xs c P => xs.length = 2 ∧ sp__law_draw xs c P) (aCons (dVar 1) (aCons (dC (.int 5)) aNil))) aNil))) (gTu 2 (gsCons (gNm 3) (gsCons (gNm 4) gsNil)))) (sSeq (sAsg (dCall (fun xs c P => xs.length = 2 ∧ sp__law_all xs c P) (aCons (dVar 3) (aCons (dVar 4) aNil))) (gNm 5)) (sSeq (sPar 6 7 (aCons (dOp rdIx (dVar 5) (dCall (fun xs c P => xs.length = 2 ∧ sp__law_draw xs c P) (aCons (dVar 1) (aCons (dCB rdLen (aCons (dVar 5) aNil)) aNil)))) (aCons (dOp rdIx (dVar 5) (dCall (fun xs c P => xs.length = 2 ∧ sp__law_draw xs c P) (aCons (dVar 1) (aCons (dCB rdLen (aCons (dVar 5) aNil)) aNil)))) aNil))) (sSeq (sAsg (dCall (fun xs c P => xs.length = 4 ∧ sp__law_rules xs c P) (aCons (dVar 1) (aCons (dVar 3) (aCons (dLst (aCons (dVar 6) (aCons (dVar 7) aNil))) (aCons (dC (.int 4)) aNil))))) (gNm 8)) (sSeq (sAsg (dLc (wL (dVar 5)) (gNm 11) (tVal (dCall (fun xs c P => xs.length = 3 ∧ sp__law_fits xs c P) (aCons (dVar 3) (aCons (dVar 8) (aCons (dVar 11) aNil))))) (dVar 11) (List.map (·.2) ([("_law_filling", 11)] : List (Str × Nat)))) (gNm 9)) (sSeq (sAsg (dCall (fun xs c P => xs.length = 2 ∧ sp__law_reached xs c P) (aCons (dVar 6) (aCons (dVar 9) aNil))) (gNm 10)) (sFor (wL (dVar 9)) (gNm 11) (sSeq (sIf (tOo (tVal (dInD true (dVar 11) (dVar 10))) (tVal (dOp rdNe (dCB rdRepr (aCons (dCall (fun xs c P => xs.length = 2 ∧ sp_least_steps xs c P) (aCons (dVar 6) (aCons (dVar 11) aNil))) aNil)) (dCB rdRepr (aCons (dIxD (dVar 10) (dVar 11)) aNil))))) (sRet (dC (.bool false))) sNx) (sSeq (sIf (tVal (dOp rdNe (dCall (fun xs c P => xs.length = 5 ∧ sp_way_holds xs c P) (aCons (dVar 3) (aCons (dVar 8) (aCons (dVar 6) (aCons (dVar 11) (aCons (dTup (aCons (dVar 6) (aCons (dVar 11) aNil))) aNil)))))) (dOp rdLt (dIxD (dVar 10) (dVar 11)) (dC (.int 2))))) (sRet (dC (.bool false))) sNx) (sSeq (sAsg (dCall (fun xs c P => xs.length = 4 ∧ sp_find_way xs c P) (aCons (dVar 3) (aCons (dVar 8) (aCons (dVar 6) (aCons (dVar 11) aNil))))) (gNm 12)) (sIf (tOo (tVal (dOp rdNe (dCB rdLen (aCons (dVar 12) aNil)) (dOp rdAdd (dIxD (dVar 10) (dVar 11)) (dC (.int 1))))) (tVal (dOp rdNotB (dCall (fun xs c P => xs.length = 5 ∧ sp_way_holds xs c P) (aCons (dVar 3) (aCons (dVar 8) (aCons (dVar 6) (aCons (dVar 11) (aCons (dVar 12) aNil)))))) (dC (.bool true))))) (sRet (dC (.bool false))) sNx)))))))))))) (sRet (dC (.bool true)))))
def sp_law (Z : Str → Addr) : DL.Spec := bodySpec 13 (dt_law Z)
section
variable {P : Program} {w : World} {K : PySem.W.Frag} {mg : Str → Option Value} {base : Heap} {Z : Str → Addr}
theorem ok_counts_of {f : Addr} {fd : FuncData} (F : Fun K "counts_of" "counts_of" s_counts_of f fd) (hm : mg "counts_of" = some (.ref f)) (hb : Binds K fd ["heights", "total"] []) (m_tuple : mg "tuple" = none) (m_zip : mg "zip" = none) : Def P w K mg base 1 "counts_of" 2 sp_counts_of := by
  have nd := sc_counts_of.nd
  refine def_of (N := N_counts_of) (dt := dt_counts_of) F sc_counts_of hm hb rfl (fun cdv A outer s H E hr hgd => ?_)
  exact (ds_cons (ds_set 2 nd (de_addX (de_f (df_sl (de_var 0) (do_some de_int) do_none)) (de_lst (da_cons (de_add (de_item (de_var 0) de_int) (de_var 1)) da_nil)))) (ds_one (ds_ret (de_callT call_tuple_of cd_tuple m_tuple (by decide +kernel) (da_cons (de_lc [("start", 3), ("end", 4)] nd (dw_zipL (da_cons (de_var 0) (da_cons (de_var 2) da_nil)) m_zip) (blkOk_by (N := N_counts_of) (sc := defScope s_counts_of) (by decide +kernel)) (fun _ _ _ _ _ => (dg_tup (dgs_cons (dg_name 3 nd) (dgs_cons (dg_name 4 nd) dgs_nil)))) (fun _ _ _ _ _ => dts_nil) (fun _ _ _ _ _ => (de_sub (de_var 4) (de_var 3)))) da_nil)))))
theorem ok_heights_of {f : Addr} {fd : FuncData} (F : Fun K "heights_of" "heights_of" s_heights_of f fd) (hm : mg "heights_of" = some (.ref f)) (hb : Binds K fd ["filling"] []) (m_len : mg "len" = none) (m_range : mg "range" = none) (m_sum : mg "sum" = none) : Def P w K mg base 1 "heights_of" 1 sp_heights_of := by
  have nd := sc_heights_of.nd
  refine def_of (N := N_heights_of) (dt := dt_heights_of) F sc_heights_of hm hb rfl (fun cdv A outer s H E hr hgd => ?_)
  exact (ds_one (ds_ret (de_lc [("place", 1)] nd (dw_r1 (da_cons (de_callB call_len_seq cd_len m_len (by decide +kernel) (da_cons (de_var 0) da_nil)) da_nil) m_range) (blkOk_by (N := N_heights_of) (sc := defScope s_heights_of) (by decide +kernel)) (fun _ _ _ _ _ => (dg_name 1 nd)) (fun _ _ _ _ _ => dts_nil) (fun _ _ _ _ _ => (de_callB (cr_or (cr_sum rfl) (cr_sumT rfl)) cd_sumA m_sum (by decide +kernel) (da_cons (de_slT (de_var 0) do_none (do_some (de_var 1))) da_nil))))))
theorem ok_is_number {f : Addr} {fd : FuncData} (F : Fun K "is_number" "is_number" s_is_number f fd) (hm : mg "is_number" = some (.ref f)) (hb : Binds K fd ["value"] []) (m_bool : mg "bool" = none) (m_int : mg "int" = none) (m_isinstance : mg "isinstance" = none) : Def P w K mg base 1 "is_number" 1 sp_is_number := by
  have nd := sc_is_number.nd
  refine def_of (N := N_is_number) (dt := dt_is_number) F sc_is_number hm hb rfl (fun cdv A outer s H E hr hgd => ?_)
  exact (ds_one (ds_ret (de_and (de_isi kit_int m_isinstance m_int (by decide +kernel) (de_var 0)) (de_one (de_not (de_isi kit_bool m_isinstance m_bool (by decide +kernel) (de_var 0)))))))
theorem ok_is_filling {f : Addr} {fd : FuncData} (F : Fun K "is_filling" "is_filling" s_is_filling f fd) (hm : mg "is_filling" = some (.ref f)) (hb : Binds K fd ["n", "value"] []) (m_all : mg "all" = none) (m_isinstance : mg "isinstance" = none) (m_len : mg "len" = none) (m_tuple : mg "tuple" = none) (d_is_number : Def P w K mg base 1 "is_number" 1 sp_is_number) : Def P w K mg base 2 "is_filling" 2 sp_is_filling := by
  have nd := sc_is_filling.nd
  refine def_of (N := N_is_filling) (dt := dt_is_filling) F sc_is_filling hm hb rfl (fun cdv A outer s H E hr hgd => ?_)
  exact (ds_cons (ds_if (dt_w (dw_or (dt_not (dt_val (de_isi kit_tup m_isinstance m_tuple (by decide +kernel) (de_var 1)))) (dw_or1 (dt_ne hr (de_callB call_len_seq cd_len m_len (by decide +kernel) (da_cons (de_var 1) da_nil)) (de_var 0))))) (ds_one (ds_ret de_bl)) ds_nil) (ds_one (ds_ret (de_callB (cr_all rfl) cd_all m_all (by decide +kernel) (da_cons (de_lc [("count", 2)] nd (dw_tup (de_var 1)) (blkOk_by (N := N_is_filling) (sc := defScope s_is_filling) (by decide +kernel)) (fun _ _ _ _ _ => (dg_name 2 nd)) (fun _ _ _ _ _ => dts_nil) (fun _ _ _ _ _ => (de_and (de_call d_is_number (hr.mono (by decide)) hgd (da_cons (de_var 2) da_nil)) (de_one (de_ge (de_var 2) de_int))))) da_nil)))))
theorem ok_covers {f : Addr} {fd : FuncData} (F : Fun K "covers" "covers" s_covers f fd) (hm : mg "covers" = some (.ref f)) (hb : Binds K fd ["n", "first", "size", "place"] []) : Def P w K mg base 1 "covers" 4 sp_covers := by
  have nd := sc_covers.nd
  refine def_of (N := N_covers) (dt := dt_covers) F sc_covers hm hb rfl (fun cdv A outer s H E hr hgd => ?_)
  exact (ds_one (ds_ret (de_lt (de_mod (de_sub (de_var 3) (de_var 1)) (de_var 0)) (de_var 2))))
theorem ok_window_places {f : Addr} {fd : FuncData} (F : Fun K "window_places" "window_places" s_window_places f fd) (hm : mg "window_places" = some (.ref f)) (hb : Binds K fd ["n", "first", "size"] []) (m_range : mg "range" = none) (m_tuple : mg "tuple" = none) (d_covers : Def P w K mg base 1 "covers" 4 sp_covers) : Def P w K mg base 2 "window_places" 3 sp_window_places := by
  have nd := sc_window_places.nd
  refine def_of (N := N_window_places) (dt := dt_window_places) F sc_window_places hm hb rfl (fun cdv A outer s H E hr hgd => ?_)
  exact (ds_one (ds_ret (de_callT call_tuple_of cd_tuple m_tuple (by decide +kernel) (da_cons (de_lc [("place", 3)] nd (dw_r1 (da_cons (de_var 0) da_nil) m_range) (blkOk_by (N := N_window_places) (sc := defScope s_window_places) (by decide +kernel)) (fun _ _ _ _ _ => (dg_name 3 nd)) (fun _ _ _ _ _ => (dts_one (dt_val (de_call d_covers (hr.mono (by decide)) hgd (da_cons (de_var 0) (da_cons (de_var 1) (da_cons (de_var 2) (da_cons (de_var 3) da_nil)))))))) (fun _ _ _ _ _ => (de_var 3))) da_nil))))
theorem ok_window_sum {f : Addr} {fd : FuncData} (F : Fun K "window_sum" "window_sum" s_window_sum f fd) (hm : mg "window_sum" = some (.ref f)) (hb : Binds K fd ["filling", "first", "size"] []) (m_len : mg "len" = none) (m_sum : mg "sum" = none) (d_window_places : Def P w K mg base 2 "window_places" 3 sp_window_places) : Def P w K mg base 3 "window_sum" 3 sp_window_sum := by
  have nd := sc_window_sum.nd
  refine def_of (N := N_window_sum) (dt := dt_window_sum) F sc_window_sum hm hb rfl (fun cdv A outer s H E hr hgd => ?_)
  exact (ds_one (ds_ret (de_callB (cr_or (cr_sum rfl) (cr_sumT rfl)) cd_sumA m_sum (by decide +kernel) (da_cons (de_lc [("place", 3)] nd (dw_tup (de_call d_window_places (hr.mono (by decide)) hgd (da_cons (de_callB call_len_seq cd_len m_len (by decide +kernel) (da_cons (de_var 0) da_nil)) (da_cons (de_var 1) (da_cons (de_var 2) da_nil))))) (blkOk_by (N := N_window_sum) (sc := defScope s_window_sum) (by decide +kernel)) (fun _ _ _ _ _ => (dg_name 3 nd)) (fun _ _ _ _ _ => dts_nil) (fun _ _ _ _ _ => (de_item (de_var 0) (de_var 3)))) da_nil))))
theorem ok_broken_rules {f : Addr} {fd : FuncData} (F : Fun K "broken_rules" "broken_rules" s_broken_rules f fd) (hm : mg "broken_rules" = some (.ref f)) (hb : Binds K fd ["n", "rules", "filling"] []) (m_enumerate : mg "enumerate" = none) (m_tuple : mg "tuple" = none) (d_window_sum : Def P w K mg base 3 "window_sum" 3 sp_window_sum) : Def P w K mg base 4 "broken_rules" 3 sp_broken_rules := by
  have nd := sc_broken_rules.nd
  refine def_of (N := N_broken_rules) (dt := dt_broken_rules) F sc_broken_rules hm hb rfl (fun cdv A outer s H E hr hgd => ?_)
  exact (ds_cons (ds_new 3 nd) (ds_cons (ds_for (dw_enumerateT (da_cons (de_var 1) da_nil) m_enumerate) (dg_tup (dgs_cons (dg_name 4 nd) (dgs_cons (dg_tup (dgs_cons (dg_name 5 nd) (dgs_cons (dg_name 6 nd) (dgs_cons (dg_name 7 nd) (dgs_cons (dg_name 8 nd) dgs_nil))))) dgs_nil))) (ds_cons (ds_set 9 nd (de_call d_window_sum (hr.mono (by decide)) hgd (da_cons (de_var 2) (da_cons (de_var 5) (da_cons (de_var 6) da_nil))))) (ds_cons (ds_if (dt_lt (de_var 9) (de_var 7)) (ds_one (ds_app 3 (de_tup (da_cons (de_var 4) (da_cons de_str da_nil))))) ds_nil) (ds_one (ds_if (dt_w (dw_and (dt_notN (de_var 8)) (dw_and1 (dt_gt (de_var 9) (de_var 8))))) (ds_one (ds_app 3 (de_tup (da_cons (de_var 4) (da_cons de_str da_nil))))) ds_nil))))) (ds_frz 3 (ds_one (ds_ret (de_callT call_tuple_of cd_tuple m_tuple (by decide +kernel) (da_cons (de_var 3) da_nil)))))))
theorem ok_fits {f : Addr} {fd : FuncData} (F : Fun K "fits" "fits" s_fits f fd) (hm : mg "fits" = some (.ref f)) (hb : Binds K fd ["n", "rules", "value"] []) (d_broken_rules : Def P w K mg base 4 "broken_rules" 3 sp_broken_rules) (d_is_filling : Def P w K mg base 2 "is_filling" 2 sp_is_filling) : Def P w K mg base 5 "fits" 3 sp_fits := by
  have nd := sc_fits.nd
  refine def_of (N := N_fits) (dt := dt_fits) F sc_fits hm hb rfl (fun cdv A outer s H E hr hgd => ?_)
  exact (ds_one (ds_ret (de_and (de_call d_is_filling (hr.mono (by decide)) hgd (da_cons (de_var 0) (da_cons (de_var 2) da_nil))) (de_one (de_eq hr (de_call d_broken_rules (hr.mono (by decide)) hgd (da_cons (de_var 0) (da_cons (de_var 1) (da_cons (de_var 2) da_nil)))) (de_tup da_nil))))))
theorem ok_leads_of {f : Addr} {fd : FuncData} (F : Fun K "leads_of" "leads_of" s_leads_of f fd) (hm : mg "leads_of" = some (.ref f)) (hb : Binds K fd ["one", "other"] []) (m_zip : mg "zip" = none) (d_heights_of : Def P w K mg base 1 "heights_of" 1 sp_heights_of) : Def P w K mg base 2 "leads_of" 2 sp_leads_of := by
  have nd := sc_leads_of.nd
  refine def_of (N := N_leads_of) (dt := dt_leads_of) F sc_leads_of hm hb rfl (fun cdv A outer s H E hr hgd => ?_)
  exact (ds_one (ds_ret (de_lc [("start", 2), ("end", 3)] nd (dw_zipL (da_cons (de_call d_heights_of (hr.mono (by decide)) hgd (da_cons (de_var 0) da_nil)) (da_cons (de_call d_heights_of (hr.mono (by decide)) hgd (da_cons (de_var 1) da_nil)) da_nil)) m_zip) (blkOk_by (N := N_leads_of) (sc := defScope s_leads_of) (by decide +kernel)) (fun _ _ _ _ _ => (dg_tup (dgs_cons (dg_name 2 nd) (dgs_cons (dg_name 3 nd) dgs_nil)))) (fun _ _ _ _ _ => dts_nil) (fun _ _ _ _ _ => (de_sub (de_var 3) (de_var 2))))))
theorem ok_least_steps {f : Addr} {fd : FuncData} (F : Fun K "least_steps" "least_steps" s_least_steps f fd) (hm : mg "least_steps" = some (.ref f)) (hb : Binds K fd ["one", "other"] []) (m_max : mg "max" = none) (m_min : mg "min" = none) (m_sum : mg "sum" = none) (d_leads_of : Def P w K mg base 2 "leads_of" 2 sp_leads_of) : Def P w K mg base 3 "least_steps" 2 sp_least_steps := by
  have nd := sc_least_steps.nd
  refine def_of (N := N_least_steps) (dt := dt_least_steps) F sc_least_steps hm hb rfl (fun cdv A outer s H E hr hgd => ?_)
  exact (ds_cons (ds_if (dt_ne hr (de_callB (cr_or (cr_sum rfl) (cr_sumT rfl)) cd_sumA m_sum (by decide +kernel) (da_cons (de_var 0) da_nil)) (de_callB (cr_or (cr_sum rfl) (cr_sumT rfl)) cd_sumA m_sum (by decide +kernel) (da_cons (de_var 1) da_nil))) (ds_one (ds_ret de_non)) ds_nil) (ds_cons (ds_set 2 nd (de_call d_leads_of (hr.mono (by decide)) hgd (da_cons (de_var 0) (da_cons (de_var 1) da_nil)))) (ds_one (ds_ret (de_div (de_add (de_sub (de_callB (cr_or (call_max2 rfl) (cr_max rfl)) cd_maxA m_max (by decide +kernel) (da_cons (de_var 2) da_nil)) (de_callB (cr_or (call_min2 rfl) (cr_min rfl)) cd_minA m_min (by decide +kernel) (da_cons (de_var 2) da_nil))) de_int) de_int)))))
theorem ok_filling_after {f : Addr} {fd : FuncData} (F : Fun K "filling_after" "filling_after" s_filling_after f fd) (hm : mg "filling_after" = some (.ref f)) (hb : Binds K fd ["heights", "shifts", "total", "steps"] []) (m_max : mg "max" = none) (m_min : mg "min" = none) (m_zip : mg "zip" = none) (d_counts_of : Def P w K mg base 1 "counts_of" 2 sp_counts_of) : Def P w K mg base 2 "filling_after" 4 sp_filling_after := by
  have nd := sc_filling_after.nd
  refine def_of (N := N_filling_after) (dt := dt_filling_after) F sc_filling_after hm hb rfl (fun cdv A outer s H E hr hgd => ?_)
  exact (ds_cons (ds_setLc 4 [("height", 5), ("shift", 6)] nd (dw_zipL (da_cons (de_var 0) (da_cons (de_var 1) da_nil)) m_zip) (blkOk_by (N := N_filling_after) (sc := defScope s_filling_after) (by decide +kernel)) (fun _ _ _ _ _ => (dg_tup (dgs_cons (dg_name 5 nd) (dgs_cons (dg_name 6 nd) dgs_nil)))) (fun _ _ _ _ _ => dts_nil) (fun _ _ _ _ _ => (de_add (de_var 5) (de_callB (cr_or (call_max2 rfl) (cr_max rfl)) cd_maxA m_max (by decide +kernel) (da_cons (de_neg (de_var 3)) (da_cons (de_callB (cr_or (call_min2 rfl) (cr_min rfl)) cd_minA m_min (by decide +kernel) (da_cons (de_var 3) (da_cons (de_var 6) da_nil))) da_nil))))) (sw_true rfl rfl rfl (by decide +kernel))) (ds_one (ds_ret (de_call d_counts_of (hr.mono (by decide)) hgd (da_cons (de_var 4) (da_cons (de_var 2) da_nil))))))
theorem ok_find_way {f : Addr} {fd : FuncData} (F : Fun K "find_way" "find_way" s_find_way f fd) (hm : mg "find_way" = some (.ref f)) (hb : Binds K fd ["n", "rules", "one", "other"] []) {t_LISTED : Tok} (g_LISTED : mg "LISTED" = some (.int 500 t_LISTED)) (m_max : mg "max" = none) (m_range : mg "range" = none) (m_sum : mg "sum" = none) (m_tuple : mg "tuple" = none) (d_filling_after : Def P w K mg base 2 "filling_after" 4 sp_filling_after) (d_heights_of : Def P w K mg base 1 "heights_of" 1 sp_heights_of) (d_leads_of : Def P w K mg base 2 "leads_of" 2 sp_leads_of) (d_least_steps : Def P w K mg base 3 "least_steps" 2 sp_least_steps) : Def P w K mg base 4 "find_way" 4 sp_find_way := by
  have nd := sc_find_way.nd
  refine def_of (N := N_find_way) (dt := dt_find_way) F sc_find_way hm hb rfl (fun cdv A outer s H E hr hgd => ?_)
  exact (ds_cons (ds_set 4 nd (de_call d_least_steps (hr.mono (by decide)) hgd (da_cons (de_var 2) (da_cons (de_var 3) da_nil)))) (ds_cons (ds_if (dt_isN (de_var 4)) (ds_one (ds_ret de_non)) ds_nil) (ds_cons (ds_if (dt_gt (de_var 4) (de_glob (i := 500) g_LISTED ⟨_, rfl⟩)) (ds_one ds_no) ds_nil) (ds_cons (ds_set 5 nd (de_call d_heights_of (hr.mono (by decide)) hgd (da_cons (de_var 2) da_nil))) (ds_cons (ds_set 6 nd (de_call d_leads_of (hr.mono (by decide)) hgd (da_cons (de_var 2) (da_cons (de_var 3) da_nil)))) (ds_cons (ds_set 7 nd (de_lc [("lead", 8)] nd (dw_list (de_var 6)) (blkOk_by (N := N_find_way) (sc := defScope s_find_way) (by decide +kernel)) (fun _ _ _ _ _ => (dg_name 8 nd)) (fun _ _ _ _ _ => dts_nil) (fun _ _ _ _ _ => (de_add (de_sub (de_var 8) (de_callB (cr_or (call_max2 rfl) (cr_max rfl)) cd_maxA m_max (by decide +kernel) (da_cons (de_var 6) da_nil))) (de_var 4))))) (ds_one (ds_ret (de_callT call_tuple_of cd_tuple m_tuple (by decide +kernel) (da_cons (de_lc [("steps", 9)] nd (dw_r1 (da_cons (de_add (de_var 4) de_int) da_nil) m_range) (blkOk_by (N := N_find_way) (sc := defScope s_find_way) (by decide +kernel)) (fun _ _ _ _ _ => (dg_name 9 nd)) (fun _ _ _ _ _ => dts_nil) (fun _ _ _ _ _ => (de_call d_filling_after (hr.mono (by decide)) hgd (da_cons (de_var 5) (da_cons (de_var 7) (da_cons (de_callB (cr_or (cr_sum rfl) (cr_sumT rfl)) cd_sumA m_sum (by decide +kernel) (da_cons (de_var 2) da_nil)) (da_cons (de_var 9) da_nil))))))) da_nil))))))))))
theorem ok_is_step {f : Addr} {fd : FuncData} (F : Fun K "is_step" "is_step" s_is_step f fd) (hm : mg "is_step" = some (.ref f)) (hb : Binds K fd ["one", "other"] []) (d_least_steps : Def P w K mg base 3 "least_steps" 2 sp_least_steps) : Def P w K mg base 4 "is_step" 2 sp_is_step := by
  have nd := sc_is_step.nd
  refine def_of (N := N_is_step) (dt := dt_is_step) F sc_is_step hm hb rfl (fun cdv A outer s H E hr hgd => ?_)
  exact (ds_cons (ds_set 2 nd (de_call d_least_steps (hr.mono (by decide)) hgd (da_cons (de_var 0) (da_cons (de_var 1) da_nil)))) (ds_one (ds_ret (de_and (de_notN (de_var 2)) (de_one (de_le (de_var 2) de_int))))))
theorem ok_way_holds {f : Addr} {fd : FuncData} (F : Fun K "way_holds" "way_holds" s_way_holds f fd) (hm : mg "way_holds" = some (.ref f)) (hb : Binds K fd ["n", "rules", "one", "other", "value"] []) (m_all : mg "all" = none) (m_isinstance : mg "isinstance" = none) (m_len : mg "len" = none) (m_tuple : mg "tuple" = none) (m_zip : mg "zip" = none) (d_fits : Def P w K mg base 5 "fits" 3 sp_fits) (d_is_step : Def P w K mg base 4 "is_step" 2 sp_is_step) : Def P w K mg base 6 "way_holds" 5 sp_way_holds := by
  have nd := sc_way_holds.nd
  refine def_of (N := N_way_holds) (dt := dt_way_holds) F sc_way_holds hm hb rfl (fun cdv A outer s H E hr hgd => ?_)
  exact (ds_cons (ds_if (dt_w (dw_or (dt_not (dt_val (de_isi kit_tup m_isinstance m_tuple (by decide +kernel) (de_var 4)))) (dw_or1 (dt_eq hr (de_callB call_len_seq cd_len m_len (by decide +kernel) (da_cons (de_var 4) da_nil)) de_int)))) (ds_one (ds_ret de_bl)) ds_nil) (ds_cons (ds_if (dt_not (dt_val (de_callB (cr_all rfl) cd_all m_all (by decide +kernel) (da_cons (de_lc [("filling", 5)] nd (dw_tup (de_var 4)) (blkOk_by (N := N_way_holds) (sc := defScope s_way_holds) (by decide +kernel)) (fun _ _ _ _ _ => (dg_name 5 nd)) (fun _ _ _ _ _ => dts_nil) (fun _ _ _ _ _ => (de_call d_fits (hr.mono (by decide)) hgd (da_cons (de_var 0) (da_cons (de_var 1) (da_cons (de_var 5) da_nil)))))) da_nil)))) (ds_one (ds_ret de_bl)) ds_nil) (ds_cons (ds_if (dt_w (dw_or (dt_ne hr (de_item (de_var 4) de_int) (de_var 2)) (dw_or1 (dt_ne hr (de_item (de_var 4) (de_neg de_int)) (de_var 3))))) (ds_one (ds_ret de_bl)) ds_nil) (ds_one (ds_ret (de_callB (cr_all rfl) cd_all m_all (by decide +kernel) (da_cons (de_lc [("before", 6), ("after", 7)] nd (dw_zipT (da_cons (de_var 4) (da_cons (de_slT (de_var 4) (do_some de_int) do_none) da_nil)) m_zip) (blkOk_by (N := N_way_holds) (sc := defScope s_way_holds) (by decide +kernel)) (fun _ _ _ _ _ => (dg_tup (dgs_cons (dg_name 6 nd) (dgs_cons (dg_name 7 nd) dgs_nil)))) (fun _ _ _ _ _ => dts_nil) (fun _ _ _ _ _ => (de_call d_is_step (hr.mono (by decide)) hgd (da_cons (de_var 6) (da_cons (de_var 7) da_nil))))) da_nil)))))))
theorem ok__law_sum {f : Addr} {fd : FuncData} (F : Fun K "_law_sum" "_law_sum" s__law_sum f fd) (hm : mg "_law_sum" = some (.ref f)) (hb : Binds K fd ["_law_filling", "_law_first", "_law_size"] []) (m_len : mg "len" = none) (m_range : mg "range" = none) (m_sum : mg "sum" = none) : Def P w K mg base 1 "_law_sum" 3 sp__law_sum := by
  have nd := sc__law_sum.nd
  refine def_of (N := N__law_sum) (dt := dt__law_sum) F sc__law_sum hm hb rfl (fun cdv A outer s H E hr hgd => ?_)
  exact (ds_one (ds_ret (de_callB (cr_or (cr_sum rfl) (cr_sumT rfl)) cd_sumA m_sum (by decide +kernel) (da_cons (de_lc [("_law_k", 3)] nd (dw_r1 (da_cons (de_var 2) da_nil) m_range) (blkOk_by (N := N__law_sum) (sc := defScope s__law_sum) (by decide +kernel)) (fun _ _ _ _ _ => (dg_name 3 nd)) (fun _ _ _ _ _ => dts_nil) (fun _ _ _ _ _ => (de_item (de_var 0) (de_mod (de_add (de_var 1) (de_var 3)) (de_callB call_len_seq cd_len m_len (by decide +kernel) (da_cons (de_var 0) da_nil)))))) da_nil))))
theorem ok__law_rules {f : Addr} {fd : FuncData} (F : Fun K "_law_rules" "_law_rules" s__law_rules f fd) (hm : mg "_law_rules" = some (.ref f)) (hb : Binds K fd ["_law_deck_here", "_law_n", "_law_fillings", "_law_most"] []) (m_max : mg "max" = none) (m_min : mg "min" = none) (m_range : mg "range" = none) (m_tuple : mg "tuple" = none) (d__law_draw : Def P w K mg base 1 "_law_draw" 2 sp__law_draw) (d__law_sum : Def P w K mg base 1 "_law_sum" 3 sp__law_sum) : Def P w K mg base 2 "_law_rules" 4 sp__law_rules := by
  have nd := sc__law_rules.nd
  refine def_of (N := N__law_rules) (dt := dt__law_rules) F sc__law_rules hm hb rfl (fun cdv A outer s H E hr hgd => ?_)
  exact (ds_cons (ds_new 4 nd) (ds_cons (ds_for (dw_r1 (da_cons (de_call d__law_draw (hr.mono (by decide)) hgd (da_cons (de_var 0) (da_cons (de_add (de_var 3) de_int) da_nil))) da_nil) m_range) (dg_name 5 nd) (ds_cons (ds_asg (de_tup (da_cons (de_call d__law_draw (hr.mono (by decide)) hgd (da_cons (de_var 0) (da_cons (de_var 1) da_nil))) (da_cons (de_add de_int (de_call d__law_draw (hr.mono (by decide)) hgd (da_cons (de_var 0) (da_cons (de_var 1) da_nil)))) (da_cons (de_item (de_lst (da_cons de_int (da_cons de_int (da_cons de_int (da_cons de_int da_nil))))) (de_call d__law_draw (hr.mono (by decide)) hgd (da_cons (de_var 0) (da_cons de_int da_nil)))) da_nil)))) (dg_tup (dgs_cons (dg_name 6 nd) (dgs_cons (dg_name 7 nd) (dgs_cons (dg_name 8 nd) dgs_nil))))) (ds_cons (ds_setLc 9 [("_law_filling", 12)] nd (dw_list (de_var 2)) (blkOk_by (N := N__law_rules) (sc := defScope s__law_rules) (by decide +kernel)) (fun _ _ _ _ _ => (dg_name 12 nd)) (fun _ _ _ _ _ => dts_nil) (fun _ _ _ _ _ => (de_call d__law_sum (hr.mono (by decide)) hgd (da_cons (de_var 12) (da_cons (de_var 6) (da_cons (de_var 7) da_nil))))) (sw_true rfl rfl rfl (by decide +kernel))) (ds_cons (ds_par 10 11 nd (da_cons (de_callB (cr_or (call_min2 rfl) (cr_min rfl)) cd_minA m_min (by decide +kernel) (da_cons (de_pow de_int de_int) (da_cons (de_callB (cr_or (call_max2 rfl) (cr_max rfl)) cd_maxA m_max (by decide +kernel) (da_cons de_int (da_cons (de_sub (de_callB (cr_or (call_min2 rfl) (cr_min rfl)) cd_minA m_min (by decide +kernel) (da_cons (de_var 9) da_nil)) (de_var 8)) da_nil))) da_nil))) (da_cons (de_add (de_callB (cr_or (call_max2 rfl) (cr_max rfl)) cd_maxA m_max (by decide +kernel) (da_cons (de_var 9) da_nil)) (de_var 8)) da_nil))) (ds_one (ds_app 4 (de_tup (da_cons (de_var 6) (da_cons (de_var 7) (da_cons (de_var 10) (da_cons (de_ifE (dt_w (dw_or (dt_gt (de_var 11) (de_pow de_int de_int)) (dw_or1 (dt_eq hr (de_call d__law_draw (hr.mono (by decide)) hgd (da_cons (de_var 0) (da_cons de_int da_nil))) de_int)))) de_non (de_var 11)) da_nil))))))))))) (ds_frz 4 (ds_one (ds_ret (de_callT call_tuple_of cd_tuple m_tuple (by decide +kernel) (da_cons (de_var 4) da_nil)))))))
theorem ok__law_fits {f : Addr} {fd : FuncData} (F : Fun K "_law_fits" "_law_fits" s__law_fits f fd) (hm : mg "_law_fits" = some (.ref f)) (hb : Binds K fd ["_law_n", "_law_rules_here", "_law_value"] []) (m_bool : mg "bool" = none) (m_int : mg "int" = none) (m_isinstance : mg "isinstance" = none) (m_len : mg "len" = none) (m_tuple : mg "tuple" = none) (d__law_sum : Def P w K mg base 1 "_law_sum" 3 sp__law_sum) : Def P w K mg base 2 "_law_fits" 3 sp__law_fits := by
  have nd := sc__law_fits.nd
  refine def_of (N := N__law_fits) (dt := dt__law_fits) F sc__law_fits hm hb rfl (fun cdv A outer s H E hr hgd => ?_)
  exact (ds_cons (ds_if (dt_w (dw_or (dt_not (dt_val (de_isi kit_tup m_isinstance m_tuple (by decide +kernel) (de_var 2)))) (dw_or1 (dt_ne hr (de_callB call_len_seq cd_len m_len (by decide +kernel) (da_cons (de_var 2) da_nil)) (de_var 0))))) (ds_one (ds_ret de_bl)) ds_nil) (ds_cons (ds_if (dt_neNil hr (de_lc [("_law_count", 8)] nd (dw_tup (de_var 2)) (blkOk_by (N := N__law_fits) (sc := defScope s__law_fits) (by decide +kernel)) (fun _ _ _ _ _ => (dg_name 8 nd)) (fun _ _ _ _ _ => (dts_one (dt_w (dw_or (dt_not (dt_val (de_isi kit_int m_isinstance m_int (by decide +kernel) (de_var 8)))) (dw_or (dt_val (de_isi kit_bool m_isinstance m_bool (by decide +kernel) (de_var 8))) (dw_or1 (dt_lt (de_var 8) de_int))))))) (fun _ _ _ _ _ => de_int)) (de_lst da_nil)) (ds_one (ds_ret de_bl)) ds_nil) (ds_cons (ds_for (dw_tup (de_var 1)) (dg_tup (dgs_cons (dg_name 3 nd) (dgs_cons (dg_name 4 nd) (dgs_cons (dg_name 5 nd) (dgs_cons (dg_name 6 nd) dgs_nil))))) (ds_cons (ds_set 7 nd (de_call d__law_sum (hr.mono (by decide)) hgd (da_cons (de_var 2) (da_cons (de_var 3) (da_cons (de_var 4) da_nil))))) (ds_one (ds_if (dt_w (dw_or (dt_lt (de_var 7) (de_var 5)) (dw_or1 (dt_w (dw_and (dt_notN (de_var 6)) (dw_and1 (dt_gt (de_var 7) (de_var 6)))))))) (ds_one (ds_ret de_bl)) ds_nil)))) (ds_one (ds_ret de_bl)))))
theorem ok__law_all {f : Addr} {fd : FuncData} (F : Fun K "_law_all" "_law_all" s__law_all f fd) (hm : mg "_law_all" = some (.ref f)) (hb : Binds K fd ["_law_n", "_law_total"] []) (m_range : mg "range" = none) (m_sum : mg "sum" = none) : Def P w K mg base 1 "_law_all" 2 sp__law_all := by
  have nd := sc__law_all.nd
  refine def_of (N := N__law_all) (dt := dt__law_all) F sc__law_all hm hb rfl (fun cdv A outer s H E hr hgd => ?_)
  exact (ds_cons (ds_set 2 nd (de_lst (da_cons (de_tup da_nil) da_nil))) (ds_cons (ds_for (dw_r1 (da_cons (de_var 0) da_nil) m_range) (dg_name 3 nd) (ds_cons (ds_new 4 nd) (ds_cons (ds_for (dw_list (de_var 2)) (dg_name 5 nd) (ds_cons (ds_set 6 nd (de_sub (de_var 1) (de_callB (cr_or (cr_sum rfl) (cr_sumT rfl)) cd_sumA m_sum (by decide +kernel) (da_cons (de_var 5) da_nil)))) (ds_one (ds_ext 4 (df_lc [("_law_count", 7)] nd (dw_r1 (da_cons (de_add (de_var 6) de_int) da_nil) m_range) (blkOk_by (N := N__law_all) (sc := defScope s__law_all) (by decide +kernel)) (fun _ _ _ _ _ => (dg_name 7 nd)) (fun _ _ _ _ _ => (dts_one (dt_w (dw_or (dt_lt (de_var 3) (de_sub (de_var 0) de_int)) (dw_or1 (dt_eq hr (de_var 7) (de_var 6))))))) (fun _ _ _ _ _ => (de_addU (de_var 5) (de_tup (da_cons (de_var 7) da_nil))))))))) (ds_frz 4 (ds_one (ds_set 2 nd (de_var 4))))))) (ds_one (ds_ret (de_var 2)))))
theorem ok__law_flows {f : Addr} {fd : FuncData} (F : Fun K "_law_flows" "_law_flows" s__law_flows f fd) (hm : mg "_law_flows" = some (.ref f)) (hb : Binds K fd ["_law_n"] []) (m_range : mg "range" = none) : Def P w K mg base 1 "_law_flows" 1 sp__law_flows := by
  have nd := sc__law_flows.nd
  refine def_of (N := N__law_flows) (dt := dt__law_flows) F sc__law_flows hm hb rfl (fun cdv A outer s H E hr hgd => ?_)
  exact (ds_cons (ds_set 1 nd (de_lst (da_cons (de_tup da_nil) da_nil))) (ds_cons (ds_for (dw_r1 (da_cons (de_var 0) da_nil) m_range) (dg_name 2 nd) (ds_cons (ds_new 3 nd) (ds_cons (ds_for (dw_list (de_var 1)) (dg_name 4 nd) (ds_one (ds_ext 3 (df_lc [("_law_unit", 5)] nd (dw_tup (de_tup (da_cons (de_neg de_int) (da_cons de_int (da_cons de_int da_nil))))) (blkOk_by (N := N__law_flows) (sc := defScope s__law_flows) (by decide +kernel)) (fun _ _ _ _ _ => (dg_name 5 nd)) (fun _ _ _ _ _ => dts_nil) (fun _ _ _ _ _ => (de_addU (de_var 4) (de_tup (da_cons (de_var 5) da_nil)))))))) (ds_frz 3 (ds_one (ds_set 1 nd (de_var 3))))))) (ds_one (ds_ret (de_var 1)))))
theorem ok__law_sent {f : Addr} {fd : FuncData} (F : Fun K "_law_sent" "_law_sent" s__law_sent f fd) (hm : mg "_law_sent" = some (.ref f)) (hb : Binds K fd ["_law_filling", "_law_flows_here"] []) (m_len : mg "len" = none) (m_range : mg "range" = none) (m_tuple : mg "tuple" = none) : Def P w K mg base 1 "_law_sent" 2 sp__law_sent := by
  have nd := sc__law_sent.nd
  refine def_of (N := N__law_sent) (dt := dt__law_sent) F sc__law_sent hm hb rfl (fun cdv A outer s H E hr hgd => ?_)
  exact (ds_cons (ds_set 2 nd (de_callB call_len_seq cd_len m_len (by decide +kernel) (da_cons (de_var 0) da_nil))) (ds_one (ds_ret (de_callT call_tuple_of cd_tuple m_tuple (by decide +kernel) (da_cons (de_lc [("_law_k", 3)] nd (dw_r1 (da_cons (de_var 2) da_nil) m_range) (blkOk_by (N := N__law_sent) (sc := defScope s__law_sent) (by decide +kernel)) (fun _ _ _ _ _ => (dg_name 3 nd)) (fun _ _ _ _ _ => dts_nil) (fun _ _ _ _ _ => (de_sub (de_add (de_item (de_var 0) (de_var 3)) (de_item (de_var 1) (de_var 3))) (de_item (de_var 1) (de_mod (de_add (de_var 3) de_int) (de_var 2)))))) da_nil)))))
theorem ok__law_reached {f : Addr} {fd : FuncData} (F : Fun K "_law_reached" "_law_reached" s__law_reached f fd) (hm : mg "_law_reached" = some (.ref f)) (hb : Binds K fd ["_law_one", "_law_every"] []) (m_len : mg "len" = none) (d__law_flows : Def P w K mg base 1 "_law_flows" 1 sp__law_flows) (d__law_sent : Def P w K mg base 1 "_law_sent" 2 sp__law_sent) : Def P w K mg base 2 "_law_reached" 2 sp__law_reached := by
  have nd := sc__law_reached.nd
  refine def_of (N := N__law_reached) (dt := dt__law_reached) F sc__law_reached hm hb rfl (fun cdv A outer s H E hr hgd => ?_)
  exact (ds_cons (ds_par3F 2 3 4 nd (de_call d__law_flows (hr.mono (by decide)) hgd (da_cons (de_callB call_len_seq cd_len m_len (by decide +kernel) (da_cons (de_var 0) da_nil)) da_nil)) (de_dic 0 hr) (df_lst (da_cons (de_var 0) da_nil))) (ds_cons (ds_while (dt_ownNn 4 hr (de_lst da_nil)) (ds_cons (ds_popA 4 5 nd) (ds_one (ds_for (dw_list (de_var 2)) (dg_name 6 nd) (ds_cons (ds_set 7 nd (de_call d__law_sent (hr.mono (by decide)) hgd (da_cons (de_var 5) (da_cons (de_var 6) da_nil)))) (ds_one (ds_if (dt_w (dw_and (dt_inD hr (de_var 7) (de_var 1)) (dw_and1 (dt_notInOD hr (de_var 7) (de_var 3))))) (ds_cons (ds_putD hr (de_var 3) (de_var 7) (de_add (de_ixD hr (de_var 3) (de_var 5)) de_int)) (ds_one (ds_app 4 (de_var 7)))) ds_nil))))))) (ds_one (ds_ret (de_var 3)))))
theorem ok_law {f fK : Addr} {fd fdK : FuncData} (F : Fun K "law" "law" s_law f fd) (fnDeck : FnG P w K mg base 1 fK fdK ["_law_script"] (spDeck K)) (mDeck : mg "_law_deck" = some (.ref fK)) (kDeck : PySem.W.keepIn K (.ref fK) = true) (bDeck : Binds K fdK ["_law_script"] []) (m_len : mg "len" = none) (m_range : mg "range" = none) (m_repr : mg "repr" = none) (d__law_all : Def P w K mg base 1 "_law_all" 2 sp__law_all) (d__law_draw : Def P w K mg base 1 "_law_draw" 2 sp__law_draw) (d__law_fits : Def P w K mg base 2 "_law_fits" 3 sp__law_fits) (d__law_reached : Def P w K mg base 2 "_law_reached" 2 sp__law_reached) (d__law_rules : Def P w K mg base 2 "_law_rules" 4 sp__law_rules) (d_find_way : Def P w K mg base 4 "find_way" 4 sp_find_way) (d_least_steps : Def P w K mg base 3 "least_steps" 2 sp_least_steps) (d_way_holds : Def P w K mg base 6 "way_holds" 5 sp_way_holds) : FnG P w K mg base 7 f fd ["_law_script"] (spTop K (sp_law Z)) := by
  have nd := sc_law.nd
  refine top_of (N := N_law) (dt := dt_law Z) F sc_law rfl (fun cdv A outer s H E ht hr hgd => ?_)
  exact (ds_cons (ds_deck 1 0 fnDeck (hr.mono (by decide)) hgd mDeck kDeck bDeck nd ht (pv 0)) (ds_cons (ds_for (dw_r1 (da_cons de_int da_nil) m_range) (dg_name 2 nd) (ds_cons (ds_asg (de_tup (da_cons (de_add de_int (de_call d__law_draw (hr.mono (by decide)) hgd (da_cons (de_var 1) (da_cons de_int da_nil)))) (da_cons (de_call d__law_draw (hr.mono (by decide)) hgd (da_cons (de_var 1) (da_cons de_int da_nil))) da_nil))) (dg_tup (dgs_cons (dg_name 3 nd) (dgs_cons (dg_name 4 nd) dgs_nil)))) (ds_cons (ds_set 5 nd (de_call d__law_all (hr.mono (by decide)) hgd (da_cons (de_var 3) (da_cons (de_var 4) da_nil)))) (ds_cons (ds_par 6 7 nd (da_cons (de_item (de_var 5) (de_call d__law_draw (hr.mono (by decide)) hgd (da_cons (de_var 1) (da_cons (de_callB call_len_seq cd_len m_len (by decide +kernel) (da_cons (de_var 5) da_nil)) da_nil)))) (da_cons (de_item (de_var 5) (de_call d__law_draw (hr.mono (by decide)) hgd (da_cons (de_var 1) (da_cons (de_callB call_len_seq cd_len m_len (by decide +kernel) (da_cons (de_var 5) da_nil)) da_nil)))) da_nil))) (ds_cons (ds_set 8 nd (de_call d__law_rules (hr.mono (by decide)) hgd (da_cons (de_var 1) (da_cons (de_var 3) (da_cons (de_lst (da_cons (de_var 6) (da_cons (de_var 7) da_nil))) (da_cons de_int da_nil)))))) (ds_cons (ds_setLc 9 [("_law_filling", 11)] nd (dw_list (de_var 5)) (blkOk_by (N := N_law) (sc := defScope s_law) (by decide +kernel)) (fun _ _ _ _ _ => (dg_name 11 nd)) (fun _ _ _ _ _ => (dts_one (dt_val (de_call d__law_fits (hr.mono (by decide)) hgd (da_cons (de_var 3) (da_cons (de_var 8) (da_cons (de_var 11) da_nil))))))) (fun _ _ _ _ _ => (de_var 11)) (sw_true rfl rfl rfl (by decide +kernel))) (ds_cons (ds_set 10 nd (de_call d__law_reached (hr.mono (by decide)) hgd (da_cons (de_var 6) (da_cons (de_var 9) da_nil)))) (ds_one (ds_for (dw_list (de_var 9)) (dg_name 11 nd) (ds_cons (ds_if (dt_w (dw_or (dt_notInOD hr (de_var 11) (de_var 10)) (dw_or1 (dt_ne hr (de_callB (cr_repr hgd hr.units) cd_repr m_repr (by decide +kernel) (da_cons (de_call d_least_steps (hr.mono (by decide)) hgd (da_cons (de_var 6) (da_cons (de_var 11) da_nil))) da_nil)) (de_callB (cr_repr hgd hr.units) cd_repr m_repr (by decide +kernel) (da_cons (de_ixD hr (de_var 10) (de_var 11)) da_nil)))))) (ds_one (ds_ret de_bl)) ds_nil) (ds_cons (ds_if (dt_ne hr (de_call d_way_holds (hr.mono (by decide)) hgd (da_cons (de_var 3) (da_cons (de_var 8) (da_cons (de_var 6) (da_cons (de_var 11) (da_cons (de_tup (da_cons (de_var 6) (da_cons (de_var 11) da_nil))) da_nil)))))) (de_lt (de_ixD hr (de_var 10) (de_var 11)) de_int)) (ds_one (ds_ret de_bl)) ds_nil) (ds_cons (ds_set 12 nd (de_call d_find_way (hr.mono (by decide)) hgd (da_cons (de_var 3) (da_cons (de_var 8) (da_cons (de_var 6) (da_cons (de_var 11) da_nil)))))) (ds_one (ds_if (dt_w (dw_or (dt_ne hr (de_callB call_len_seq cd_len m_len (by decide +kernel) (da_cons (de_var 12) da_nil)) (de_add (de_ixD hr (de_var 10) (de_var 11)) de_int)) (dw_or1 (dt_notB (de_call d_way_holds (hr.mono (by decide)) hgd (da_cons (de_var 3) (da_cons (de_var 8) (da_cons (de_var 6) (da_cons (de_var 11) (da_cons (de_var 12) da_nil)))))) de_bl)))) (ds_one (ds_ret de_bl)) ds_nil)))))))))))))) (ds_one (ds_ret de_bl))))
end
end RW
namespace RW
open PySem PySem.Spec PyProof.Rows L2 DL
theorem sc__law_draw : FnScope ["_law_deck_here", "_law_bound", "_law_at", "_law_cell", "_law_mixed"] ["_law_deck_here", "_law_bound"] (defScope s__law_draw) := ⟨rfl, rfl, rfl, by decide +kernel, rfl, by decide +kernel, by decide +kernel⟩
theorem sc__law_deck : FnScope ["_law_script", "_law_cell"] ["_law_script"] (defScope s__law_deck) := ⟨rfl, rfl, rfl, by decide +kernel, rfl, by decide +kernel, by decide +kernel⟩
theorem nn_set {ns : List Int} {j : Nat} {z : Int} (h : ∀ n ∈ ns, 0 ≤ n) (hz : 0 ≤ z) : ∀ n ∈ ns.set j z, 0 ≤ n := fun n hn => by
  rcases List.mem_or_eq_of_mem_set hn with e | e
  · exact h n e
  · rw [e]
    exact hz
theorem log_small {m : Int} (h0 : 0 < m) (h : m < 2 ^ 200) : m.natAbs.log2 < 9000 := by
  have h1 : m.natAbs < 2 ^ 200 := by omega
  have h2 : m.natAbs.log2 < 200 := (Nat.log2_lt (by omega)).mpr h1
  omega
section
variable {P : Program} {w : World} {K : PySem.W.Frag} {mg : Str → Option Value} {base : Heap}
theorem ok__law_draw {f : Addr} {fd : FuncData} (F : Fun K "_law_draw" "_law_draw" s__law_draw f fd) (hm : mg "_law_draw" = some (.ref f)) (hb : Binds K fd ["_law_deck_here", "_law_bound"] []) (m_len : mg "len" = none) (m_max : mg "max" = none) : Def P w K mg base 1 "_law_draw" 2 drawSpec := by
  have nd := sc__law_draw.nd
  refine ⟨f, fd, _, fnG_of F sc__law_draw (fun vs H Q E q => ?_) (fun cdv A outer s H vs Q hr hgd q => ?_), hm, F.kp, hb⟩
  · obtain ⟨g, c, args, P, _, _, ok, _, hl, _⟩ := q
    rw [VOks.len ok, hl]
    rfl
  · obtain ⟨g, ⟨c, cos, cls, ctb⟩, args, P', ex, dk, ok, fr, hl, hs, kk⟩ := q
    unfold drawSpec at hs
    split at hs
    case h_2 => exact hs.elim
    rename_i m
    obtain ⟨hm0, hm1, hc, hP⟩ := hs
    have hc : c < 1000000000 := hc
    match vs, ok with
    | [v, u], ok =>
    obtain ⟨⟨p, q, hdk, rfl⟩, hu, _⟩ := ok
    have hu := dp_int hu
    subst hu
    obtain ⟨hpq, fp, fq, ns, h0, h63, hq, ys, hp, hy⟩ := dk.dk p q hdk
    have hy : ys = [.ref q, .int (c : Int)] := hy
    subst hy
    refine ⟨_, pss_cons (ps_asg (pe_op op_add (pe_ix ix_list (pv 0) pe_int (fun _ _ => rfl)) pe_int) (pg_sub (pv 0) pe_int set_list))
      (pss_cons (ps_set (i := 2) nd rfl (.inl rfl) (pe_op op_mod (pe_ix ix_list (pv 0) pe_int (fun _ _ => rfl)) (pe_callB (call_max2 rfl) rfl m_max (by decide +kernel) (pa_cons pe_int (pa_cons (pe_callB call_len_seq rfl m_len PySem.boot_len (pa_cons (pe_ix ix_list (pv 0) pe_int (fun _ _ => rfl)) pa_nil)) pa_nil)))))
      (pss_cons (ps_set (i := 3) nd rfl (.inl rfl) (pe_ix ix_list (pe_op op_catL (pe_ix ix_list (pv 0) pe_int (fun _ _ => rfl)) (pe_lst (pa_cons pe_int pa_nil))) (pv 2) (fun _ _ => rfl)))
      (pss_cons (ps_if (pt_cmpR op_ge (pv 3) (pe_op op_pow pe_int pe_int) (nomark _))
          (pss_cons (ps_asg (pe_op op_fdivW (pv 3) (pv 1)) (pg_sub (pe_ix ix_list (pv 0) pe_int (fun _ _ => rfl)) (pv 2) set_list))
            (pss_one (ps_ret (pe_op op_mod (pv 3) (pv 1)))))
          pss_nil)
      (pss_cons (ps_set (i := 4) nd rfl (.inl rfl) (pe_op op_mod (pe_op op_pow (pe_op op_add (pe_op op_add (pe_op op_mod (pv 3) pe_int) (pe_op op_mul pe_int (pe_ix ix_list (pv 0) pe_int (fun _ _ => rfl)))) pe_int) pe_int) pe_int))
      (pss_one (ps_ret (pe_op op_mod (pe_op op_add (pe_op op_fdiv (pv 4) pe_int) (pe_op op_mul pe_int (pe_ix ix_list (pv 0) pe_int (fun _ _ => rfl)))) (pv 1)))))))), ?_⟩
    refine ⟨.ref p, rfl, p, _, 1, .int (c : Int), rfl, rfl, .of hp, rfl, (c : Int), 1, rfl, rfl, .ref p, rfl, p, _, 1, 1, rfl, rfl, hp, rfl, ?_⟩
    have hp1 : upd H p (.lst ([V.ref q, .int (c : Int)].set 1 (.int ((c : Int) + 1)))) p = some (.lst [.ref q, .int ((c : Int) + 1)]) := upd_same
    have hq1 : upd H p (.lst ([V.ref q, .int (c : Int)].set 1 (.int ((c : Int) + 1)))) q = some (.lst (ns.map V.int)) := by
      rw [upd_ne hpq.symm]
      exact hq
    have hs1 : ∀ b o, b ≠ p → b ≠ q → H b = some o → upd H p (.lst ([V.ref q, .int (c : Int)].set 1 (.int ((c : Int) + 1)))) b = some o := fun b o h _ e => by
      rw [upd_ne h]
      exact e
    generalize upd H p (.lst ([V.ref q, .int (c : Int)].set 1 (.int ((c : Int) + 1)))) = H1 at hp1 hq1 hs1 ⊢
    have pw : ∀ cell : Int, CPow (cell % 2147483563 + 104729 * ((c : Int) + 1) + 7) 4 := fun cell => ⟨by decide, by decide, by omega⟩
    have md : ∀ z : Int, 0 ≤ z % m ∧ z % m < m := fun z => ⟨Int.emod_nonneg _ (by omega), Int.emod_lt_of_pos _ hm0⟩
    have out : ∀ (z : Int) (ms : List Int) (H3 : Hp), (∀ n ∈ ms, 0 ≤ n) → ms.length ≤ 63 → H3 q = some (.lst (ms.map V.int)) → H3 p = some (.lst [.ref q, .int ((c : Int) + 1)]) → (∀ b o, b ≠ p → b ≠ q → H b = some o → H3 b = some o) → Q (.int (z % m)) H3 := fun z ms H3 a0 a63 aq ap as => by
      obtain ⟨k1, k2, k3⟩ := deck_after (n' := c + 1) dk ex hdk hpq fp fq as a0 a63 aq ap (by show [V.ref q, .int ((c : Int) + 1)] = [V.ref q, .int ((c + 1 : Nat) : Int)]; simp)
      exact kk _ ⟨c + 1, cos, cls, ctb⟩ g H3 _ (hP _ (md z).1 (md z).2) k1 k2 k3 (.int _) trivial
    -- the place
    have hmx : (0 : Int) < (if ((ns.map V.int).length : Int) > 1 then ((ns.map V.int).length : Int) else 1) := by
      split <;> omega
    refine ⟨.ref p, rfl, p, _, 1, _, rfl, rfl, .of hp1, rfl, .ref p, rfl, p, _, 0, .ref q, rfl, rfl, .of hp1, rfl, q, _, rfl, .inl (.of hq1), 1, _, rfl, _, _, rfl, rfl, hmx, ?_⟩
    -- (deck[0] + [0])[at]
    refine ⟨.ref p, rfl, p, _, 0, .ref q, rfl, rfl, .of hp1, rfl, by show 1 ≤ sizeLine; decide, fun T hT => ?_⟩
    refine ⟨q, T, ns.map V.int, [.int 0], rfl, rfl, .of ?_, .of upd_same, by rw [List.length_map]; show ns.length + 1 ≤ sizeLine; exact Nat.le_trans (Nat.add_le_add_right h63 1) (by decide), fun U hU => ?_⟩
    · rw [upd_ne (ne_of_none hq1 hT)]
      exact hq1
    have hpT : upd H1 T (.lst [.int 0]) p = some (.lst [.ref q, .int ((c : Int) + 1)]) := by
      rw [upd_ne (ne_of_none hp1 hT)]
      exact hp1
    have hqT : upd H1 T (.lst [.int 0]) q = some (.lst (ns.map V.int)) := by
      rw [upd_ne (ne_of_none hq1 hT)]
      exact hq1
    have hsT : ∀ b o, b ≠ p → b ≠ q → H b = some o → upd H1 T (.lst [.int 0]) b = some o := fun b o n1 n2 e => by
      rw [upd_ne (ne_of_none (hs1 b o n1 n2 e) hT)]
      exact hs1 b o n1 n2 e
    generalize upd H1 T (.lst [.int 0]) = HT at hpT hqT hsT hU ⊢
    have hp2 : upd HT U (.lst (ns.map V.int ++ [.int 0])) p = some (.lst [.ref q, .int ((c : Int) + 1)]) := by
      rw [upd_ne (ne_of_none hpT hU)]
      exact hpT
    have hq2 : upd HT U (.lst (ns.map V.int ++ [.int 0])) q = some (.lst (ns.map V.int)) := by
      rw [upd_ne (ne_of_none hqT hU)]
      exact hqT
    have hU2 : upd HT U (.lst (ns.map V.int ++ [.int 0])) U = some (.lst (ns.map V.int ++ [.int 0])) := upd_same
    have hs2 : ∀ b o, b ≠ p → b ≠ q → H b = some o → upd HT U (.lst (ns.map V.int ++ [.int 0])) b = some o := fun b o n1 n2 e => by
      rw [upd_ne (ne_of_none (hsT b o n1 n2 e) hU)]
      exact hsT b o n1 n2 e
    generalize upd HT U (.lst (ns.map V.int ++ [.int 0])) = H2 at hp2 hq2 hs2 hU2 ⊢
    obtain ⟨j, hj, cell, hget, hcell, hbig⟩ : ∃ j : Nat, ((c : Int) + 1) % (if ((ns.map V.int).length : Int) > 1 then ((ns.map V.int).length : Int) else 1) = (j : Int) ∧ ∃ cell : Int, (ns.map V.int ++ [V.int 0])[j]? = some (.int cell) ∧ 0 ≤ cell ∧ (0 < cell → j < ns.length) := by
      by_cases hz : ns.length = 0
      · refine ⟨0, ?_, 0, ?_, Int.le_refl _, fun z => absurd z (by decide)⟩
        · rw [List.length_map, hz, if_neg (by decide)]
          omega
        · rw [List.eq_nil_of_length_eq_zero hz]
          rfl
      · have e : (if ((ns.map V.int).length : Int) > 1 then ((ns.map V.int).length : Int) else 1) = (ns.length : Int) := by
          rw [List.length_map]
          split <;> omega
        have hlt : (c + 1) % ns.length < ns.length := Nat.mod_lt _ (by omega)
        refine ⟨(c + 1) % ns.length, ?_, ns[(c + 1) % ns.length], ?_, h0 _ (List.getElem_mem hlt), fun _ => hlt⟩
        · rw [e]
          simp
        · rw [List.getElem?_append_left (by rw [List.length_map]; exact hlt), List.getElem?_map, List.getElem?_eq_getElem hlt]
          rfl
    refine ⟨_, rfl, U, _, _, .int cell, rfl, rfl, .of hU2, at_of hj hget, ?_⟩
    -- cell >= 10 ** 18
    refine ⟨_, rfl, 10, 18, rfl, rfl, ⟨by decide, by decide, by decide⟩, _, _, rfl, rfl, _, rfl, ite2 (fun e2 => ?_) (fun e2 => ?_)⟩
    · have hdiv : 0 ≤ cell / m := Int.ediv_nonneg hcell (by omega)
      have hb2 : (10 : Int) ^ (18 : Int).toNat ≤ cell := of_decide_eq_true e2
      have hlt : j < ns.length := hbig (Int.lt_of_lt_of_le (by decide) hb2)
      refine ⟨_, rfl, _, rfl, _, _, rfl, rfl, ⟨hm0, log_small hm0 hm1⟩, .ref p, rfl, p, _, 0, .ref q, rfl, rfl, .of hp2, rfl, _, rfl, q, _, _, j, rfl, rfl, hq2, ?_, ?_⟩
      · rw [hj]
        unfold ixN
        rw [List.length_map, if_pos (by omega), if_pos (by omega)]
        rfl
      · refine ⟨_, rfl, _, rfl, _, _, rfl, rfl, hm0, ?_⟩
        refine out cell (ns.set j (cell / m)) _ (nn_set h0 hdiv) (by rw [List.length_set]; exact h63) ?_ ?_ ?_
        · rw [upd_same, List.map_set]
        · rw [upd_ne hpq]
          exact hp2
        · intro b o n1 n2 e3
          rw [upd_ne n2]
          exact hs2 b o n1 n2 e3
    · refine ⟨_, rfl, _, 2147483563, rfl, rfl, by show (0 : Int) < 2147483563; decide, .ref p, rfl, p, _, 1, _, rfl, rfl, .of hp2, rfl, 104729, _, rfl, rfl, .inl ⟨by decide, by decide⟩, _, _, rfl, rfl, _, 7, rfl, rfl, _, 4, rfl, rfl, pw cell, _, 2147483629, rfl, rfl, by show (0 : Int) < 2147483629; decide, ?_⟩
      refine ⟨_, rfl, _, 8, rfl, rfl, ⟨by decide, by decide⟩, .ref p, rfl, p, _, 1, _, rfl, rfl, .of hp2, rfl, 31, _, rfl, rfl, .inl ⟨by decide, by decide⟩, _, _, rfl, rfl, _, rfl, _, m, rfl, rfl, hm0, ?_⟩
      exact out _ ns H2 h0 h63 hq2 hp2 hs2
theorem ok__law_deck {f : Addr} {fd : FuncData} (F : Fun K "_law_deck" "_law_deck" s__law_deck f fd) (m_abs : mg "abs" = none) : FnG P w K mg base 1 f fd ["_law_script"] (spDeck K) := by
  have nd := sc__law_deck.nd
  refine fnG_of F sc__law_deck (fun vs H Q E q => ?_) (fun cdv A outer s H vs Q hr hgd q => ?_)
  · obtain ⟨a, ns, rfl, _⟩ := q
    rfl
  · obtain ⟨a, ns0, rfl, hS, hlen0, kk⟩ := q
    refine ⟨_, pss_one (ps_ret (pe_lst (pa_cons (pe_lc (own := [("_law_cell", 1)]) (g := gName 1) (tt := tYes) rfl nd (pi_list (pe_slice sl_list (pv 0) po_none (po_some pe_int))) (blkOk_by (N := ["_law_script", "_law_cell"]) (sc := defScope s__law_deck) (by decide +kernel))
        (fun _ _ _ _ _ => pg_name (i := 1) nd rfl (Or.inl rfl)) (fun _ _ _ _ _ => pts_nil) (fun _ _ _ _ _ => pe_callB call_abs rfl m_abs (by decide +kernel) (pa_cons (pv 1) pa_nil))) (pa_cons pe_int pa_nil)))), ?_⟩
    refine ⟨.ref a, rfl, 60, rfl, a, _, rfl, hS, fun S hSn => ?_⟩
    have hcut : cutV (ns0.map V.int) none (some 60) = (ns0.take 60).map V.int := by
      unfold cutV
      rw [HT.sIx_none, show HT.sIx (ns0.map V.int).length (ns0.map V.int).length (some 60) = min 60 (ns0.map V.int).length from HT.sIx_nat _ _ 60]
      rw [List.length_map]
      show List.take (min 60 ns0.length) (List.map V.int ns0) = List.map V.int (List.take 60 ns0)
      rw [List.map_take]
      by_cases h : 60 ≤ ns0.length
      · rw [Nat.min_eq_left h]
      · rw [Nat.min_eq_right (by omega), List.take_of_length_le (by rw [List.length_map]; exact Nat.le_refl _), List.take_of_length_le (by rw [List.length_map]; omega)]
    rw [hcut]
    have hlen : (ns0.take 60).length ≤ 63 := by
      rw [List.length_take]
      omega
    generalize ns0.take 60 = ns at hlen ⊢
    have sm0 : Same H (upd H S (.lst (ns.map V.int))) := fun b o e => by
      rw [upd_ne (ne_of_none e hSn)]
      exact e
    have hS1 : upd H S (.lst (ns.map V.int)) S = some (.lst (ns.map V.int)) := upd_same
    generalize upd H S (.lst (ns.map V.int)) = H1 at hS1 sm0 ⊢
    refine ⟨S, rfl, ⟨_, .of hS1⟩, fun Dl hD => ?_⟩
    have abs_nn : ∀ n : Int, (if n < 0 then -n else n) = (n.natAbs : Int) := fun n => by
      split <;> omega
    refine lc_list (xs := ns.map V.int) (fun i H2 => H2 Dl = some (.lst ((ns.take i).map fun n => V.int n.natAbs)) ∧ ∀ b o, H1 b = some o → H2 b = some o) ⟨upd_same, fun b o e => by rw [upd_ne (ne_of_none e hD)]; exact e⟩ (fun i H2 _ h => .of (h.2 S _ hS1)) (fun i x H2 hx h => ?_) (fun H2 h => ?_)
    · have hi : i < ns.length := by
        have := (List.getElem?_eq_some_iff.mp hx).1
        rw [List.length_map] at this
        exact this
      have ex : x = .int ns[i] := by
        rw [List.getElem?_map, List.getElem?_eq_getElem hi] at hx
        exact (Option.some.inj hx).symm
      subst ex
      refine ⟨rfl, _, rfl, ns[i], rfl, _, h.1, ?_, ?_, fun b o e => ?_⟩
      · rw [List.length_map, List.length_take]
        exact small1000 (by omega)
      · rw [upd_same, abs_nn, List.take_add_one, List.getElem?_eq_getElem hi, List.map_append]
        rfl
      · rw [upd_ne (ne_of_none e hD)]
        exact h.2 b o e
    · refine ⟨by show 2 ≤ sizeLine; decide, fun p hp => ?_⟩
      have pD : p ≠ Dl := fun z => by
        rw [z, h.1] at hp
        cases hp
      have up : ∀ b o, H b = some o → upd H2 p (.lst [.ref Dl, .int 0]) b = some o := fun b o e => by
        have e2 := h.2 b o (sm0 b o e)
        rw [upd_ne (ne_of_none e2 hp)]
        exact e2
      have fresh : ∀ b, H2 b = none → H b = none := fun b e => by
        cases w : H b with
        | none => rfl
        | some o =>
          rw [h.2 b o (sm0 b o w)] at e
          cases e
      refine kk _ p Dl (ns.map fun n => (n.natAbs : Int)) _ (fun _ => none) up (fresh p hp) (Same.free sm0 hD) pD (fun n hn => ?_) (by rw [List.length_map]; exact hlen) ?_ upd_same (fun _ _ z => by cases z) (fun _ _ z => by cases z) rfl rfl rfl
      · obtain ⟨z, _, rfl⟩ := List.mem_map.mp hn
        omega
      · rw [upd_ne pD.symm, h.1, List.length_map, List.take_length, List.map_map]
        rfl
end
end RW
namespace RW
open PySem PySem.Spec PyProof.Rows L2 DL
def isNum : PyData → Bool
  | .int _ => true
  | _ => false
def isN (d : PyData) (lo hi : Int) : Bool := match d with
  | .int i => decide (lo ≤ i) && decide (i ≤ hi)
  | _ => false
def isNn : PyData → Bool
  | .none => true
  | _ => false
theorem number_ok {d : PyData} {c : Ct} {P : Vl → Ct → Prop} (hP : P (.dat (.bool (isNum d))) c) : sp_is_number [.dat d] c P := by
  cases d <;> exact hP

def covF (n f s : Int) : PyData → Bool
  | .int p => decide ((p - f) % n < s)
  | _ => false
def wpl (n f s : Int) : List PyData := (rangeD 0 n.toNat).filter (covF n f s)
theorem covers_ok {n f s p : Int} {c : Ct} {P : Vl → Ct → Prop} (h : 0 < n) (hP : P (.dat (.bool (decide ((p - f) % n < s)))) c) : sp_covers [.dat (.int n), .dat (.int f), .dat (.int s), .dat (.int p)] c P := ⟨h, hP⟩
theorem places_ok {n f s : Int} (h0 : 0 < n) (h1 : n ≤ 1000) {c : Ct} {P : Vl → Ct → Prop} (hP : P (.dat (.tuple (wpl n f s))) c) : sp_window_places [.dat (.int n), .dat (.int f), .dat (.int s)] c P := by
  refine ⟨by omega, by omega, by rw [rangeD_len]; exact small_len (by omega), lcL_pure (covF n f s) id _ _ _ _ (fun d hd P hP => ?_) (fun d hd hf P hP => ?_) ?_⟩
  · obtain ⟨k, hk, rfl⟩ := rangeD_mem hd
    exact ⟨rfl, covers_ok h0 hP⟩
  · exact hP
  · rw [List.map_id]
    exact hP
def gd (fs : List Int) : PyData → Int
  | .int p => fs.getD p.toNat 0
  | _ => 0
def wsum (fs : List Int) (f s : Int) : Int := ((wpl fs.length f s).map (gd fs)).sum
theorem gd_at {fs : List Int} {k : Nat} (h : k < fs.length) : atI (dInts fs) (0 + (k : Int)) = some (.int (gd fs (.int (0 + (k : Int))))) := by
  rw [Int.zero_add]
  refine atI_nat ?_
  have e : gd fs (.int (k : Int)) = fs[k] := by
    show fs.getD (k : Int).toNat 0 = fs[k]
    rw [Int.toNat_natCast, List.getD_eq_getElem?_getD, List.getElem?_eq_getElem h]
    rfl
  rw [e]
  unfold dInts
  rw [List.getElem?_map, List.getElem?_eq_getElem h]
  rfl
theorem wpl_len (n f s : Int) : (wpl n f s).length ≤ n.toNat := by
  unfold wpl
  have := List.length_filter_le (covF n f s) (rangeD 0 n.toNat)
  rw [rangeD_len] at this
  exact this
theorem wpl_mem {n f s : Int} {d : PyData} (h : d ∈ wpl n f s) : ∃ k : Nat, k < n.toNat ∧ d = .int (0 + k) := rangeD_mem (List.mem_filter.mp h).1
theorem wsum_ok {fs : List Int} {f s : Int} (h0 : 0 < fs.length) (h1 : fs.length ≤ 1000) {c : Ct} {P : Vl → Ct → Prop} (hP : P (.dat (.int (wsum fs f s))) c) : sp_window_sum [.dat (.tuple (dInts fs)), .dat (.int f), .dat (.int s)] c P := by
  refine ⟨rfl, places_ok (by rw [dInts_len]; omega) (by rw [dInts_len]; omega) ⟨?_, lcL_pure (fun _ => true) (fun d => .int (gd fs d)) _ _ _ _ (fun d hd P hP => hP) (fun d hd hf P hP => ?_) ?_⟩⟩
  · have := wpl_len ((dInts fs).length : Int) f s
    rw [dInts_len] at this ⊢
    exact small_len (by omega)
  · obtain ⟨k, hk, rfl⟩ := wpl_mem hd
    rw [dInts_len] at hk
    exact ix_ok (gd_at (by omega)) hP
  · refine ⟨(wpl fs.length f s).map (gd fs), ?_, hP⟩
    rw [dInts_len, List.filter_eq_self.mpr (fun _ _ => rfl), List.nil_append, show List.map (fun d => PyData.int (gd fs d)) (wpl fs.length f s) = ((wpl fs.length f s).map (gd fs)).map PyData.int by rw [List.map_map]; rfl]
    exact intsOf_map _
def psum (fs : List Int) (f : Int) : Nat → Int
  | 0 => 0
  | j + 1 => psum fs f j + fs.getD ((f + j) % fs.length).toNat 0
def covN (L : Nat) (f : Int) (s : Int) (p : Nat) : Bool := decide (((p : Int) - f) % L < s)
theorem sum_filter (F : PyData → Bool) (G : PyData → Int) : ∀ l : List Nat, (((l.map fun (k : Nat) => PyData.int (0 + (k : Int))).filter F).map G).sum = (l.map fun (k : Nat) => if F (.int (0 + (k : Int))) = true then G (.int (0 + (k : Int))) else 0).sum
  | [] => rfl
  | k :: l => by
    have ih := sum_filter F G l
    simp only [List.map_cons, List.sum_cons]
    by_cases h : F (.int (0 + (k : Int))) = true
    · rw [List.filter_cons_of_pos h, if_pos h, List.map_cons, List.sum_cons, ih]
    · rw [List.filter_cons_of_neg h, if_neg h, ih]
      omega
theorem sum_add (u v : Nat → Int) : ∀ l : List Nat, (l.map fun k => u k + v k).sum = (l.map u).sum + (l.map v).sum
  | [] => rfl
  | k :: l => by
    have ih := sum_add u v l
    simp only [List.map_cons, List.sum_cons]
    omega
theorem sum_one (g : Nat → Int) (p0 : Nat) : ∀ n : Nat, ((List.range n).map fun p => if p = p0 then g p else 0).sum = if p0 < n then g p0 else 0
  | 0 => by simp
  | n + 1 => by
    rw [List.range_succ, List.map_append, List.sum_append, sum_one g p0 n]
    simp only [List.map_cons, List.map_nil, List.sum_cons, List.sum_nil]
    by_cases h : n = p0
    · subst h
      simp
    · rw [if_neg h]
      by_cases h2 : p0 < n
      · rw [if_pos h2, if_pos (by omega)]
        omega
      · rw [if_neg h2, if_neg (by omega)]
        omega
theorem sum_congr {u v : Nat → Int} : ∀ {l : List Nat}, (∀ k ∈ l, u k = v k) → (l.map u).sum = (l.map v).sum := fun {l} h => by
  rw [List.map_congr_left h]
theorem wsum_eq (fs : List Int) (f s : Int) : wsum fs f s = ((List.range fs.length).map fun p => if covN fs.length f s p = true then fs.getD p 0 else 0).sum := by
  unfold wsum wpl rangeD
  rw [Int.toNat_natCast, sum_filter]
  refine sum_congr fun k _ => ?_
  show (if decide ((0 + (k : Int) - f) % (fs.length : Int) < s) = true then fs.getD (0 + (k : Int)).toNat 0 else 0) = _
  rw [Int.zero_add, Int.toNat_natCast]
  rfl
theorem psum_eq {fs : List Int} {f : Int} (h0 : 0 ≤ f) (hf : f < fs.length) : ∀ s : Nat, s ≤ fs.length → psum fs f s = ((List.range fs.length).map fun p => if covN fs.length f s p = true then fs.getD p 0 else 0).sum
  | 0, _ => by
    have : ∀ k ∈ List.range fs.length, (if covN fs.length f ((0 : Nat) : Int) k = true then fs.getD k 0 else 0) = (fun _ => (0 : Int)) k := fun k _ => by
      refine if_neg ?_
      unfold covN
      have := Int.emod_nonneg ((k : Int) - f) (by omega : (fs.length : Int) ≠ 0)
      simp
      omega
    rw [sum_congr this]
    show (0 : Int) = _
    generalize fs.length = m
    induction m with
    | zero => rfl
    | succ m ih =>
      rw [List.range_succ, List.map_append, List.sum_append, ← ih]
      rfl
  | s + 1, hs => by
    have ih := psum_eq h0 hf s (by omega)
    have hm0 := Int.emod_nonneg (f + (s : Int)) (by omega : (fs.length : Int) ≠ 0)
    have hm1 := Int.emod_lt_of_pos (f + (s : Int)) (by omega : (0 : Int) < fs.length)
    have hone := sum_one (fun p => fs.getD p 0) ((f + (s : Int)) % fs.length).toNat fs.length
    rw [if_pos (by omega)] at hone
    show psum fs f s + fs.getD ((f + (s : Int)) % fs.length).toNat 0 = _
    rw [ih, ← hone, ← sum_add]
    refine sum_congr fun k hk => ?_
    have hk := List.mem_range.mp hk
    -- k - f is s round the ring exactly at the one place
    have key : ((k : Int) - f) % (fs.length : Int) = s ↔ k = ((f + (s : Int)) % fs.length).toNat := by
      have d1 := Int.emod_add_mul_ediv ((k : Int) - f) fs.length
      have d2 := Int.emod_add_mul_ediv (f + (s : Int)) fs.length
      have e1 := Int.emod_nonneg ((k : Int) - f) (by omega : (fs.length : Int) ≠ 0)
      have e2 := Int.emod_lt_of_pos ((k : Int) - f) (by omega : (0 : Int) < fs.length)
      have q1 : -1 ≤ ((k : Int) - f) / (fs.length : Int) ∧ ((k : Int) - f) / (fs.length : Int) ≤ 0 := by
        refine ⟨?_, ?_⟩
        · exact (Int.le_ediv_iff_mul_le (by omega)).mpr (by omega)
        · have := (Int.ediv_lt_iff_lt_mul (a := (k : Int) - f) (b := 1) (by omega : (0 : Int) < fs.length)).mpr (by omega)
          omega
      have q2 : 0 ≤ (f + (s : Int)) / (fs.length : Int) ∧ (f + (s : Int)) / (fs.length : Int) ≤ 1 := by
        refine ⟨Int.ediv_nonneg (by omega) (by omega), ?_⟩
        have := (Int.ediv_lt_iff_lt_mul (a := f + (s : Int)) (b := 2) (by omega : (0 : Int) < fs.length)).mpr (by omega)
        omega
      generalize ((k : Int) - f) / (fs.length : Int) = x at d1 q1
      generalize (f + (s : Int)) / (fs.length : Int) = y at d2 q2
      have hx : x = -1 ∨ x = 0 := by omega
      have hy : y = 0 ∨ y = 1 := by omega
      rcases hx with rfl | rfl <;> rcases hy with rfl | rfl <;> simp only [Int.mul_neg, Int.mul_one, Int.mul_zero] at d1 d2 <;> omega
    unfold covN
    by_cases h1 : ((k : Int) - f) % (fs.length : Int) < (s : Int)
    · rw [if_pos (decide_eq_true h1), if_neg (fun z => by have := key.mpr z; omega), if_pos (decide_eq_true (by omega))]
      omega
    · rw [if_neg (fun z => h1 (of_decide_eq_true z))]
      by_cases h2 : ((k : Int) - f) % (fs.length : Int) = s
      · rw [if_pos (key.mp h2), if_pos (decide_eq_true (by omega))]
        omega
      · rw [if_neg (fun z => h2 (key.mpr z)), if_neg (fun z => by have := of_decide_eq_true z; omega)]
        rfl
theorem sums_same {fs : List Int} {f s : Int} (h0 : 0 ≤ f) (hf : f < fs.length) (h1 : 0 ≤ s) (h2 : s ≤ fs.length) : psum fs f s.toNat = wsum fs f s := by
  rw [psum_eq h0 hf s.toNat (by omega), wsum_eq, Int.toNat_of_nonneg h1]


theorem psum_range (fs : List Int) (f : Int) : ∀ s : Nat, psum fs f s = ((List.range s).map fun (k : Nat) => fs.getD ((f + (k : Int)) % fs.length).toNat 0).sum
  | 0 => rfl
  | s + 1 => by
    rw [List.range_succ, List.map_append, List.sum_append, ← psum_range fs f s]
    simp [psum]
theorem lsum_ok {fs : List Int} {f s : Int} (h0 : 0 < fs.length) (h1 : fs.length ≤ 1000) (h2 : 0 ≤ s) (h3 : s ≤ 1000) {c : Ct} {P : Vl → Ct → Prop} (hP : P (.dat (.int (psum fs f s.toNat))) c) : sp__law_sum [.dat (.tuple (dInts fs)), .dat (.int f), .dat (.int s)] c P := by
  refine ⟨by omega, by omega, by rw [rangeD_len]; exact small_len (by omega), lcL_pure (fun _ => true) (fun d => match d with | .int k => .int (fs.getD ((f + k) % fs.length).toNat 0) | _ => .none) _ _ _ _ (fun d hd P hP => hP) (fun d hd hf P hP => ?_) ?_⟩
  · obtain ⟨k, hk, rfl⟩ := rangeD_mem hd
    have hpos : (0 : Int) < ((dInts fs).length : Int) := by
      rw [dInts_len]
      omega
    refine ⟨hpos, ?_⟩
    have hm0 := Int.emod_nonneg (f + (0 + (k : Int))) (by omega : ((dInts fs).length : Int) ≠ 0)
    have hm1 := Int.emod_lt_of_pos (f + (0 + (k : Int))) hpos
    have e : (f + (0 + (k : Int))) % ((dInts fs).length : Int) = 0 + (((f + (0 + (k : Int))) % ((dInts fs).length : Int)).toNat : Int) := by omega
    have hat := gd_at (fs := fs) (k := ((f + (0 + (k : Int))) % ((dInts fs).length : Int)).toNat) (by rw [dInts_len] at hm1 ⊢; omega)
    rw [← e] at hat
    refine ix_ok hat ?_
    have hP : P (.dat (.int (fs.getD ((f + (0 + (k : Int))) % fs.length).toNat 0))) c := hP
    rw [dInts_len]
    exact hP
  · rw [List.filter_eq_self.mpr (fun _ _ => rfl), List.nil_append]
    have e : (rangeD 0 s.toNat).map (fun d => match d with | .int k => PyData.int (fs.getD ((f + k) % fs.length).toNat 0) | _ => .none) = dInts ((List.range s.toNat).map fun (k : Nat) => fs.getD ((f + (k : Int)) % fs.length).toNat 0) := by
      unfold rangeD dInts
      rw [List.map_map, List.map_map]
      refine List.map_congr_left fun k _ => ?_
      show PyData.int (fs.getD ((f + (0 + (k : Int))) % fs.length).toNat 0) = PyData.int (fs.getD ((f + (k : Int)) % fs.length).toNat 0)
      rw [Int.zero_add]
    rw [e]
    refine ⟨_, intsOf_map _, ?_⟩
    rw [← psum_range]
    exact hP

def tL (i : Nat) : PyData := .tuple [.int (i : Nat), .str "least"]
def tM (i : Nat) : PyData := .tuple [.int (i : Nat), .str "most"]
def isBig (m : Option Int) (w : Int) : Bool := match m with
  | none => false
  | some m => decide (m < w)
def brk (w : Int) (i : Nat) (r : R4) : List PyData := (if w < r.l then [tL i] else []) ++ (if isBig r.m w = true then [tM i] else [])
def BR (fs : List Int) (rs : List R4) : Nat → List PyData
  | 0 => []
  | j + 1 => BR fs rs j ++ (match rs[j]? with
    | some r => brk (wsum fs r.f r.s) j r
    | none => [])
theorem BR_succ {fs : List Int} {rs : List R4} {j : Nat} {r : R4} (h : rs[j]? = some r) : BR fs rs (j + 1) = BR fs rs j ++ brk (wsum fs r.f r.s) j r := by
  show BR fs rs j ++ _ = _
  rw [h]
theorem brk_len (w : Int) (i : Nat) (r : R4) : (brk w i r).length ≤ 2 := by
  unfold brk
  split <;> split <;> simp
theorem BR_len (fs : List Int) (rs : List R4) : ∀ j, (BR fs rs j).length ≤ 2 * j
  | 0 => Nat.le_refl _
  | j + 1 => by
    have ih := BR_len fs rs j
    show (BR fs rs j ++ _).length ≤ _
    rw [List.length_append]
    split
    · have := brk_len (wsum fs (rs[j]?.getD ⟨0, 0, 0, none⟩).f (rs[j]?.getD ⟨0, 0, 0, none⟩).s) j (rs[j]?.getD ⟨0, 0, 0, none⟩)
      rename_i r hr
      have := brk_len (wsum fs r.f r.s) j r
      omega
    · simp
      omega
theorem enum_get {ds : List PyData} {j : Nat} {d : PyData} (h : (enumD ds)[j]? = some d) : ∃ z, ds[j]? = some z ∧ d = .tuple [.int (j : Nat), z] := by
  unfold enumD at h
  rw [List.getElem?_map] at h
  by_cases hj : j < ds.length
  · rw [List.getElem?_range hj, Option.map_some, List.getD_eq_getElem?_getD, List.getElem?_eq_getElem hj] at h
    exact ⟨ds[j], List.getElem?_eq_getElem hj, (Option.some.inj h).symm⟩
  · rw [List.getElem?_eq_none (by simpa using hj)] at h
    cases h
theorem enum_len (ds : List PyData) : (enumD ds).length = ds.length := by simp [enumD]
theorem broken_ok {n : Int} {fs : List Int} {rs : List R4} (h0 : 0 < fs.length) (h1 : fs.length ≤ 1000) (hl : rs.length ≤ 1000) {c : Ct} {P : Vl → Ct → Prop} (hP : P (.dat (.tuple (BR fs rs rs.length))) c) : sp_broken_rules [.dat (.int n), .dat (rDs rs), .dat (.tuple (dInts fs))] c P := by
  refine forL_inv (fun j env c' => c = c' ∧ ∃ x4 x5 x6 x7 x8 x9, env = [some (.dat (.int n)), some (.dat (rDs rs)), some (.dat (.tuple (dInts fs))), some (.own (BR fs rs j)), x4, x5, x6, x7, x8, x9]) (fun j d env c' k hd hI hk => ?_) ⟨rfl, none, none, none, none, none, none, rfl⟩ (fun env c' hI => ?_)
  · obtain ⟨rfl, x4, x5, x6, x7, x8, x9, rfl⟩ := hI
    obtain ⟨z, hz, rfl⟩ := enum_get hd
    rw [List.getElem?_map] at hz
    obtain ⟨r, hr, rfl⟩ := Option.map_eq_some_iff.mp hz
    have hj : j < rs.length := (List.getElem?_eq_some_iff.mp hr).1
    have hb := BR_len fs rs j
    refine ⟨rfl, rfl, rfl, wsum_ok h0 h1 ?_⟩
    have e := BR_succ (fs := fs) hr
    obtain ⟨f, s, l, m⟩ := r
    have fin : ∀ (acc : List PyData), acc = BR fs rs (j + 1) → k [some (.dat (.int n)), some (.dat (rDs rs)), some (.dat (.tuple (dInts fs))), some (.own acc), some (.dat (.int (j : Nat))), some (.dat (.int f)), some (.dat (.int s)), some (.dat (.int l)), some (.dat (optD m)), some (.dat (.int (wsum fs f s)))] c := fun acc ha => by
      subst ha
      exact hk _ _ ⟨rfl, _, _, _, _, _, _, rfl⟩
    have small : ∀ m : Nat, m ≤ 2 * j + 2 → m < sizeLine := fun m hm => small_len (by omega)
    by_cases hlt : wsum fs f s < l
    · refine iteD (c := wsum fs f s < l) hlt ⟨small_le (by show 2 ≤ 100000; decide), small _ (by omega), ?_⟩
      cases m with
      | none =>
        refine fin _ ?_
        rw [e]
        simp [brk, hlt, isBig, tL]
      | some m =>
        by_cases hgt : m < wsum fs f s
        · refine iteD (c := m < wsum fs f s) hgt ⟨small_le (by show 2 ≤ 100000; decide), small _ (by rw [List.length_append]; simp; omega), fin _ ?_⟩
          rw [e]
          simp [brk, hlt, isBig, hgt, tL, tM]
        · refine iteDN (c := m < wsum fs f s) hgt (fin _ ?_)
          rw [e]
          simp [brk, hlt, isBig, hgt, tL]
    · refine iteDN (c := wsum fs f s < l) hlt ?_
      cases m with
      | none =>
        refine fin _ ?_
        rw [e]
        simp [brk, hlt, isBig]
      | some m =>
        by_cases hgt : m < wsum fs f s
        · refine iteD (c := m < wsum fs f s) hgt ⟨small_le (by show 2 ≤ 100000; decide), small _ (by omega), fin _ ?_⟩
          rw [e]
          simp [brk, hlt, isBig, hgt, tM]
        · refine iteDN (c := m < wsum fs f s) hgt (fin _ ?_)
          rw [e]
          simp [brk, hlt, isBig, hgt]
  · obtain ⟨rfl, x4, x5, x6, x7, x8, x9, rfl⟩ := hI
    rw [enum_len, List.length_map]
    exact hP

def hts (fs : List Int) : List Int := (List.range fs.length).map fun k => (fs.take k).sum
theorem hts_len (fs : List Int) : (hts fs).length = fs.length := by simp [hts]
theorem hts_get {fs : List Int} {k : Nat} (h : k < fs.length) : (hts fs)[k]? = some (fs.take k).sum := by
  unfold hts
  rw [List.getElem?_map, List.getElem?_range h]
  rfl
theorem heights_ok {fs : List Int} (hl : fs.length ≤ 1000) {c : Ct} {P : Vl → Ct → Prop} (hP : P (.dat (.list (dInts (hts fs)))) c) : sp_heights_of [.dat (.tuple (dInts fs))] c P := by
  have e0 : (dInts fs).length = fs.length := dInts_len fs
  refine ⟨by rw [e0]; omega, by rw [e0]; omega, by rw [rangeD_len, e0]; exact small_len (by omega), lcL_pure (fun _ => true) (fun d => match d with | .int k => .int (fs.take k.toNat).sum | _ => .none) _ _ _ _ (fun d hd P hP => hP) (fun d hd hf P hP => ?_) ?_⟩
  · obtain ⟨k, hk, rfl⟩ := rangeD_mem hd
    show rdSumA [.tuple (cutD (dInts fs) none (some (0 + (k : Int))))] fun z => P (.dat z) c
    rw [Int.zero_add, cut_take, dInts_take]
    refine sum_okT ?_
    have hP : P (.dat (.int (fs.take (0 + (k : Int)).toNat).sum)) c := hP
    rw [Int.zero_add, Int.toNat_natCast] at hP
    exact hP
  · rw [List.filter_eq_self.mpr (fun _ _ => rfl), List.nil_append, e0]
    have e : List.map (fun d => match d with | PyData.int k => PyData.int (fs.take k.toNat).sum | _ => PyData.none) (rangeD 0 ((fs.length : Int)).toNat) = dInts (hts fs) := by
      unfold rangeD hts dInts
      rw [Int.toNat_natCast, List.map_map, List.map_map]
      refine List.map_congr_left fun k _ => ?_
      show PyData.int (fs.take (0 + (k : Int)).toNat).sum = PyData.int (fs.take k).sum
      rw [Int.zero_add, Int.toNat_natCast]
    rw [e]
    exact hP
def lds (one other : List Int) : List Int := List.zipWith (fun s e => e - s) (hts one) (hts other)
theorem lds_len {one other : List Int} (h : one.length = other.length) : (lds one other).length = one.length := by
  unfold lds
  rw [List.length_zipWith, hts_len, hts_len]
  omega
theorem zip_tup (xs ys : List Int) : ((dInts xs).zip (dInts ys)).map (fun z => PyData.tuple [z.1, z.2]) = (xs.zip ys).map fun z => PyData.tuple [.int z.1, .int z.2] := by
  unfold dInts
  rw [List.zip_map, List.map_map]
  rfl
theorem leads_ok {one other : List Int} (hl : one.length ≤ 1000) (hl2 : other.length ≤ 1000) {c : Ct} {P : Vl → Ct → Prop} (hP : P (.dat (.list (dInts (lds one other)))) c) : sp_leads_of [.dat (.tuple (dInts one)), .dat (.tuple (dInts other))] c P := by
  refine ⟨rfl, heights_ok hl ⟨rfl, heights_ok hl2 ?_⟩⟩
  show (((dInts (hts one)).zip (dInts (hts other))).map fun z => PyData.tuple [z.1, z.2]).length < sizeLine ∧ _
  rw [zip_tup]
  refine ⟨?_, lcL_gen (fun _ => true) (fun d => match d with | .tuple [.int s, .int e] => .int (e - s) | _ => .none) _ _ _ _ (fun d hd k2 rest acc h => ?_) ?_⟩
  · rw [List.length_map, List.length_zip, hts_len, hts_len]
    exact small_len (by omega)
  · obtain ⟨z, hz, rfl⟩ := List.mem_map.mp hd
    exact ⟨rfl, h⟩
  · rw [List.filter_eq_self.mpr (fun _ _ => rfl), List.nil_append, List.map_map]
    have e : List.map ((fun d => match d with | PyData.tuple [.int s, .int e] => PyData.int (e - s) | _ => PyData.none) ∘ fun (z : Int × Int) => PyData.tuple [.int z.1, .int z.2]) ((hts one).zip (hts other)) = dInts (lds one other) := by
      unfold dInts lds
      rw [List.zip_eq_zipWith, List.map_zipWith, List.map_zipWith]
      rfl
    rw [e]
    exact hP
/-- what least_steps returns -/
def lsD (one other : List Int) : PyData := if one.sum = other.sum then .int ((mxL (lds one other) - mnL (lds one other) + 1) / 2) else .none
theorem least_ok {one other : List Int} (h0 : 0 < one.length) (he : one.length = other.length) (hl : one.length ≤ 1000) {c : Ct} {P : Vl → Ct → Prop} (hP : P (.dat (lsD one other)) c) : sp_least_steps [.dat (.tuple (dInts one)), .dat (.tuple (dInts other))] c P := by
  refine ⟨one, intsOf_map one, other, intsOf_map other, ?_⟩
  show if (!decide (one.sum = other.sum)) = true then _ else _
  by_cases h : one.sum = other.sum
  · refine iteNB (decide_eq_true h) ⟨rfl, leads_ok hl (by omega) ?_⟩
    have hp : 0 < (lds one other).length := by rw [lds_len he]; exact h0
    refine ⟨_, intsOf_map _, hp, fun m h1 h2 => ?_⟩
    rw [← mxL_eq h1 h2]
    refine ⟨_, intsOf_map _, hp, fun m h1 h2 => ?_⟩
    rw [← mnL_eq h1 h2]
    refine ⟨⟨by decide, by decide⟩, ?_⟩
    unfold lsD at hP
    rw [if_pos h] at hP
    exact hP
  · refine ifT (by rw [decide_eq_false h]; rfl) ?_
    unfold lsD at hP
    rw [if_neg h] at hP
    exact hP
theorem lds_get {one other : List Int} (he : one.length = other.length) {k : Nat} (h : k < one.length) : (lds one other)[k]? = some ((other.take k).sum - (one.take k).sum) := by
  unfold lds
  rw [List.getElem?_zipWith, hts_get h, hts_get (by omega)]
theorem lds_zero {one other : List Int} (h0 : 0 < one.length) (he : one.length = other.length) : (0 : Int) ∈ lds one other := by
  have := lds_get he h0
  rw [List.take_zero, List.take_zero] at this
  exact List.mem_of_getElem? this
/-- no step is needed between equal fillings alone -/
theorem take_sums : ∀ {one other : List Int}, one.length = other.length → (∀ k, k ≤ one.length → (one.take k).sum = (other.take k).sum) → one = other
  | [], [], _, _ => rfl
  | [], _ :: _, h, _ => by simp at h
  | _ :: _, [], h, _ => by simp at h
  | a :: one, b :: other, h, hk => by
    have h1 := hk 1 (by simp)
    simp at h1
    subst h1
    rw [take_sums (one := one) (other := other) (by simpa using h) fun k hk2 => ?_]
    have := hk (k + 1) (by simpa using hk2)
    simp only [List.take_succ_cons, List.sum_cons] at this
    omega
theorem ls_zero {one other : List Int} (h0 : 0 < one.length) (he : one.length = other.length) (hs : one.sum = other.sum) : ((mxL (lds one other) - mnL (lds one other) + 1) / 2 = 0) ↔ one = other := by
  have hz := lds_zero h0 he
  have a1 := mxL_ge hz
  have a2 := mnL_le hz
  constructor
  · intro h
    have e1 : mxL (lds one other) = 0 := by omega
    have e2 : mnL (lds one other) = 0 := by omega
    refine take_sums he fun k hk => ?_
    by_cases hlt : k < one.length
    · have hm := List.mem_of_getElem? (lds_get he hlt)
      have b1 := mxL_ge hm
      have b2 := mnL_le hm
      omega
    · rw [List.take_of_length_le (by omega), List.take_of_length_le (by omega)]
      exact hs
  · intro h
    subst h
    have hz2 : ∀ y ∈ lds one one, y = 0 := fun y hy => by
      obtain ⟨k, hk⟩ := List.getElem?_of_mem hy
      have hlt : k < one.length := by
        have := (List.getElem?_eq_some_iff.mp hk).1
        rw [lds_len rfl] at this
        exact this
      rw [lds_get rfl hlt] at hk
      have := Option.some.inj hk
      omega
    have e1 := hz2 _ (mxL_mem (List.length_pos_of_mem hz))
    have e2 := hz2 _ (mnL_mem (List.length_pos_of_mem hz))
    rw [e1, e2]
    rfl

def nnInt : PyData → Bool
  | .int i => decide (0 ≤ i)
  | _ => false
def valI : PyData → Int
  | .int i => i
  | _ => 0
/-- the counts, if it is a filling for n -/
def fillOf (n : Int) : PyData → Option (List Int)
  | .tuple ds => if (ds.length : Int) = n ∧ ds.all nnInt = true then some (ds.map valI) else none
  | _ => none
theorem fillOf_tup (n : Int) (ds : List PyData) : fillOf n (.tuple ds) = if (ds.length : Int) = n ∧ ds.all nnInt = true then some (ds.map valI) else none := rfl
theorem all_dInts {ds : List PyData} (h : ds.all nnInt = true) : ds = dInts (ds.map valI) := by
  unfold dInts
  rw [List.map_map]
  refine (List.map_id _).symm.trans (List.map_congr_left fun d hd => ?_)
  have := List.all_eq_true.mp h d hd
  cases d <;> simp [nnInt] at this
  rfl
theorem fillOf_some {n : Int} {d : PyData} {fs : List Int} (h : fillOf n d = some fs) : d = .tuple (dInts fs) ∧ (fs.length : Int) = n ∧ ∀ x ∈ fs, 0 ≤ x := by
  cases d <;> try (simp [fillOf] at h; done)
  rename_i ds
  rw [fillOf_tup] at h
  split at h
  · rename_i hh
    have e := Option.some.inj h
    subst e
    refine ⟨by rw [← all_dInts hh.2], by rw [List.length_map]; exact hh.1, fun x hx => ?_⟩
    obtain ⟨z, hz, rfl⟩ := List.mem_map.mp hx
    have := List.all_eq_true.mp hh.2 z hz
    cases z <;> simp [nnInt] at this
    exact this
  · cases h
theorem fillOf_ints {n : Int} {fs : List Int} (hn : (fs.length : Int) = n) (h : ∀ x ∈ fs, 0 ≤ x) : fillOf n (.tuple (dInts fs)) = some fs := by
  rw [fillOf_tup]
  have e : (dInts fs).map valI = fs := by
    unfold dInts
    rw [List.map_map]
    exact List.map_id _
  have hall : (dInts fs).all nnInt = true := List.all_eq_true.mpr fun d hd => by
    obtain ⟨x, hx, rfl⟩ := List.mem_map.mp hd
    exact decide_eq_true (h x hx)
  rw [if_pos ⟨by rw [dInts_len]; exact hn, hall⟩, e]
theorem is_filling_ok {n : Int} {d : PyData} (hn : n ≤ 1000) {c : Ct} {P : Vl → Ct → Prop} (hP : P (.dat (.bool (fillOf n d).isSome)) c) : sp_is_filling [.dat (.int n), .dat d] c P := by
  cases d with
  | none => exact hP
  | bool b => exact hP
  | int i => exact hP
  | str x => exact hP
  | list xs => exact hP
  | dict kvs => exact hP
  | tuple ds =>
    show if (!decide ((ds.length : Int) = n)) = true then _ else _
    by_cases h : (ds.length : Int) = n
    · refine iteNB (decide_eq_true h) ⟨small_len (by omega), ?_⟩
      refine lcL_pure (fun _ => true) (fun d => .bool (nnInt d)) _ _ _ _ (fun d hd P hP => hP) (fun d hd hf P hP => ⟨rfl, number_ok ?_⟩) ?_
      · cases d <;> exact hP
      · rw [List.filter_eq_self.mpr (fun _ _ => rfl), List.nil_append]
        refine ⟨_, bools_map nnInt ds, ?_⟩
        have e : (fillOf n (.tuple ds)).isSome = (ds.map nnInt).all id := by
          rw [List.all_map, fillOf_tup]
          by_cases h2 : ds.all nnInt = true
          · rw [if_pos ⟨h, h2⟩]
            exact h2.symm
          · rw [if_neg fun z => h2 z.2]
            exact ((Bool.not_eq_true _).mp h2).symm
        rw [e] at hP
        exact hP
    · refine ifT (by rw [decide_eq_false h]; rfl) ?_
      have e : fillOf n (.tuple ds) = none := if_neg fun z => h z.1
      rw [e] at hP
      exact hP
theorem brk_lay (w : Int) (i : Nat) (r : R4) : PyData.canLayAll0 (brk w i r) = true := by
  have s1 : PyData.strOk "least" = true := by decide +kernel
  have s2 : PyData.strOk "most" = true := by decide +kernel
  unfold brk
  split <;> split <;> simp [tL, tM, PyData.canLayAll0, PyData.canLay0, s1, s2]
theorem lay_app : ∀ {a b : List PyData}, PyData.canLayAll0 a = true → PyData.canLayAll0 b = true → PyData.canLayAll0 (a ++ b) = true
  | [], _, _, h => h
  | x :: a, b, h1, h2 => by
    simp only [PyData.canLayAll0, Bool.and_eq_true] at h1
    rw [List.cons_append]
    simp only [PyData.canLayAll0, Bool.and_eq_true]
    exact ⟨h1.1, lay_app h1.2 h2⟩
theorem depth_app : ∀ {a b : List PyData} {k : Nat}, PyData.depthAll a ≤ k → PyData.depthAll b ≤ k → PyData.depthAll (a ++ b) ≤ k
  | [], _, _, _, h => h
  | x :: a, b, k, h1, h2 => by
    simp only [PyData.depthAll] at h1
    rw [List.cons_append]
    simp only [PyData.depthAll]
    have := depth_app (a := a) (b := b) (k := k) (by omega) h2
    omega
theorem BR_shape (fs : List Int) (rs : List R4) : ∀ j, PyData.canLayAll0 (BR fs rs j) = true ∧ PyData.depthAll (BR fs rs j) ≤ 2
  | 0 => ⟨rfl, Nat.zero_le _⟩
  | j + 1 => by
    obtain ⟨h1, h2⟩ := BR_shape fs rs j
    show PyData.canLayAll0 (BR fs rs j ++ _) = true ∧ PyData.depthAll (BR fs rs j ++ _) ≤ 2
    split
    · rename_i r hr
      refine ⟨lay_app h1 (brk_lay _ _ _), depth_app h2 ?_⟩
      unfold brk
      split <;> split <;> simp [tL, tM, PyData.depthAll, PyData.depth]
    · rw [List.append_nil]
      exact ⟨h1, h2⟩
theorem BR_shaped (fs : List Int) (rs : List R4) (j : Nat) : SeqAt.shaped (.tuple (BR fs rs j)) = true := by
  obtain ⟨h1, h2⟩ := BR_shape fs rs j
  unfold SeqAt.shaped
  rw [show PyData.canLay0 (.tuple (BR fs rs j)) = PyData.canLayAll0 (BR fs rs j) from by simp [PyData.canLay0], h1, Bool.true_and]
  refine decide_eq_true ?_
  simp only [PyData.depth]
  omega
theorem eqv_nil (xs : List PyData) : PyData.eqv (.tuple xs) (.tuple []) = xs.isEmpty := by
  cases xs <;> simp [PyData.eqv, PyData.eqvAll]
def fitsD (n : Int) (rs : List R4) (d : PyData) : Bool := match fillOf n d with
  | some fs => (BR fs rs rs.length).isEmpty
  | none => false
theorem fits_ok {n : Int} {rs : List R4} {d : PyData} (h0 : 0 < n) (h1 : n ≤ 1000) (hl : rs.length ≤ 1000) {c : Ct} {P : Vl → Ct → Prop} (hP : P (.dat (.bool (fitsD n rs d))) c) : sp_fits [.dat (.int n), .dat (rDs rs), .dat d] c P := by
  refine ⟨rfl, is_filling_ok h1 ?_⟩
  unfold fitsD at hP
  cases h : fillOf n d with
  | none =>
    rw [h] at hP
    exact hP
  | some fs =>
    rw [h] at hP
    obtain ⟨rfl, hn, _⟩ := fillOf_some h
    refine ⟨rfl, broken_ok (by omega) (by omega) hl ⟨Nat.zero_le _, BR_shaped _ _ _, rfl, ?_⟩⟩
    rw [eqv_nil]
    exact hP
/-- nothing is broken exactly if each rule is fitted -/
theorem BR_nil {fs : List Int} {rs : List R4} : ∀ {j : Nat}, j ≤ rs.length → ((BR fs rs j).isEmpty = true ↔ ∀ i r, i < j → rs[i]? = some r → r.l ≤ wsum fs r.f r.s ∧ isBig r.m (wsum fs r.f r.s) = false)
  | 0, _ => ⟨fun _ i r h => absurd h (Nat.not_lt_zero _), fun _ => rfl⟩
  | j + 1, hj => by
    have ih := BR_nil (fs := fs) (rs := rs) (j := j) (by omega)
    have hr : rs[j]? = some rs[j] := List.getElem?_eq_getElem (by omega)
    rw [BR_succ hr, List.isEmpty_iff, List.append_eq_nil_iff, ← List.isEmpty_iff, ih]
    have hb : brk (wsum fs rs[j].f rs[j].s) j rs[j] = [] ↔ rs[j].l ≤ wsum fs rs[j].f rs[j].s ∧ isBig rs[j].m (wsum fs rs[j].f rs[j].s) = false := by
      unfold brk
      by_cases h1 : wsum fs rs[j].f rs[j].s < rs[j].l
      · rw [if_pos h1]
        exact ⟨fun z => by simp at z, fun z => by omega⟩
      · rw [if_neg h1]
        by_cases h2 : isBig rs[j].m (wsum fs rs[j].f rs[j].s) = true
        · rw [if_pos h2]
          exact ⟨fun z => by simp at z, fun z => by rw [h2] at z; cases z.2⟩
        · rw [if_neg h2]
          exact ⟨fun _ => ⟨by omega, (Bool.not_eq_true _).mp h2⟩, fun _ => rfl⟩
    rw [hb]
    constructor
    · rintro ⟨a, b⟩ i r hi e
      by_cases hij : i < j
      · exact a i r hij e
      · rw [show i = j by omega, hr] at e
        cases e
        exact b
    · intro a
      exact ⟨fun i r hi e => a i r (by omega) e, a j _ (by omega) hr⟩

def fitR (fs : List Int) (r : R4) : Prop := r.l ≤ psum fs r.f r.s.toNat ∧ ∀ m, r.m = some m → psum fs r.f r.s.toNat ≤ m

theorem take_sumP {l : List Int} {j : Nat} (h : j < l.length) : (l.take (j + 1)).sum = (l.take j).sum + l[j] := by
  rw [List.take_add_one, List.getElem?_eq_getElem h, List.sum_append]
  simp

end RW
namespace RW
open PySem PySem.Spec PyProof.Rows L2 DL
def cof (hs : List Int) (t : Int) : List Int := List.zipWith (fun s e => e - s) hs (hs.drop 1 ++ [hs.headD 0 + t])
theorem cof_len {hs : List Int} (h : 0 < hs.length) (t : Int) : (cof hs t).length = hs.length := by
  unfold cof
  rw [List.length_zipWith, List.length_append, List.length_drop, List.length_singleton]
  omega
theorem counts_ok {hs : List Int} {t : Int} (h0 : 0 < hs.length) (h1 : hs.length ≤ 1000) {c : Ct} {P : Vl → Ct → Prop} (hP : P (.dat (.tuple (dInts (cof hs t)))) c) : sp_counts_of [.dat (.list (dInts hs)), .dat (.int t)] c P := by
  have hd : atI (dInts hs) 0 = some (.int (hs.headD 0)) := by
    cases hs with
    | nil => exact absurd h0 (by decide)
    | cons x l => exact atI_nat (j := 0) rfl
  refine ix_ok hd ⟨by show 1 ≤ sizeLine; decide, ?_⟩
  have e1 : DL.cutD (dInts hs) (some 1) none = dInts (hs.drop 1) := by
    rw [show (1 : Int) = ((1 : Nat) : Int) from rfl, cut_drop, dInts_drop]
  show (DL.cutD (dInts hs) (some 1) none).length + 1 ≤ sizeLine ∧ _
  rw [e1]
  refine ⟨by rw [dInts_len, List.length_drop]; exact Nat.le_trans (by omega : hs.length - 1 + 1 ≤ 1001) (by decide), ?_⟩
  have e2 : dInts (hs.drop 1) ++ [PyData.int (hs.headD 0 + t)] = dInts (hs.drop 1 ++ [hs.headD 0 + t]) := by
    rw [← dInts_app]
    rfl
  show (((dInts hs).zip (dInts (hs.drop 1) ++ [PyData.int (hs.headD 0 + t)])).map fun z => PyData.tuple [z.1, z.2]).length < sizeLine ∧ lcL _ _ _ _ (((dInts hs).zip (dInts (hs.drop 1) ++ [PyData.int (hs.headD 0 + t)])).map fun z => PyData.tuple [z.1, z.2]) _ _ _
  rw [e2, zip_tup]
  refine ⟨?_, lcL_gen (fun _ => true) (fun d => match d with | .tuple [.int s, .int e] => .int (e - s) | _ => .none) _ _ _ _ (fun d hd k2 rest acc h => ?_) ?_⟩
  · rw [List.length_map, List.length_zip]
    exact small_len (by omega)
  · obtain ⟨z, hz, rfl⟩ := List.mem_map.mp hd
    exact ⟨rfl, h⟩
  · rw [List.filter_eq_self.mpr (fun _ _ => rfl), List.nil_append, List.map_map]
    have e : List.map ((fun d => match d with | PyData.tuple [.int s, .int e] => PyData.int (e - s) | _ => PyData.none) ∘ fun (z : Int × Int) => PyData.tuple [.int z.1, .int z.2]) (hs.zip (hs.drop 1 ++ [hs.headD 0 + t])) = dInts (cof hs t) := by
      unfold dInts cof
      rw [List.zip_eq_zipWith, List.map_zipWith, List.map_zipWith]
      rfl
    rw [e]
    exact hP
def clampI (s x : Int) : Int := max (-s) (min s x)
def shf (one other : List Int) : List Int := (lds one other).map fun l => l - mxL (lds one other) + (mxL (lds one other) - mnL (lds one other) + 1) / 2
def mvd (one other : List Int) (s : Int) : List Int := List.zipWith (fun h x => h + clampI s x) (hts one) (shf one other)
/-- the filling after s steps -/
def Wy (one other : List Int) (s : Int) : List Int := cof (mvd one other s) one.sum
section
variable {one other : List Int}
theorem shf_len (he : one.length = other.length) : (shf one other).length = one.length := by rw [shf, List.length_map, lds_len he]
theorem mvd_len (he : one.length = other.length) (s : Int) : (mvd one other s).length = one.length := by
  rw [mvd, List.length_zipWith, hts_len, shf_len he, Nat.min_self]
theorem Wy_len (h0 : 0 < one.length) (he : one.length = other.length) (s : Int) : (Wy one other s).length = one.length := by
  rw [Wy, cof_len (by rw [mvd_len he]; exact h0), mvd_len he]
theorem after_ok (he : one.length = other.length) (h0 : 0 < one.length) (h1 : one.length ≤ 1000) {s : Int} {c : Ct} {P : Vl → Ct → Prop} (hP : P (.dat (.tuple (dInts (Wy one other s)))) c) :
    sp_filling_after [.dat (.list (dInts (hts one))), .dat (.list (dInts (shf one other))), .dat (.int one.sum), .dat (.int s)] c P := by
  show (((dInts (hts one)).zip (dInts (shf one other))).map fun z => PyData.tuple [z.1, z.2]).length < sizeLine ∧ lcL _ _ _ _ (((dInts (hts one)).zip (dInts (shf one other))).map fun z => PyData.tuple [z.1, z.2]) _ _ _
  rw [zip_tup]
  refine ⟨?_, lcL_gen (fun _ => true) (fun d => match d with | .tuple [.int h, .int x] => .int (h + clampI s x) | _ => .none) _ _ _ _ (fun d hd k2 rest acc h => ?_) ?_⟩
  · rw [List.length_map, List.length_zip, hts_len]
    exact small_len (by omega)
  · obtain ⟨z, hz, rfl⟩ := List.mem_map.mp hd
    exact ⟨rfl, h⟩
  · rw [List.filter_eq_self.mpr (fun _ _ => rfl), List.nil_append, List.map_map]
    have e : List.map ((fun d => match d with | PyData.tuple [.int h, .int x] => PyData.int (h + clampI s x) | _ => PyData.none) ∘ fun (z : Int × Int) => PyData.tuple [.int z.1, .int z.2]) ((hts one).zip (shf one other)) = dInts (mvd one other s) := by
      unfold dInts mvd
      rw [List.zip_eq_zipWith, List.map_zipWith, List.map_zipWith]
      rfl
    rw [e]
    exact ⟨rfl, counts_ok (by rw [mvd_len he]; exact h0) (by rw [mvd_len he]; exact h1) hP⟩
/-- the shift of a place -/
def sh (one other : List Int) (k : Nat) : Int := (other.take k).sum - (one.take k).sum - mxL (lds one other) + (mxL (lds one other) - mnL (lds one other) + 1) / 2
theorem shf_get (he : one.length = other.length) {k : Nat} (hk : k < one.length) : (shf one other)[k]? = some (sh one other k) := by
  unfold shf
  rw [List.getElem?_map, lds_get he hk]
  rfl
theorem mvd_get (he : one.length = other.length) (s : Int) {k : Nat} (hk : k < one.length) : (mvd one other s)[k]? = some ((one.take k).sum + clampI s (sh one other k)) := by
  unfold mvd
  rw [List.getElem?_zipWith, hts_get hk, shf_get he hk]
/-- place by place -/
theorem Wy_get (h0 : 0 < one.length) (he : one.length = other.length) (s : Int) {k : Nat} (hk : k < one.length) :
    (Wy one other s)[k]? = some (one[k] + clampI s (sh one other ((k + 1) % one.length)) - clampI s (sh one other k)) := by
  unfold Wy cof
  rw [List.getElem?_zipWith, mvd_get he s hk]
  have ht := take_sumP hk
  by_cases hl : k + 1 < one.length
  · rw [List.getElem?_append_left (by rw [List.length_drop, mvd_len he]; omega), List.getElem?_drop, show 1 + k = k + 1 by omega, mvd_get he s hl, Nat.mod_eq_of_lt hl]
    simp only [Option.some.injEq]
    omega
  · have ek : k + 1 = one.length := by omega
    rw [List.getElem?_append_right (by rw [List.length_drop, mvd_len he]; omega), List.length_drop, mvd_len he, show k - (one.length - 1) = 0 by omega, ek, Nat.mod_self]
    have hh : (mvd one other s).headD 0 = clampI s (sh one other 0) := by
      have := mvd_get he s h0
      rw [List.take_zero] at this
      cases hm : mvd one other s with
      | nil => rw [hm] at this; cases this
      | cons x l =>
        rw [hm] at this
        have := Option.some.inj this
        simpa using this
    rw [hh]
    have hs : (one.take (k + 1)).sum = one.sum := by rw [List.take_of_length_le (by omega)]
    simp only [List.getElem?_cons_zero, Option.some.injEq]
    omega
theorem other_get (h0 : 0 < one.length) (he : one.length = other.length) (hs : one.sum = other.sum) {k : Nat} (hk : k < one.length) :
    other[k]'(by omega) = one[k] + sh one other ((k + 1) % one.length) - sh one other k := by
  have t1 := take_sumP hk
  have t2 := take_sumP (l := other) (j := k) (by omega)
  unfold sh
  by_cases hl : k + 1 < one.length
  · rw [Nat.mod_eq_of_lt hl]
    omega
  · have ek : k + 1 = one.length := by omega
    have s1 : (one.take (k + 1)).sum = one.sum := by rw [List.take_of_length_le (by omega)]
    have s2 : (other.take (k + 1)).sum = other.sum := by rw [List.take_of_length_le (by omega)]
    rw [ek, Nat.mod_self, List.take_zero, List.take_zero]
    omega
/-- sums of windows, when each place passes on its part -/
theorem psum_pass {fs gs : List Int} {D : Nat → Int} (hl : gs.length = fs.length) (h0 : 0 < fs.length) (hg : ∀ k (hk : k < fs.length), gs[k]? = some (fs[k] + D ((k + 1) % fs.length) - D k)) {f : Int} (hf0 : 0 ≤ f) :
    ∀ j : Nat, psum gs f j = psum fs f j + D ((f.toNat + j) % fs.length) - D (f.toNat % fs.length)
  | 0 => by
    show (0 : Int) = 0 + _ - _
    rw [Nat.add_zero]
    omega
  | j + 1 => by
    have ih := psum_pass hl h0 hg hf0 j
    show psum gs f j + gs.getD ((f + j) % gs.length).toNat 0 = psum fs f j + fs.getD ((f + j) % fs.length).toNat 0 + _ - _
    have ek : ((f + j) % (fs.length : Int)).toNat = (f.toNat + j) % fs.length := by
      have : f + j = ((f.toNat + j : Nat) : Int) := by omega
      rw [this]
      rfl
    have hk : (f.toNat + j) % fs.length < fs.length := Nat.mod_lt _ h0
    rw [hl, ek, ih, List.getD_eq_getElem?_getD, hg _ hk, List.getD_eq_getElem?_getD, List.getElem?_eq_getElem hk]
    have em : ((f.toNat + j) % fs.length + 1) % fs.length = (f.toNat + (j + 1)) % fs.length := by
      rw [show f.toNat + (j + 1) = (f.toNat + j) + 1 by omega, Nat.mod_add_mod]
    rw [em]
    simp only [Option.getD_some]
    omega
theorem clamp_mid {s x y : Int} (hs : 0 ≤ s) : min 0 (x - y) ≤ clampI s x - clampI s y ∧ clampI s x - clampI s y ≤ max 0 (x - y) := by
  unfold clampI
  omega
/-- a window's sum lies between those of both ends -/
theorem Wy_psum (h0 : 0 < one.length) (he : one.length = other.length) (hs : one.sum = other.sum) {s f : Int} (s0 : 0 ≤ s) (hf0 : 0 ≤ f) (j : Nat) :
    min (psum one f j) (psum other f j) ≤ psum (Wy one other s) f j ∧ psum (Wy one other s) f j ≤ max (psum one f j) (psum other f j) := by
  have a := psum_pass (D := fun k => clampI s (sh one other k)) (Wy_len h0 he s) h0 (fun k hk => Wy_get h0 he s hk) hf0 j
  have b := psum_pass (D := sh one other) he.symm h0 (fun k hk => by rw [List.getElem?_eq_getElem (by omega), other_get h0 he hs hk]) hf0 j
  have m := clamp_mid (s := s) (x := sh one other ((f.toNat + j) % one.length)) (y := sh one other (f.toNat % one.length)) s0
  omega
theorem Wy_nn (h0 : 0 < one.length) (he : one.length = other.length) (hs : one.sum = other.sum) {s : Int} (s0 : 0 ≤ s) (p : ∀ x ∈ one, 0 ≤ x) (q : ∀ x ∈ other, 0 ≤ x) : ∀ x ∈ Wy one other s, 0 ≤ x := fun x hx => by
  obtain ⟨k, hk⟩ := List.getElem?_of_mem hx
  have hlt : k < one.length := by
    have := (List.getElem?_eq_some_iff.mp hk).1
    rw [Wy_len h0 he] at this
    exact this
  rw [Wy_get h0 he s hlt] at hk
  have ek := Option.some.inj hk
  have m := clamp_mid (s := s) (x := sh one other ((k + 1) % one.length)) (y := sh one other k) s0
  have p1 := p _ (List.getElem_mem hlt)
  have q1 := q _ (List.getElem_mem (show k < other.length by omega))
  rw [other_get h0 he hs hlt] at q1
  omega
theorem Wy_fits {n : Int} {rs : List R4} (h0 : 0 < one.length) (he : one.length = other.length) (hs : one.sum = other.sum) (hn : (one.length : Int) = n) {s : Int} (s0 : 0 ≤ s) (hrs : ∀ r ∈ rs, r.Ok n)
    (p : ∀ x ∈ one, 0 ≤ x) (q : ∀ x ∈ other, 0 ≤ x) (f1 : ∀ r ∈ rs, fitR one r) (f2 : ∀ r ∈ rs, fitR other r) : ∀ r ∈ rs, fitR (Wy one other s) r := fun r hr => by
  have ok := hrs r hr
  have := Wy_psum h0 he hs s0 ok.f0 r.s.toNat
  obtain ⟨a1, a2⟩ := f1 r hr
  obtain ⟨b1, b2⟩ := f2 r hr
  refine ⟨by omega, fun m hm => ?_⟩
  have := a2 m hm
  have := b2 m hm
  omega
theorem Wy_take (h0 : 0 < one.length) (he : one.length = other.length) (s : Int) : ∀ {k : Nat}, k ≤ one.length → ((Wy one other s).take k).sum = (one.take k).sum + clampI s (sh one other (k % one.length)) - clampI s (sh one other 0)
  | 0, _ => by
    rw [Nat.zero_mod, List.take_zero, List.take_zero]
    simp
  | k + 1, hk => by
    have ih := Wy_take h0 he s (k := k) (by omega)
    have hl : k < (Wy one other s).length := by rw [Wy_len h0 he]; omega
    have hg := Wy_get h0 he s (k := k) (by omega)
    rw [List.getElem?_eq_getElem hl] at hg
    have hg := Option.some.inj hg
    rw [take_sumP hl, ih, hg, take_sumP (by omega), Nat.mod_eq_of_lt (show k < one.length by omega)]
    omega
theorem Wy_sum (h0 : 0 < one.length) (he : one.length = other.length) (s : Int) : (Wy one other s).sum = one.sum := by
  have := Wy_take h0 he s (Nat.le_refl _)
  rw [List.take_of_length_le (by rw [Wy_len h0 he]; exact Nat.le_refl _), List.take_of_length_le (Nat.le_refl _), Nat.mod_self] at this
  omega
theorem clamp_step {s x : Int} (hs : 0 ≤ s) : -1 ≤ clampI (s + 1) x - clampI s x ∧ clampI (s + 1) x - clampI s x ≤ 1 := by
  unfold clampI
  omega
theorem Wy_step (h0 : 0 < one.length) (he : one.length = other.length) {s : Int} (s0 : 0 ≤ s) : ∃ v : Int, lsD (Wy one other s) (Wy one other (s + 1)) = .int v ∧ v ≤ 1 := by
  have hl : (Wy one other s).length = (Wy one other (s + 1)).length := by rw [Wy_len h0 he, Wy_len h0 he]
  have hp : 0 < (lds (Wy one other s) (Wy one other (s + 1))).length := by rw [lds_len hl, Wy_len h0 he]; exact h0
  have bd : ∀ y ∈ lds (Wy one other s) (Wy one other (s + 1)), -1 - (clampI (s + 1) (sh one other 0) - clampI s (sh one other 0)) ≤ y ∧ y ≤ 1 - (clampI (s + 1) (sh one other 0) - clampI s (sh one other 0)) := fun y hy => by
    obtain ⟨k, hk⟩ := List.getElem?_of_mem hy
    have hlt : k < one.length := by
      have := (List.getElem?_eq_some_iff.mp hk).1
      rw [lds_len hl, Wy_len h0 he] at this
      exact this
    rw [lds_get hl (by rw [Wy_len h0 he]; exact hlt), Wy_take h0 he _ (by omega), Wy_take h0 he _ (by omega)] at hk
    have ek := Option.some.inj hk
    have := clamp_step (s := s) (x := sh one other (k % one.length)) s0
    omega
  refine ⟨_, if_pos (by rw [Wy_sum h0 he, Wy_sum h0 he]), ?_⟩
  have b1 := bd _ (mxL_mem hp)
  have b2 := bd _ (mnL_mem hp)
  omega
theorem sh_range (h0 : 0 < one.length) (he : one.length = other.length) {k : Nat} (hk : k < one.length) : -((mxL (lds one other) - mnL (lds one other) + 1) / 2) ≤ sh one other k ∧ sh one other k ≤ (mxL (lds one other) - mnL (lds one other) + 1) / 2 := by
  have hm := List.mem_of_getElem? (lds_get he hk)
  have a := mxL_ge hm
  have b := mnL_le hm
  unfold sh
  omega
theorem Wy_first (h0 : 0 < one.length) (he : one.length = other.length) : Wy one other 0 = one := by
  refine List.ext_getElem? fun k => ?_
  by_cases hk : k < one.length
  · rw [Wy_get h0 he 0 hk, List.getElem?_eq_getElem hk]
    unfold clampI
    congr 1
    omega
  · rw [List.getElem?_eq_none (by rw [Wy_len h0 he]; omega), List.getElem?_eq_none (by omega)]
theorem Wy_last (h0 : 0 < one.length) (he : one.length = other.length) (hs : one.sum = other.sum) : Wy one other ((mxL (lds one other) - mnL (lds one other) + 1) / 2) = other := by
  refine List.ext_getElem? fun k => ?_
  by_cases hk : k < one.length
  · rw [Wy_get h0 he _ hk, List.getElem?_eq_getElem (by omega), other_get h0 he hs hk]
    have a := sh_range h0 he hk
    have b := sh_range h0 he (k := (k + 1) % one.length) (Nat.mod_lt _ h0)
    unfold clampI
    congr 1
    omega
  · rw [List.getElem?_eq_none (by rw [Wy_len h0 he]; omega), List.getElem?_eq_none (by omega)]
end

abbrev stN (one other : List Int) : Int := (mxL (lds one other) - mnL (lds one other) + 1) / 2
theorem stN_nn {one other : List Int} (h0 : 0 < one.length) (he : one.length = other.length) : 0 ≤ stN one other := by
  have hp : 0 < (lds one other).length := by rw [lds_len he]; exact h0
  have := mnL_le (mxL_mem hp)
  unfold stN
  omega
def wayL (one other : List Int) : List (List Int) := (List.range ((stN one other).toNat + 1)).map fun (s : Nat) => Wy one other (s : Int)
def fD (w : List Int) : PyData := .tuple (dInts w)
theorem find_way_ok {n : Int} {rl : PyData} {one other : List Int} (h0 : 0 < one.length) (he : one.length = other.length) (hl : one.length ≤ 1000) (hs : one.sum = other.sum) (hm : stN one other ≤ 500) {c : Ct} {P : Vl → Ct → Prop}
    (hP : P (.dat (.tuple ((wayL one other).map fD))) c) : sp_find_way [.dat (.int n), .dat rl, .dat (fD one), .dat (fD other)] c P := by
  have hp : 0 < (lds one other).length := by rw [lds_len he]; exact h0
  have nn := stN_nn h0 he
  refine ⟨rfl, least_ok h0 he hl ?_⟩
  have e : lsD one other = .int (stN one other) := if_pos hs
  rw [e]
  refine iteDN (c := (500 : Int) < stN one other) (by omega) ?_
  refine ⟨rfl, heights_ok hl ⟨rfl, leads_ok hl (by omega) ⟨by rw [dInts_len, lds_len he]; exact small_len (by omega), ?_⟩⟩⟩
  refine lcL_pure (fun _ => true) (fun d => match d with | .int l => .int (l - mxL (lds one other) + stN one other) | _ => .none) _ _ _ _ (fun d hd P hP => hP) (fun d hd hf P hP => ?_) ?_
  · obtain ⟨l, hl2, rfl⟩ := List.mem_map.mp hd
    refine ⟨_, intsOf_map _, hp, fun m h1 h2 => ?_⟩
    rw [← mxL_eq h1 h2]
    exact hP
  · rw [List.filter_eq_self.mpr (fun _ _ => rfl), List.nil_append]
    have e2 : (dInts (lds one other)).map (fun d => match d with | .int l => PyData.int (l - mxL (lds one other) + stN one other) | _ => .none) = dInts (shf one other) := by
      unfold dInts shf
      rw [List.map_map, List.map_map]
      rfl
    rw [e2]
    refine ⟨by omega, by omega, by rw [rangeD_len]; exact small_len (by omega), ?_⟩
    refine lcL_pure (fun _ => true) (fun d => match d with | .int s => fD (Wy one other s) | _ => .none) _ _ _ _ (fun d hd P hP => hP) (fun d hd hf P hP => ?_) ?_
    · obtain ⟨k, hk, rfl⟩ := rangeD_mem hd
      exact ⟨one, intsOf_map one, rfl, after_ok he h0 hl hP⟩
    · rw [List.filter_eq_self.mpr (fun _ _ => rfl), List.nil_append]
      have e3 : (rangeD 0 (stN one other + 1).toNat).map (fun d => match d with | .int s => fD (Wy one other s) | _ => .none) = (wayL one other).map fD := by
        unfold rangeD wayL
        rw [show (stN one other + 1).toNat = (stN one other).toNat + 1 by omega, List.map_map, List.map_map]
        refine List.map_congr_left fun k _ => ?_
        show fD (Wy one other (0 + (k : Int))) = fD (Wy one other (k : Int))
        rw [Int.zero_add]
      rw [e3]
      exact hP
def stepOk (a b : List Int) : Prop := ∃ v : Int, lsD a b = .int v ∧ v ≤ 1
theorem is_step_ok {a b : List Int} (h0 : 0 < a.length) (he : a.length = b.length) (hl : a.length ≤ 1000) (hs : stepOk a b) {c : Ct} {P : Vl → Ct → Prop} (hP : P (.dat (.bool true)) c) : sp_is_step [.dat (fD a), .dat (fD b)] c P := by
  obtain ⟨v, e, hv⟩ := hs
  refine ⟨rfl, least_ok h0 he hl ?_⟩
  rw [e]
  show P (.dat (.bool (decide (v ≤ 1)))) c
  rw [decide_eq_true hv]
  exact hP
theorem atI_last {α : Type} {xs : List α} {x : α} (h : xs.getLast? = some x) : atI xs (-1) = some x := by
  have hp : 0 < xs.length := by
    cases xs with
    | nil => cases h
    | cons y l => simp
  rw [List.getLast?_eq_getElem?] at h
  unfold atI ixN
  rw [if_neg (by decide), if_pos (by omega)]
  rw [show (-1 + (xs.length : Int)).toNat = xs.length - 1 by omega]
  exact h
/-- a way, as way_holds asks it -/
structure Way (n : Int) (rs : List R4) (one other : List Int) (ws : List (List Int)) : Prop where
  hd : ws.head? = some one
  lt : ws.getLast? = some other
  ln : ∀ w ∈ ws, (w.length : Int) = n
  ft : ∀ w ∈ ws, fitsD n rs (fD w) = true
  st : ∀ k a b, ws[k]? = some a → ws[k + 1]? = some b → stepOk a b
theorem way_holds_ok {n : Int} {rs : List R4} {one other : List Int} {ws : List (List Int)} (n0 : 0 < n) (n1 : n ≤ 12) (hl : rs.length ≤ 1000) (hw : ws.length ≤ 1000) (W : Way n rs one other ws) {c : Ct} {P : Vl → Ct → Prop} (hP : P (.dat (.bool true)) c) :
    sp_way_holds [.dat (.int n), .dat (rDs rs), .dat (fD one), .dat (fD other), .dat (.tuple (ws.map fD))] c P := by
  have hp : 0 < ws.length := by
    cases ws with
    | nil => cases W.hd
    | cons y l => simp
  refine iteDN (c := ((ws.map fD).length : Int) = 0) (by rw [List.length_map]; omega) ?_
  refine ⟨by rw [List.length_map]; exact small_len (by omega), ?_⟩
  refine lcL_pure (fun _ => true) (fun d => .bool (fitsD n rs d)) _ _ _ _ (fun d hd P hP => hP) (fun d hd hf P hP => ⟨rfl, fits_ok n0 (by omega) hl hP⟩) ?_
  rw [List.filter_eq_self.mpr (fun _ _ => rfl), List.nil_append]
  refine ⟨_, bools_map (fitsD n rs) (ws.map fD), ?_⟩
  have eall : ((ws.map fD).map (fitsD n rs)).all id = true := by
    rw [List.all_eq_true]
    intro b hb
    obtain ⟨d, hd, rfl⟩ := List.mem_map.mp hb
    obtain ⟨w, hw, rfl⟩ := List.mem_map.mp hd
    exact W.ft w hw
  refine iteNB (b := ((ws.map fD).map (fitsD n rs)).all id) eall ?_
  have a0 : atI (ws.map fD) 0 = some (fD one) := atI_nat (j := 0) (by
    rw [List.getElem?_map, ← List.head?_eq_getElem?, W.hd]
    rfl)
  have a1 : atI (ws.map fD) (-1) = some (fD other) := atI_last (by rw [List.getLast?_map, W.lt]; rfl)
  refine ix_ok a0 ⟨shaped_tup one, shaped_tup one, ?_⟩
  refine iteNB (b := PyData.eqv (fD one) (fD one)) (by unfold fD; rw [eqv_tup]; exact decide_eq_true rfl) ?_
  refine ix_ok a1 ⟨shaped_tup other, shaped_tup other, ?_⟩
  refine iteNB (b := PyData.eqv (fD other) (fD other)) (by unfold fD; rw [eqv_tup]; exact decide_eq_true rfl) ?_
  have ec : DL.cutD (ws.map fD) (some 1) none = (ws.map fD).drop 1 := by
    rw [show (1 : Int) = ((1 : Nat) : Int) from rfl, cut_drop]
  show (((ws.map fD).zip (DL.cutD (ws.map fD) (some 1) none)).map fun z => PyData.tuple [z.1, z.2]).length < sizeLine ∧ lcL _ _ _ _ (((ws.map fD).zip (DL.cutD (ws.map fD) (some 1) none)).map fun z => PyData.tuple [z.1, z.2]) _ _ _
  rw [ec]
  refine ⟨?_, lcL_gen (fun _ => true) (fun _ => .bool true) _ _ _ _ (fun d hd k2 rest acc h => ?_) ?_⟩
  · rw [List.length_map, List.length_zip, List.length_map]
    exact small_len (by omega)
  · obtain ⟨z, hz, rfl⟩ := List.mem_map.mp hd
    obtain ⟨k, hk⟩ := List.getElem?_of_mem hz
    obtain ⟨h1, h2⟩ := List.getElem?_zip_eq_some.mp hk
    rw [List.getElem?_map] at h1
    rw [List.getElem?_drop, List.getElem?_map] at h2
    obtain ⟨a, ha, ea⟩ := Option.map_eq_some_iff.mp h1
    obtain ⟨b, hb, eb⟩ := Option.map_eq_some_iff.mp h2
    have la := W.ln a (List.mem_of_getElem? ha)
    have lb := W.ln b (List.mem_of_getElem? hb)
    refine ⟨rfl, rfl, ?_⟩
    show sp_is_step [.dat z.1, .dat z.2] _ _
    rw [← ea, ← eb]
    exact is_step_ok (by omega) (by omega) (by omega) (W.st k a b ha (by rw [← hb]; congr 1; omega)) h
  · rw [List.filter_eq_self.mpr (fun _ _ => rfl), List.nil_append]
    refine ⟨_, bools_map (fun _ => true) _, ?_⟩
    have : ∀ (l : List PyData), (l.map fun _ => true).all id = true := fun l => by
      rw [List.all_eq_true]
      intro b hb
      obtain ⟨_, _, rfl⟩ := List.mem_map.mp hb
      rfl
    rw [this]
    exact hP
/-- fits, from the sums -/
theorem fits_of {n : Int} {fs : List Int} {rs : List R4} (hn : (fs.length : Int) = n) (hfs : ∀ x ∈ fs, 0 ≤ x) (hrs : ∀ r ∈ rs, r.Ok n) (hft : ∀ r ∈ rs, fitR fs r) : fitsD n rs (fD fs) = true := by
  unfold fitsD fD
  rw [fillOf_ints hn hfs]
  refine (BR_nil (Nat.le_refl _)).mpr fun i r hi e => ?_
  have hm := List.mem_of_getElem? e
  have ok := hrs r hm
  obtain ⟨f1, f2⟩ := hft r hm
  have o1 := ok.f0
  have o2 := ok.f1
  have o3 := ok.s0
  have o4 := ok.s1
  rw [sums_same (by omega) (by omega) (by omega) (by omega)] at f1 f2
  refine ⟨f1, ?_⟩
  cases hmm : r.m with
  | none => rfl
  | some m => exact decide_eq_false (by have := f2 m hmm; omega)
/-- the way that is found is a way -/
theorem way_found {n : Int} {rs : List R4} {one other : List Int} (h0 : 0 < one.length) (he : one.length = other.length) (hn : (one.length : Int) = n) (hs : one.sum = other.sum) (hrs : ∀ r ∈ rs, r.Ok n)
    (p : ∀ x ∈ one, 0 ≤ x) (q : ∀ x ∈ other, 0 ≤ x) (f1 : ∀ r ∈ rs, fitR one r) (f2 : ∀ r ∈ rs, fitR other r) : Way n rs one other (wayL one other) := by
  have nn := stN_nn h0 he
  refine ⟨?_, ?_, fun w hw => ?_, fun w hw => ?_, fun k a b ha hb => ?_⟩
  · unfold wayL
    rw [List.head?_map, List.head?_range]
    simp [Wy_first h0 he]
  · unfold wayL
    rw [List.getLast?_map, List.getLast?_range]
    simp only [Nat.add_one_ne_zero, if_false, Option.map_some, Nat.add_sub_cancel]
    rw [show (((stN one other).toNat : Nat) : Int) = stN one other by omega, Wy_last h0 he hs]
  · obtain ⟨s, _, rfl⟩ := List.mem_map.mp hw
    rw [Wy_len h0 he]
    exact hn
  · obtain ⟨s, _, rfl⟩ := List.mem_map.mp hw
    exact fits_of (by rw [Wy_len h0 he]; exact hn) (Wy_nn h0 he hs (by omega) p q) hrs (Wy_fits h0 he hs hn (by omega) hrs p q f1 f2)
  · unfold wayL at ha hb
    rw [List.getElem?_map] at ha hb
    obtain ⟨x, hx, rfl⟩ := Option.map_eq_some_iff.mp ha
    obtain ⟨y, hy, rfl⟩ := Option.map_eq_some_iff.mp hb
    have ex : x = k := by
      have h1 := (List.getElem?_eq_some_iff.mp hx).1
      rw [List.length_range] at h1
      rw [List.getElem?_range h1] at hx
      exact (Option.some.inj hx).symm
    have ey : y = k + 1 := by
      have h1 := (List.getElem?_eq_some_iff.mp hy).1
      rw [List.length_range] at h1
      rw [List.getElem?_range h1] at hy
      exact (Option.some.inj hy).symm
    subst ex ey
    have := Wy_step h0 he (s := (x : Int)) (by omega)
    rw [show ((x + 1 : Nat) : Int) = (x : Int) + 1 by omega]
    exact this
theorem wayL_len (one other : List Int) : (wayL one other).length = (stN one other).toNat + 1 := by simp [wayL]
theorem take_nn {l : List Int} (h : ∀ x ∈ l, 0 ≤ x) : ∀ k, 0 ≤ (l.take k).sum ∧ (l.take k).sum ≤ l.sum := by
  induction l with
  | nil => intro k; simp
  | cons x l ih =>
    intro k
    have hx := h x List.mem_cons_self
    have ih := ih fun y hy => h y (List.mem_cons_of_mem _ hy)
    cases k with
    | zero =>
      have := ih l.length
      rw [List.take_length] at this
      simp only [List.take_zero, List.sum_nil, List.sum_cons]
      omega
    | succ k =>
      have := ih k
      simp only [List.take_succ_cons, List.sum_cons]
      omega
theorem stN_le {one other : List Int} (h0 : 0 < one.length) (he : one.length = other.length) (hs : one.sum = other.sum) (p : ∀ x ∈ one, 0 ≤ x) (q : ∀ x ∈ other, 0 ≤ x) {B : Int} (hB : one.sum ≤ B) : stN one other ≤ B + 1 := by
  have hp : 0 < (lds one other).length := by rw [lds_len he]; exact h0
  have bd : ∀ y ∈ lds one other, -B ≤ y ∧ y ≤ B := fun y hy => by
    obtain ⟨k, hk⟩ := List.getElem?_of_mem hy
    have hlt : k < one.length := by
      have := (List.getElem?_eq_some_iff.mp hk).1
      rw [lds_len he] at this
      exact this
    rw [lds_get he hlt] at hk
    have ek := Option.some.inj hk
    have a := take_nn p k
    have b := take_nn q k
    omega
  have b1 := bd _ (mxL_mem hp)
  have b2 := bd _ (mnL_mem hp)
  unfold stN
  omega
/-- prefix sums, when each place passes on its part -/
theorem take_pass {fs gs : List Int} {D : Nat → Int} (hl : gs.length = fs.length) (hg : ∀ k (hk : k < fs.length), gs[k]? = some (fs[k] + D ((k + 1) % fs.length) - D k)) : ∀ {k : Nat}, k ≤ fs.length → (gs.take k).sum = (fs.take k).sum + D (k % fs.length) - D 0
  | 0, _ => by
    rw [Nat.zero_mod, List.take_zero, List.take_zero]
    simp
  | k + 1, hk => by
    have ih := take_pass hl hg (k := k) (by omega)
    have h1 : k < gs.length := by omega
    have e := hg k (by omega)
    rw [List.getElem?_eq_getElem h1] at e
    have e := Option.some.inj e
    rw [take_sumP h1, ih, e, take_sumP (by omega), Nat.mod_eq_of_lt (show k < fs.length by omega)]
    omega

theorem stN_add {n : Nat} {A B C D E F : List Int} (n0 : 0 < n) (a : A.length = n) (b : B.length = n) (c : C.length = n) (d : D.length = n) (e : E.length = n) (f : F.length = n)
    (h : ∀ k, k < n → (F.take k).sum - (E.take k).sum = ((B.take k).sum - (A.take k).sum) + ((D.take k).sum - (C.take k).sum)) : stN E F ≤ stN A B + stN C D := by
  have ab : A.length = B.length := a.trans b.symm
  have cd : C.length = D.length := c.trans d.symm
  have ef : E.length = F.length := e.trans f.symm
  have hp : 0 < (lds E F).length := by rw [lds_len ef]; omega
  have key : ∀ y ∈ lds E F, mnL (lds A B) + mnL (lds C D) ≤ y ∧ y ≤ mxL (lds A B) + mxL (lds C D) := fun y hy => by
    obtain ⟨k, hk⟩ := List.getElem?_of_mem hy
    have hlt : k < E.length := by
      have := (List.getElem?_eq_some_iff.mp hk).1
      rw [lds_len ef] at this
      exact this
    rw [lds_get ef hlt] at hk
    have ek := Option.some.inj hk
    have h1 := List.mem_of_getElem? (lds_get ab (k := k) (by omega))
    have h2 := List.mem_of_getElem? (lds_get cd (k := k) (by omega))
    have x1 := mnL_le h1
    have x2 := mxL_ge h1
    have x3 := mnL_le h2
    have x4 := mxL_ge h2
    have := h k (by omega)
    omega
  have k1 := key _ (mxL_mem hp)
  have k2 := key _ (mnL_mem hp)
  unfold stN
  omega
theorem stN_tri {n : Nat} {A B C : List Int} (n0 : 0 < n) (a : A.length = n) (b : B.length = n) (c : C.length = n) : stN A C ≤ stN A B + stN B C :=
  stN_add n0 a b b c a c fun k _ => by omega
theorem stepOk_sum {a b : List Int} (h : stepOk a b) : a.sum = b.sum ∧ stN a b ≤ 1 := by
  obtain ⟨v, e, hv⟩ := h
  unfold lsD at e
  split at e
  · rename_i hs
    have e2 : stN a b = v := by
      have := PyData.int.inj e
      exact this
    exact ⟨hs, by omega⟩
  · cases e
theorem stN_self {a : List Int} (h0 : 0 < a.length) : stN a a = 0 := (ls_zero h0 rfl rfl).mpr rfl
theorem Way.ends {n : Int} {rs : List R4} {one other : List Int} {ws : List (List Int)} (W : Way n rs one other ws) : ws[0]? = some one ∧ ws[ws.length - 1]? = some other := by
  refine ⟨?_, ?_⟩
  · rw [← List.head?_eq_getElem?]
    exact W.hd
  · rw [← List.getLast?_eq_getElem?]
    exact W.lt
end RW
namespace RW
open PySem PySem.Spec PyProof.Rows L2 DL
structure Fn (n : Nat) (t : Int) (fs : List Int) : Prop where
  len : fs.length = n
  nn : ∀ x ∈ fs, 0 ≤ x
  sm : fs.sum = t
theorem ixN_nat {L k : Nat} (h : k < L) : ixN L (k : Int) = some k := by
  unfold ixN
  rw [if_pos (by omega), if_pos (by omega)]
  rfl
theorem psum_nn {fs : List Int} {f : Int} (h : ∀ x ∈ fs, 0 ≤ x) : ∀ k : Nat, 0 ≤ psum fs f k
  | 0 => Int.le_refl _
  | k + 1 => by
    have ih := psum_nn (f := f) h k
    have hx : 0 ≤ fs.getD ((f + k) % fs.length).toNat 0 := by
      rw [List.getD_eq_getElem?_getD]
      cases e : fs[((f + k) % fs.length).toNat]? with
      | none => exact Int.le_refl _
      | some x => exact h x (List.mem_of_getElem? e)
    show 0 ≤ psum fs f k + _
    omega
def valsOf : PyData → List Int
  | .tuple ds => ds.map valI
  | _ => []
theorem loose4 {r : Int} (h0 : 0 ≤ r) (h1 : r < 4) : ∃ l : Int, atI [PyData.int 0, .int 0, .int 1, .int 50] r = some (.int l) ∧ 0 ≤ l ∧ l ≤ 50 := by
  have : r = 0 ∨ r = 1 ∨ r = 2 ∨ r = 3 := by omega
  rcases this with rfl | rfl | rfl | rfl
  · exact ⟨0, rfl, by decide, by decide⟩
  · exact ⟨0, rfl, by decide, by decide⟩
  · exact ⟨1, rfl, by decide, by decide⟩
  · exact ⟨50, rfl, by decide, by decide⟩

end RW
namespace RW
open PySem PySem.Spec PyProof.Rows L2 DL
local macro_rules | `(tactic| array_mem_dec) => `(tactic| first | assumption | omega | (refine small_le ?_; omega) | (refine small_len ?_; omega) | (refine cmul_l ?_ ?_ <;> omega) | (refine cmul_r ?_ ?_ <;> omega) | (refine cdiv_ok ?_ ?_ <;> omega) | (refine small_le ?_; simp only [List.length_cons, List.length_nil, List.length_append, List.length_map, dInts_len, rangeD_len, List.length_replicate, List.length_take, List.length_drop, List.length_reverse, List.length_range, rep_len] <;> omega) | (refine small_len ?_; simp only [List.length_cons, List.length_nil, List.length_append, List.length_map, dInts_len, rangeD_len, List.length_replicate, List.length_take, List.length_drop, List.length_reverse, List.length_range, rep_len] <;> omega) | (refine ⟨?_, ?_⟩ <;> omega) | (refine ⟨?_, ?_, ?_⟩ <;> omega) | (refine ⟨?_, ?_, ?_, ?_⟩ <;> omega) | (simp only [List.length_cons, List.length_nil, List.length_append, List.length_map, dInts_len, rangeD_len, List.length_replicate, List.length_take, List.length_drop, List.length_reverse, List.length_range, rep_len] <;> omega) | (refine ⟨?_, ?_, small_le ?_⟩ <;> (try simp only [List.length_cons, List.length_nil, List.length_append, List.length_map, dInts_len, rangeD_len, List.length_replicate, List.length_take, List.length_drop, List.length_reverse, List.length_range, rep_len]) <;> omega) | (refine cpow_ok ?_ ?_ ?_ <;> omega) | (with_unfolding_all decide) | (simp [SeqAt.shaped, PyData.canLay0, PyData.canLayAll0, PyData.depth, PyData.depthAll]; done) | fail)
local macro_rules | `(tactic| ac_rfl) => `(tactic| simp (config := { dsimp := false, implicitDefEqProofs := false, failIfUnchanged := false }) (disch := array_mem_dec) only [↓x_set0, ↓x_setS, ↓x_own0, ↓x_ownS, ↓x_st0, ↓x_stS, ↓x_stN, ↓x_wm0, ↓x_wmS, ↓x_seq, ↓x_nx, ↓x_ret, ↓x_retN, ↓x_asg, ↓x_if, ↓x_drop, ↓x_brk, ↓x_cnt, ↓x_par, ↓x_par3, ↓x_for, ↓x_new, ↓x_app, ↓x_frz, ↓x_ownSet, ↓x_own, ↓x_parF, ↓x_parFF, ↓x_parEF, ↓x_par3F, ↓x_newLst, ↓x_dat, ↓x_int, ↓x_bool, ↓x_tru0, ↓x_truB, ↓x_truI, ↓x_truL, ↓x_truT, ↓x_v0, ↓x_v0k, ↓x_v0e, ↓x_vS, ↓x_c, ↓x_op, ↓x_un, ↓x_anil, ↓x_acons, ↓x_call, ↓x_callX, ↓x_callV, ↓x_callVX, ↓x_dats0, ↓x_datsS, ↓x_cb, ↓x_rdI, ↓x_rdIc, ↓x_neg, ↓x_eqS, ↓x_eqI, ↓x_eqB, ↓x_eqL, ↓x_eqT, ↓x_eqNT, ↓x_eqTN, ↓x_eqNN, ↓x_ne, ↓x_isN0, ↓x_isNI, ↓x_isNB, ↓x_isNS, ↓x_isNT, ↓x_isNL, ↓x_ntN0, ↓x_ntNI, ↓x_ntNB, ↓x_ntNS, ↓x_ntNT, ↓x_ntNL, ↓x_ixL, ↓x_ixT, ↓x_ixO, ↓x_ix0, ↓x_ix1, ↓x_ix2, ↓x_ix3, ↓x_inTt, ↓x_inTf, ↓x_inLt, ↓x_inLf, ↓x_tup, ↓x_lst, ↓x_lenL, ↓x_lenT, ↓x_tupL, ↓x_tupT, ↓x_lstL, ↓x_lstT, ↓x_sumL, ↓x_sumT, ↓x_max, ↓x_min, ↓x_abs, ↓x_intI, ↓x_intB, x_if1, x_if0, ↓x_repr, ↓x_ty, ↓x_addUI, ↓x_addUT, ↓x_addRT, ↓x_addRR, ↓x_lenR, ↓x_revR, ↓x_isNR, ↓x_addXL, ↓x_addXT, ↓x_addXI, ↓x_revT, ↓x_isB, ↓x_ntB, ↓x_neNil, ↓x_eqNil, ↓x_neNilT, ↓x_eqNilT, ↓x_mulUI, ↓x_tupRg, ↓x_lstRg, ↓x_slT, x_cut1, x_evTC, x_evTN, x_evLC, x_evLN, x_evI, x_evS, x_evB, x_evNN, x_evNI, x_evIN, x_evNT, x_evTNo, ↓x_oNo, ↓x_oSome, ↓x_chain, ↓x_val, ↓x_tnt, ↓x_tan, ↓x_too, ↓x_dnt, ↓x_dan, ↓x_doo, ↓x_dorT, ↓x_ife, ↓x_lc, ↓x_flc, ↓x_ton, ↓x_flst, ↓x_flist, ↓x_fcat, ↓x_fsl, ↓x_frev, ↓x_frep, ↓x_df, ↓x_ownIx, ↓x_ownLen, ↓x_repL, ↓x_wl, ↓x_wt, ↓x_wr1, ↓x_wr2, ↓x_wzT, ↓x_wzL, ↓x_weT, ↓x_weL, ↓x_gnm, ↓x_gs0, ↓x_gsS, ↓x_gtu, ↓x_gli, x_wipe0, x_wipeS, ↓x_sd, ↓x_sdY, x_flI, x_flS', x_flN, x_flB, x_all0, x_allS, x_andT, ↓x_brT, ↓x_brF, ↓x_brN, ↓x_brO, ↓x_brA, x_eqPI, x_any0, x_anyS, ↓x_brP, ↓x_brQ, ↓x_brB, ↓x_brC, x_s0, x_sS, x_g0, x_gS, ↓x_body, ↓x_bodyX, ↓x_frg, ↓x_ownLst, ↓x_ownNe, ↓x_ownEq, ↓x_ext, ↓x_wr3, ↓x_leT, ↓x_strK, ↓x_lstK, ↓x_fmtKS, ↓x_fmtKI, ↓x_fmt, ↓x_fs0, ↓x_fsS, ↓x_join, ↓x_strI, ↓x_addS, ↓x_dM1, ↓x_dM0, ↓x_split, ↓x_part, ↓x_ends, ↓x_digit, ↓x_ascii, ↓x_lenS, ↓x_inSf, ↓x_inSt, ↓x_wS, ↓x_slS, ↓x_mulS, ↓x_look1, ↓x_look2, ↓x_putFv0, ↓x_putFv1, ↓x_putFv2, ↓x_inC1, ↓x_inC2, ↓x_find1, ↓x_find2, ↓x_at1, ↓x_at2, ↓x_fldS, ↓x_obK, ↓x_fvV, ↓x_fvVo, ↓x_fvK, ↓x_fvKo, ↓x_v0o, ↓x_fld, ↓x_put1, ↓x_put2, ↓x_setOb, ↓x_sfld, ↓x_fvI, ↓x_sameC, ↓x_fldadd, ↓x_prop, ↓x_noF0, ↓x_noF1, ↓x_methS, ↓x_meth, ↓x_methX, ↓x_make, ↓x_makeX, ↓x_isNon, ↓x_sexpr, ↓x_ownSl, ↓x_try, ↓x_excK, ↓x_isXr, ↓x_xfK1, ↓x_xf, ↓x_raise, ↓x_dun, ↓x_lenO, ↓x_strO, ↓x_methN, ↓x_methNX, ↓x_methKX, ↓x_ownAug, ↓x_lend, ↓x_lendB, ↓x_lendI, ↓x_lendT, ↓x_methK, ↓x_raise0, ↓x_call0, ↓x_tryG, ↓x_lm, ↓x_lsk, ↓x_ownNn, ↓x_pop, ↓x_fin, ↓x_pairK, ↓x_fld2, ↓x_isLT0, ↓x_isLT1, ↓x_inK, ↓x_wEK, ↓x_countS, ↓x_ixS, ↓x_tryU, ↓x_finX, ↓x_isNV0, ↓x_isNV1, ↓x_isNV, ↓x_isiS, ↓x_isiO, ↓x_eqOS, ↓x_eqO, ↓x_eqBk, ↓x_pick, ↓x_gInC, ↓x_gFind, ↓x_gInC0, ↓x_gInC1, ↓x_gFind0, ↓x_gFind1, ↓x_gFind2, ↓x_gNoF, ↓x_gStates, ↓x_gN, ↓x_gStanding, ↓x_gBusy, ↓x_gSq, ↓x_gPut1, ↓x_gPut2, ↓x_gPut3, ↓x_lkPut1, ↓x_lkPut2, ↓x_nofPut, ↓x_gSq1, ↓x_gSq2, ↓x_gPut12, ↓x_gPut21, ↓x_gPut213, ↓x_isiV, ↓x_isiVd, ↓x_isiVo, ↓x_isLst0, ↓x_neOS, ↓x_neO, ↓x_neBk, ↓x_starts, ↓x_upper, ↓x_getK, ↓x_dGetK, ↓x_intS, ↓x_oq0, ↓x_oqD, ↓x_oqS, ↓x_pickO, ↓x_call3, ↓x_s3, ↓x_s3f, ↓x_s3r, ↓x_wEnV0, ↓x_wEnV1, ↓x_lendQ, ↓x_lendQt, ↓x_lendQf, ↓x_clr, ↓x_lendS, ↓x_lendBB, ↓x_lendLL, ↓x_stPutL, ↓x_inOD, ↓x_ixOD, ↓x_putOD, ↓x_par3EEF, ↓x_putPut, ↓x_putOs, ↓x_strAI, ↓x_strAS, ↓x_cmX, ↓x_makeV0, DL.isTup, DL.isInt, DL.isBool, DL.isStr, Int.reduceToNat, Int.reducePow, List.nil_append, List.cons_append, st_n, st_tick])
local macro_rules | `(tactic| array_get_dec) => `(tactic| simp (config := { dsimp := false, implicitDefEqProofs := false, failIfUnchanged := false }) (disch := array_mem_dec) only [↓x_set0, ↓x_setS, ↓x_own0, ↓x_ownS, ↓x_st0, ↓x_stS, ↓x_stN, ↓x_wm0, ↓x_wmS, ↓x_seq, ↓x_nx, ↓x_ret, ↓x_retN, ↓x_asg, ↓x_if, ↓x_drop, ↓x_brk, ↓x_cnt, ↓x_par, ↓x_par3, ↓x_for, ↓x_new, ↓x_app, ↓x_frz, ↓x_ownSet, ↓x_own, ↓x_parF, ↓x_parFF, ↓x_parEF, ↓x_par3F, ↓x_newLst, ↓x_dat, ↓x_int, ↓x_bool, ↓x_tru0, ↓x_truB, ↓x_truI, ↓x_truL, ↓x_truT, ↓x_v0, ↓x_v0k, ↓x_v0e, ↓x_vS, ↓x_c, ↓x_op, ↓x_un, ↓x_anil, ↓x_acons, ↓x_call, ↓x_callX, ↓x_callV, ↓x_callVX, ↓x_dats0, ↓x_datsS, ↓x_cb, ↓x_rdI, ↓x_rdIc, ↓x_neg, ↓x_eqS, ↓x_eqI, ↓x_eqB, ↓x_eqL, ↓x_eqT, ↓x_eqNT, ↓x_eqTN, ↓x_eqNN, ↓x_ne, ↓x_isN0, ↓x_isNI, ↓x_isNB, ↓x_isNS, ↓x_isNT, ↓x_isNL, ↓x_ntN0, ↓x_ntNI, ↓x_ntNB, ↓x_ntNS, ↓x_ntNT, ↓x_ntNL, ↓x_ixL, ↓x_ixT, ↓x_ixO, ↓x_ix0, ↓x_ix1, ↓x_ix2, ↓x_ix3, ↓x_inTt, ↓x_inTf, ↓x_inLt, ↓x_inLf, ↓x_tup, ↓x_lst, ↓x_lenL, ↓x_lenT, ↓x_tupL, ↓x_tupT, ↓x_lstL, ↓x_lstT, ↓x_sumL, ↓x_sumT, ↓x_max, ↓x_min, ↓x_abs, ↓x_intI, ↓x_intB, x_if1, x_if0, ↓x_repr, ↓x_ty, ↓x_addUI, ↓x_addUT, ↓x_addRT, ↓x_addRR, ↓x_lenR, ↓x_revR, ↓x_isNR, ↓x_addXL, ↓x_addXT, ↓x_addXI, ↓x_revT, ↓x_isB, ↓x_ntB, ↓x_neNil, ↓x_eqNil, ↓x_neNilT, ↓x_eqNilT, ↓x_mulUI, ↓x_tupRg, ↓x_lstRg, ↓x_slT, x_cut1, x_evTC, x_evTN, x_evLC, x_evLN, x_evI, x_evS, x_evB, x_evNN, x_evNI, x_evIN, x_evNT, x_evTNo, ↓x_oNo, ↓x_oSome, ↓x_chain, ↓x_val, ↓x_tnt, ↓x_tan, ↓x_too, ↓x_dnt, ↓x_dan, ↓x_doo, ↓x_dorT, ↓x_ife, ↓x_lc, ↓x_flc, ↓x_ton, ↓x_flst, ↓x_flist, ↓x_fcat, ↓x_fsl, ↓x_frev, ↓x_frep, ↓x_df, ↓x_ownIx, ↓x_ownLen, ↓x_repL, ↓x_wl, ↓x_wt, ↓x_wr1, ↓x_wr2, ↓x_wzT, ↓x_wzL, ↓x_weT, ↓x_weL, ↓x_gnm, ↓x_gs0, ↓x_gsS, ↓x_gtu, ↓x_gli, x_wipe0, x_wipeS, ↓x_sd, ↓x_sdY, x_flI, x_flS', x_flN, x_flB, x_all0, x_allS, x_andT, ↓x_brT, ↓x_brF, ↓x_brN, ↓x_brO, ↓x_brA, x_eqPI, x_any0, x_anyS, ↓x_brP, ↓x_brQ, ↓x_brB, ↓x_brC, x_s0, x_sS, x_g0, x_gS, ↓x_body, ↓x_bodyX, ↓x_frg, ↓x_ownLst, ↓x_ownNe, ↓x_ownEq, ↓x_ext, ↓x_wr3, ↓x_leT, ↓x_strK, ↓x_lstK, ↓x_fmtKS, ↓x_fmtKI, ↓x_fmt, ↓x_fs0, ↓x_fsS, ↓x_join, ↓x_strI, ↓x_addS, ↓x_dM1, ↓x_dM0, ↓x_split, ↓x_part, ↓x_ends, ↓x_digit, ↓x_ascii, ↓x_lenS, ↓x_inSf, ↓x_inSt, ↓x_wS, ↓x_slS, ↓x_mulS, ↓x_look1, ↓x_look2, ↓x_putFv0, ↓x_putFv1, ↓x_putFv2, ↓x_inC1, ↓x_inC2, ↓x_find1, ↓x_find2, ↓x_at1, ↓x_at2, ↓x_fldS, ↓x_obK, ↓x_fvV, ↓x_fvVo, ↓x_fvK, ↓x_fvKo, ↓x_v0o, ↓x_fld, ↓x_put1, ↓x_put2, ↓x_setOb, ↓x_sfld, ↓x_fvI, ↓x_sameC, ↓x_fldadd, ↓x_prop, ↓x_noF0, ↓x_noF1, ↓x_methS, ↓x_meth, ↓x_methX, ↓x_make, ↓x_makeX, ↓x_isNon, ↓x_sexpr, ↓x_ownSl, ↓x_try, ↓x_excK, ↓x_isXr, ↓x_xfK1, ↓x_xf, ↓x_raise, ↓x_dun, ↓x_lenO, ↓x_strO, ↓x_methN, ↓x_methNX, ↓x_methKX, ↓x_ownAug, ↓x_lend, ↓x_lendB, ↓x_lendI, ↓x_lendT, ↓x_methK, ↓x_raise0, ↓x_call0, ↓x_tryG, ↓x_lm, ↓x_lsk, ↓x_ownNn, ↓x_pop, ↓x_fin, ↓x_pairK, ↓x_fld2, ↓x_isLT0, ↓x_isLT1, ↓x_inK, ↓x_wEK, ↓x_countS, ↓x_ixS, ↓x_tryU, ↓x_finX, ↓x_isNV0, ↓x_isNV1, ↓x_isNV, ↓x_isiS, ↓x_isiO, ↓x_eqOS, ↓x_eqO, ↓x_eqBk, ↓x_pick, ↓x_gInC, ↓x_gFind, ↓x_gInC0, ↓x_gInC1, ↓x_gFind0, ↓x_gFind1, ↓x_gFind2, ↓x_gNoF, ↓x_gStates, ↓x_gN, ↓x_gStanding, ↓x_gBusy, ↓x_gSq, ↓x_gPut1, ↓x_gPut2, ↓x_gPut3, ↓x_lkPut1, ↓x_lkPut2, ↓x_nofPut, ↓x_gSq1, ↓x_gSq2, ↓x_gPut12, ↓x_gPut21, ↓x_gPut213, ↓x_isiV, ↓x_isiVd, ↓x_isiVo, ↓x_isLst0, ↓x_neOS, ↓x_neO, ↓x_neBk, ↓x_starts, ↓x_upper, ↓x_getK, ↓x_dGetK, ↓x_intS, ↓x_oq0, ↓x_oqD, ↓x_oqS, ↓x_pickO, ↓x_call3, ↓x_s3, ↓x_s3f, ↓x_s3r, ↓x_wEnV0, ↓x_wEnV1, ↓x_lendQ, ↓x_lendQt, ↓x_lendQf, ↓x_clr, ↓x_lendS, ↓x_lendBB, ↓x_lendLL, ↓x_stPutL, ↓x_inOD, ↓x_ixOD, ↓x_putOD, ↓x_par3EEF, ↓x_putPut, ↓x_putOs, ↓x_strAI, ↓x_strAS, ↓x_cmX, ↓x_makeV0, DL.isTup, DL.isInt, DL.isBool, DL.isStr, Int.reduceToNat, Int.reducePow, List.nil_append, List.cons_append, st_n, st_tick, ↓x_fl0, ↓x_flS, ↓x_fl, ↓x_ll0, ↓x_llS])
section
variable {m : Nat} {L : List (Addr × Ob)} {r : Rst} {P : Vl → Ct → Prop}
theorem rulesG_ok {n : Nat} {fss : List (List Int)} {most : Nat} (h0 : 0 < n) (h1 : n ≤ 12) (hm16 : most ≤ 16) (hf0 : 0 < fss.length) (hf9 : fss.length ≤ 100) (p : ∀ fs ∈ fss, fs.length = n ∧ ∀ x ∈ fs, 0 ≤ x) (hc : m ≤ 1000000)
    (hP : ∀ (rs : List R4) (m' : Nat), rs.length ≤ most → (∀ q ∈ rs, q.Ok (n : Int)) → (∀ fs ∈ fss, ∀ q ∈ rs, fitR fs q) → m' ≤ m + 1 + 4 * 16 → P (.dat (rDs rs)) (St m' L r)) :
    sp__law_rules [.deck, .dat (.int (n : Int)), .dat (.list (fss.map fD)), .dat (.int (most : Int))] (St m L r) P := by
  have m200 : ((most : Int) + 1) < 2 ^ 200 := Int.lt_of_le_of_lt (by omega : (most : Int) + 1 ≤ 17) (by decide)
  have n200 : ((n : Int)) < 2 ^ 200 := Int.lt_of_le_of_lt (by omega : (n : Int) ≤ 17) (by decide)
  unfold sp__law_rules dt__law_rules
  ac_rfl
  refine draw_okS (by omega) (by omega) (by omega) fun T T0 T1 => ?_
  ac_rfl
  refine fl_inv (fun j env c' => ∃ (rs : List R4) (m' : Nat) (x5 x6 x7 x8 x9 x10 x11 : Option Vl), rs.length = j ∧ m' ≤ m + 1 + 4 * j ∧ (∀ q ∈ rs, q.Ok (n : Int)) ∧ (∀ fs ∈ fss, ∀ q ∈ rs, fitR fs q) ∧ c' = St m' L r ∧ env = [some .deck, some (.dat (.int (n : Int))), some (.dat (.list (fss.map fD))), some (.dat (.int (most : Int))), some (.own (rs.map rD)), x5, x6, x7, x8, x9, x10, x11, none]) (fun j d env c' k hd hI hk => ?_) ⟨[], _, _, _, _, _, _, _, _, rfl, by omega, (fun _ h => nomatch h), (fun _ _ _ h => nomatch h), rfl, rfl⟩ (fun env c' hI => ?_)
  · obtain ⟨rs, m', x5, x6, x7, x8, x9, x10, x11, hj, hcc, hrs, hft, rfl, rfl⟩ := hI
    obtain ⟨hjm, rfl⟩ := rangeD_get hd
    ac_rfl
    refine draw_okS (by omega) (by omega) (by omega) fun f a1 b1 => ?_
    ac_rfl
    refine draw_okS (by omega) (by omega) (by omega) fun g a2 b2 => ?_
    ac_rfl
    refine draw_okS (by decide) (by decide) (by omega) fun u a3 b3 => ?_
    obtain ⟨l, hat, l0, l1⟩ := loose4 a3 b3
    ac_rfl
    refine ixk_ok hat ?_
    ac_rfl
    refine ll_map fD (fun fs => .int (psum fs f (1 + g).toNat)) (fun fs hfs A hA => ?_) ?_
    · have pp := p fs hfs
      ac_rfl
      refine cl_ok (lsum_ok (by rw [pp.1]; exact h0) (by rw [pp.1]; omega) (by omega) (by omega) ?_)
      ac_rfl
      exact hA
    have e : fss.map (fun fs => PyData.int (psum fs f (1 + g).toNat)) = dInts (fss.map fun fs => psum fs f (1 + g).toNat) := by
      unfold dInts
      rw [List.map_map]
      rfl
    rw [e]
    have hsl : 0 < (fss.map fun fs => psum fs f (1 + g).toNat).length := by rw [List.length_map]; exact hf0
    have hin : ∀ fs ∈ fss, psum fs f (1 + g).toNat ∈ fss.map fun fs => psum fs f (1 + g).toNat := fun fs h => List.mem_map_of_mem h
    have hnn : ∀ y ∈ (fss.map fun fs => psum fs f (1 + g).toNat), 0 ≤ y := fun y hy => by
      obtain ⟨fs, hfs, rfl⟩ := List.mem_map.mp hy
      exact psum_nn (p fs hfs).2 _
    generalize hS : (fss.map fun fs => psum fs f (1 + g).toNat) = S at hsl hin hnn
    ac_rfl
    refine ⟨S, intsOf_map S, hsl, fun mn h1' h2' => ?_⟩
    ac_rfl
    refine ⟨S, intsOf_map S, hsl, fun mx h3' h4' => ?_⟩
    have mn0 : 0 ≤ mn := hnn mn h1'
    have mx0 : 0 ≤ mx := hnn mx h3'
    have p9 : (10 : Int) ^ (9 : Int).toNat = 1000000000 := by decide
    have hsz : (rs.map rD).length < sizeLine := by rw [List.length_map]; exact small_len (by omega)
    -- the rule, with this most
    have fin : ∀ (mo : Option Int) (c2 : Nat), (∀ y, mo = some y → y = mx + l ∧ y ≤ 1000000000) → c2 ≤ m' + 4 → k [some .deck, some (.dat (.int (n : Int))), some (.dat (.list (fss.map fD))), some (.dat (.int (most : Int))), some (.own (rs.map rD ++ [.tuple [.int f, .int (1 + g), .int (min (10 ^ (9 : Int).toNat) (max 0 (mn - l))), optD mo]])), some (.dat (.int (0 + (j : Int)))), some (.dat (.int f)), some (.dat (.int (1 + g))), some (.dat (.int l)), some (.dat (.list (dInts S))), some (.dat (.int (min (10 ^ (9 : Int).toNat) (max 0 (mn - l))))), some (.dat (.int (mx + l))), none] (St c2 L r) := fun mo c2 hmo hc2 => by
      have eM : rs.map rD ++ [PyData.tuple [.int f, .int (1 + g), .int (min (10 ^ (9 : Int).toNat) (max 0 (mn - l))), optD mo]] = (rs ++ [(⟨f, 1 + g, min (10 ^ (9 : Int).toNat) (max 0 (mn - l)), mo⟩ : R4)]).map rD := by
        rw [List.map_append]
        rfl
      rw [eM]
      refine hk _ _ ⟨rs ++ [⟨f, 1 + g, min (10 ^ (9 : Int).toNat) (max 0 (mn - l)), mo⟩], c2, _, _, _, _, _, _, _, by rw [List.length_append, List.length_singleton, hj], by omega, fun r hr => ?_, fun fs hfs r hr => ?_, rfl, rfl⟩
      · rcases List.mem_append.mp hr with h | h
        · exact hrs r h
        · rw [List.mem_singleton] at h
          subst h
          rw [p9]
          have big : ∀ x : Int, 0 ≤ x → x ≤ 1000000000 → x.natAbs < 2 ^ 200 := fun x x0 x1 => Nat.lt_of_lt_of_le (by omega : x.natAbs < 1000000001) (by decide)
          refine ⟨a1, b1, by show 1 ≤ 1 + g; omega, by show 1 + g ≤ n; omega, by show 0 ≤ min 1000000000 (max 0 (mn - l)); omega, big _ (by show 0 ≤ min 1000000000 (max 0 (mn - l)); omega) (by show min 1000000000 (max 0 (mn - l)) ≤ 1000000000; omega), fun y e => ?_⟩
          obtain ⟨e1, e2⟩ := hmo y e
          exact ⟨by omega, big _ (by omega) e2⟩
      · rcases List.mem_append.mp hr with h | h
        · exact hft fs hfs r h
        · rw [List.mem_singleton] at h
          subst h
          have q1 := h2' _ (hin fs hfs)
          have q2 := h4' _ (hin fs hfs)
          have q0 := hnn _ (hin fs hfs)
          refine ⟨?_, fun y e => ?_⟩
          · show min (10 ^ (9 : Int).toNat) (max 0 (mn - l)) ≤ psum fs f (1 + g).toNat
            omega
          · show psum fs f (1 + g).toNat ≤ y
            have := (hmo y e).1
            omega
    ac_rfl
    refine br_dec (fun hbig => ?_) (fun hbig => ?_)
    · ac_rfl
      exact fin none _ (fun y e => by cases e) (by omega)
    · ac_rfl
      refine draw_okS (by decide) (by decide) (by omega) fun w hw0 hw1 => ?_
      ac_rfl
      refine br_dec (fun hw => ?_) (fun hw => ?_)
      · ac_rfl
        exact fin none _ (fun y e => by cases e) (by omega)
      · ac_rfl
        exact fin (some (mx + l)) _ (fun y e => by cases e; exact ⟨rfl, by omega⟩) (by omega)
  · obtain ⟨rs, m', x5, x6, x7, x8, x9, x10, x11, hj, hcc, hrs, hft, rfl, rfl⟩ := hI
    rw [rangeD_len] at hj hcc
    ac_rfl
    exact hP rs _ (by omega) hrs hft (by omega)
end


def extF (xs : List Int) (rows : List (List Int)) : List (List Int) := (rows.map fun r => xs.map fun u => r ++ [u]).flatten
def flowsL : Nat → List (List Int)
  | 0 => [[]]
  | j + 1 => extF [-1, 0, 1] (flowsL j)
theorem extF_snoc (xs : List Int) (rows : List (List Int)) (r : List Int) : extF xs (rows ++ [r]) = extF xs rows ++ xs.map fun u => r ++ [u] := by
  unfold extF
  rw [List.map_append, List.flatten_append]
  simp
theorem extF_len (xs : List Int) : ∀ rows : List (List Int), (extF xs rows).length = xs.length * rows.length
  | [] => by simp [extF]
  | r :: rows => by
    have h := extF_len xs rows
    unfold extF at h ⊢
    rw [List.map_cons, List.flatten_cons, List.length_append, h, List.length_map, List.length_cons, Nat.mul_succ, Nat.add_comm]
theorem flowsL_len : ∀ n : Nat, n ≤ 4 → (flowsL n).length ≤ 81
  | 0, _ => by decide
  | 1, _ => by decide
  | 2, _ => by decide
  | 3, _ => by decide
  | 4, _ => by decide
theorem flowsL_len2 : ∀ {n : Nat} {r : List Int}, r ∈ flowsL n → r.length = n
  | 0, r, h => by
    rw [List.mem_singleton.mp h]
    rfl
  | n + 1, r, h => by
    obtain ⟨l, hl, hr⟩ := List.mem_flatten.mp h
    obtain ⟨q, hq, rfl⟩ := List.mem_map.mp hl
    obtain ⟨u, _, rfl⟩ := List.mem_map.mp hr
    rw [List.length_append, flowsL_len2 hq]
    rfl
theorem fD_snoc (r : List Int) (u : Int) : fD (r ++ [u]) = .tuple (dInts r ++ [.int u]) := by
  unfold fD dInts
  rw [List.map_append]
  rfl
theorem take_row {rows : List (List Int)} {i : Nat} {d : PyData} (h : (rows.map fD)[i]? = some d) : ∃ r, rows[i]? = some r ∧ d = fD r ∧ rows.take (i + 1) = rows.take i ++ [r] := by
  rw [List.getElem?_map] at h
  cases e : rows[i]? with
  | none => rw [e] at h; cases h
  | some r =>
    rw [e] at h
    cases h
    exact ⟨r, rfl, rfl, by rw [List.take_add_one, e]; rfl⟩
section
variable {c : Ct} {P : Vl → Ct → Prop}
theorem flows_ok {n : Nat} (n1 : n ≤ 4) (hP : P (.dat (.list ((flowsL n).map fD))) c) : sp__law_flows [.dat (.int (n : Int))] c P := by
  unfold sp__law_flows dt__law_flows
  ac_rfl
  refine fl_inv (fun j env c' => ∃ (x2 x3 x4 x5 : Option Vl), c' = c ∧ env = [some (.dat (.int (n : Int))), some (.dat (.list ((flowsL j).map fD))), x2, x3, x4, x5]) (fun j d env c' k hd hI hk => ?_) ⟨_, _, _, _, rfl, rfl⟩ (fun env c' hI => ?_)
  · obtain ⟨x2, x3, x4, x5, rfl, rfl⟩ := hI
    obtain ⟨hj, rfl⟩ := rangeD_get hd
    have hj4 : j < n := by omega
    have hl := flowsL_len j (by omega)
    ac_rfl
    refine fl_inv (fun i env c2 => ∃ (x4 x5 : Option Vl), c2 = c' ∧ env = [some (.dat (.int (n : Int))), some (.dat (.list ((flowsL j).map fD))), some (.dat (.int (0 + (j : Int)))), some (.own ((extF [-1, 0, 1] ((flowsL j).take i)).map fD)), x4, x5]) (fun i d env c' k2 hd hI hk2 => ?_) ⟨_, _, rfl, rfl⟩ (fun env c' hI => ?_)
    · obtain ⟨x4, x5, rfl, rfl⟩ := hI
      obtain ⟨r, hr, rfl, htk⟩ := take_row hd
      have hrl : r ∈ flowsL j := List.mem_of_getElem? hr
      have hlr := flowsL_len2 hrl
      have hlen := extF_len [-1, 0, 1] ((flowsL j).take i)
      rw [List.length_take] at hlen
      have hsz : ((extF [-1, 0, 1] ((flowsL j).take i)).map fD).length + ([-1, 0, 1].map fun u => fD (r ++ [u])).length ≤ sizeLine := by
        rw [List.length_map, hlen]
        exact Nat.le_trans (by simp; omega : _ ≤ 1000) (by decide)
      have hcat : ∀ u : Int, PyData.tuple (dInts r ++ [.int u]) = fD (r ++ [u]) := fun u => (fD_snoc r u).symm
      ac_rfl
      refine ll_map PyData.int (fun u => fD (r ++ [u])) (xs := [-1, 0, 1]) (fun u hu A hA => ?_) ?_
      · have hs1 : (dInts r).length + 1 ≤ sizeLine := by rw [dInts_len, hlr]; exact Nat.le_trans (by omega : _ ≤ 1000) (by decide)
        have hA := hA
        rw [← hcat u] at hA
        unfold fD
        ac_rfl
        exact hA
      · ac_rfl
        have eo : (extF [-1, 0, 1] ((flowsL j).take i)).map fD ++ [-1, 0, 1].map (fun u => fD (r ++ [u])) = (extF [-1, 0, 1] ((flowsL j).take (i + 1))).map fD := by
          rw [htk, extF_snoc, List.map_append, List.map_map]
          rfl
        rw [eo]
        exact hk2 _ _ ⟨_, _, rfl, rfl⟩
    · obtain ⟨x4, x5, rfl, rfl⟩ := hI
      rw [List.length_map, List.take_length]
      ac_rfl
      exact hk _ _ ⟨_, _, _, _, rfl, rfl⟩
  · obtain ⟨x2, x3, x4, x5, rfl, rfl⟩ := hI
    rw [rangeD_len]
    ac_rfl
    exact hP
end

def okU (n j : Nat) (left : Int) (u : Nat) : Bool := decide ((j : Int) < (n : Int) - 1) || decide ((u : Int) = left)
def rowsOf (n j : Nat) (t : Int) (r : List Int) : List (List Int) := ((List.range (t - r.sum + 1).toNat).filter (okU n j (t - r.sum))).map fun (u : Nat) => r ++ [(u : Int)]
def allL (n : Nat) (t : Int) : Nat → List (List Int)
  | 0 => [[]]
  | j + 1 => ((allL n t j).map (rowsOf n j t)).flatten
theorem flat_snoc {α β : Type} (f : α → List β) (l : List α) (a : α) : ((l ++ [a]).map f).flatten = (l.map f).flatten ++ f a := by
  rw [List.map_append, List.flatten_append]
  simp
structure RowL (t : Int) (j : Nat) (r : List Int) : Prop where
  len : r.length = j
  nn : ∀ x ∈ r, 0 ≤ x
  le : r.sum ≤ t
theorem sum_nnL : ∀ {l : List Int}, (∀ x ∈ l, 0 ≤ x) → 0 ≤ l.sum
  | [], _ => Int.le_refl _
  | x :: l, h => by
    have h1 := h x List.mem_cons_self
    have h2 := sum_nnL fun y hy => h y (List.mem_cons_of_mem _ hy)
    rw [List.sum_cons]
    omega
theorem sum_snoc (r : List Int) (u : Int) : (r ++ [u]).sum = r.sum + u := by simp
theorem mem_rows {n j : Nat} {t : Int} {r w : List Int} (h : w ∈ rowsOf n j t r) (R : RowL t j r) : RowL t (j + 1) w ∧ (j + 1 = n → w.sum = t) := by
  obtain ⟨u, hu, rfl⟩ := List.mem_map.mp h
  obtain ⟨h1, h2⟩ := List.mem_filter.mp hu
  have h1 := List.mem_range.mp h1
  refine ⟨⟨by rw [List.length_append, R.len]; rfl, fun x hx => ?_, by rw [sum_snoc]; omega⟩, fun hj => ?_⟩
  · rcases List.mem_append.mp hx with h | h
    · exact R.nn x h
    · rw [List.mem_singleton.mp h]; omega
  · unfold okU at h2
    rw [decide_eq_false (p := (j : Int) < (n : Int) - 1) (by omega), Bool.false_or] at h2
    have := of_decide_eq_true h2
    rw [sum_snoc]
    omega
theorem allL_row {n : Nat} {t : Int} (t0 : 0 ≤ t) : ∀ {j : Nat} {w : List Int}, w ∈ allL n t j → RowL t j w
  | 0, w, h => by
    rw [List.mem_singleton.mp h]
    exact ⟨rfl, (fun _ h => nomatch h), t0⟩
  | j + 1, w, h => by
    obtain ⟨l, hl, hw⟩ := List.mem_flatten.mp h
    obtain ⟨r, hr, rfl⟩ := List.mem_map.mp hl
    exact (mem_rows hw (allL_row t0 hr)).1
theorem allL_sum {n : Nat} {t : Int} (t0 : 0 ≤ t) (n0 : 0 < n) {w : List Int} (h : w ∈ allL n t n) : w.sum = t := by
  cases n with
  | zero => omega
  | succ j =>
    obtain ⟨l, hl, hw⟩ := List.mem_flatten.mp h
    obtain ⟨r, hr, rfl⟩ := List.mem_map.mp hl
    exact (mem_rows hw (allL_row t0 hr)).2 rfl
theorem allL_mem {n : Nat} {t : Int} (n0 : 0 < n) : ∀ {j : Nat} {w : List Int}, j ≤ n → RowL t j w → (j = n → w.sum = t) → w ∈ allL n t j
  | 0, w, _, R, _ => by
    rw [List.eq_nil_of_length_eq_zero R.len]
    exact List.mem_singleton.mpr rfl
  | j + 1, w, hj, R, hs => by
    rcases List.eq_nil_or_concat w with rfl | ⟨r, u, rfl⟩
    · have := R.len
      simp at this
    rw [List.concat_eq_append] at *
    have hl := R.len
    rw [List.length_append] at hl
    have hl : r.length = j := by simp at hl; exact hl
    have hu : 0 ≤ u := R.nn u (by simp)
    have hle := R.le
    rw [sum_snoc] at hle hs
    have hr : r ∈ allL n t j := allL_mem n0 (by omega) ⟨hl, fun x hx => R.nn x (List.mem_append_left _ hx), by omega⟩ (fun e => by omega)
    refine List.mem_flatten.mpr ⟨_, List.mem_map_of_mem hr, ?_⟩
    obtain ⟨v, rfl⟩ := Int.eq_ofNat_of_zero_le hu
    refine List.mem_map.mpr ⟨v, List.mem_filter.mpr ⟨List.mem_range.mpr (by omega), ?_⟩, rfl⟩
    unfold okU
    by_cases hlast : j + 1 = n
    · have := hs hlast
      rw [decide_eq_true (p := (v : Int) = t - r.sum) (by omega), Bool.or_true]
    · rw [decide_eq_true (p := (j : Int) < (n : Int) - 1) (by omega), Bool.true_or]
theorem flat_len {α β : Type} {f : α → List β} {k : Nat} : ∀ {l : List α}, (∀ a ∈ l, (f a).length ≤ k) → ((l.map f).flatten).length ≤ k * l.length
  | [], _ => by simp
  | a :: l, h => by
    have h1 := h a List.mem_cons_self
    have h2 := flat_len (l := l) fun b hb => h b (List.mem_cons_of_mem _ hb)
    rw [List.map_cons, List.flatten_cons, List.length_append, List.length_cons, Nat.mul_succ]
    omega
theorem rows_len {n j : Nat} {t : Int} {r : List Int} (t4 : t ≤ 4) (R : RowL t j r) : (rowsOf n j t r).length ≤ 5 := by
  unfold rowsOf
  rw [List.length_map]
  refine Nat.le_trans (List.length_filter_le _ _) ?_
  rw [List.length_range]
  have := sum_nnL R.nn
  omega
theorem allL_len {n : Nat} {t : Int} (t0 : 0 ≤ t) (t4 : t ≤ 4) : ∀ j : Nat, (allL n t j).length ≤ 5 ^ j
  | 0 => Nat.le_refl _
  | j + 1 => by
    have h := allL_len (n := n) t0 t4 j
    have h2 := flat_len (f := rowsOf n j t) (k := 5) (l := allL n t j) fun a ha => rows_len t4 (allL_row t0 ha)
    show ((allL n t j).map (rowsOf n j t)).flatten.length ≤ _
    rw [Nat.pow_succ]
    omega


section
variable {c : Ct} {P : Vl → Ct → Prop}
theorem sumA_ok {r : List Int} {PD : PyData → Prop} (h : PD (.int r.sum)) : rdSumA [fD r] PD := by
  unfold fD
  rw [x_sumT]
  exact h
theorem atD {a : List Int} {k : Nat} (h : k < a.length) : atI (dInts a) (k : Int) = some (.int (a.getD k 0)) := by
  unfold atI
  rw [dInts_len, ixN_nat h]
  show (dInts a)[k]? = _
  unfold dInts
  rw [List.getElem?_map, List.getD_eq_getElem?_getD, List.getElem?_eq_getElem h]
  rfl
theorem all_ok {n : Nat} {t : Int} (n1 : n ≤ 4) (t0 : 0 ≤ t) (t4 : t ≤ 4) (hP : P (.dat (.list ((allL n t n).map fD))) c) : sp__law_all [.dat (.int (n : Int)), .dat (.int t)] c P := by
  have p5 : ∀ j, j ≤ 4 → 5 ^ j ≤ 625 := fun j h => Nat.le_trans (Nat.pow_le_pow_right (by decide) h) (by decide)
  unfold sp__law_all dt__law_all
  ac_rfl
  refine fl_inv (fun j env c' => ∃ (x3 x4 x5 x6 x7 : Option Vl), c' = c ∧ env = [some (.dat (.int (n : Int))), some (.dat (.int t)), some (.dat (.list ((allL n t j).map fD))), x3, x4, x5, x6, x7]) (fun j d env c' k hd hI hk => ?_) ⟨_, _, _, _, _, rfl, rfl⟩ (fun env c' hI => ?_)
  · obtain ⟨x3, x4, x5, x6, x7, rfl, rfl⟩ := hI
    obtain ⟨hj, rfl⟩ := rangeD_get hd
    have hj4 : j < n := by omega
    have hl := Nat.le_trans (allL_len (n := n) t0 t4 j) (p5 j (by omega))
    rw [Int.zero_add]
    ac_rfl
    refine fl_inv (fun i env c2 => ∃ (x5 x6 x7 : Option Vl), c2 = c' ∧ env = [some (.dat (.int (n : Int))), some (.dat (.int t)), some (.dat (.list ((allL n t j).map fD))), some (.dat (.int (j : Int))), some (.own (((((allL n t j).take i).map (rowsOf n j t)).flatten).map fD)), x5, x6, x7]) (fun i d env c2 k2 hd hI hk2 => ?_) ⟨_, _, _, rfl, rfl⟩ (fun env c2 hI => ?_)
    · obtain ⟨x5, x6, x7, rfl, rfl⟩ := hI
      obtain ⟨r, hr, rfl, htk⟩ := take_row hd
      have hrl := List.mem_of_getElem? hr
      have R := allL_row t0 hrl
      have r0 := sum_nnL R.nn
      have rle := R.le
      have hrl2 := rows_len (n := n) t4 R
      have hfl := flat_len (f := rowsOf n j t) (k := 5) (l := (allL n t j).take i) fun a ha => rows_len t4 (allL_row t0 (List.mem_of_mem_take ha))
      rw [List.length_take] at hfl
      have hrg : (rangeD 0 (t - r.sum + 1).toNat).length < sizeLine := by rw [rangeD_len]; exact Nat.lt_of_le_of_lt (by omega : _ ≤ 1000) (by decide)
      have hcat : ∀ u : Int, PyData.tuple (dInts r ++ [.int u]) = fD (r ++ [u]) := fun u => (fD_snoc r u).symm
      have hs1 : (dInts r).length + 1 ≤ sizeLine := by rw [dInts_len, R.len]; exact Nat.le_trans (by omega : _ ≤ 1000) (by decide)
      have hsz : (((((allL n t j).take i).map (rowsOf n j t)).flatten).map fD).length + (((List.range (t - r.sum + 1).toNat).filter (okU n j (t - r.sum))).map fun (u : Nat) => fD (r ++ [(u : Int)])).length ≤ sizeLine := by
        rw [List.length_map, List.length_map]
        unfold rowsOf at hrl2
        rw [List.length_map] at hrl2
        exact Nat.le_trans (by omega : _ ≤ 10000) (by decide)
      ac_rfl
      refine sumA_ok ?_
      ac_rfl
      refine ll_rangeF (okU n j (t - r.sum)) (fun (u : Nat) => fD (r ++ [(u : Int)])) (fun u hu A B hA hB => ?_) ?_
      · have fin : okU n j (t - r.sum) u = true → A (.tuple (dInts r ++ [.int (u : Int)])) c2 := fun h => by rw [hcat]; exact hA h
        rw [Int.zero_add]
        unfold okU at fin hB
        unfold fD
        ac_rfl
        refine br_dec (fun h1 => ?_) (fun h1 => ?_)
        · rw [decide_eq_true h1, Bool.true_or] at fin
          ac_rfl
          exact fin rfl
        · rw [decide_eq_false h1, Bool.false_or] at fin hB
          ac_rfl
          refine br_dec (fun h2 => ?_) (fun h2 => ?_)
          · ac_rfl
            exact fin (decide_eq_true h2)
          · ac_rfl
            exact hB (decide_eq_false h2)
      · ac_rfl
        have eo : ((((allL n t j).take i).map (rowsOf n j t)).flatten).map fD ++ ((List.range (t - r.sum + 1).toNat).filter (okU n j (t - r.sum))).map (fun (u : Nat) => fD (r ++ [(u : Int)])) = ((((allL n t j).take (i + 1)).map (rowsOf n j t)).flatten).map fD := by
          rw [htk, flat_snoc, List.map_append]
          unfold rowsOf
          rw [List.map_map]
          rfl
        rw [eo]
        exact hk2 _ _ ⟨_, _, _, rfl, rfl⟩
    · obtain ⟨x5, x6, x7, rfl, rfl⟩ := hI
      rw [List.length_map, List.take_length]
      ac_rfl
      exact hk _ _ ⟨_, _, _, _, _, rfl, rfl⟩
  · obtain ⟨x3, x4, x5, x6, x7, rfl, rfl⟩ := hI
    rw [rangeD_len]
    ac_rfl
    exact hP
/-- a step: what a flow sends -/
def sentL (a f : List Int) : List Int := (List.range a.length).map fun k => a.getD k 0 + f.getD k 0 - f.getD ((k + 1) % a.length) 0
theorem sentL_len (a f : List Int) : (sentL a f).length = a.length := by simp [sentL]
theorem sent_ok {a f : List Int} (h0 : 0 < a.length) (h1 : a.length ≤ 1000) (hf : f.length = a.length) (hP : P (.dat (fD (sentL a f))) c) : sp__law_sent [.dat (fD a), .dat (fD f)] c P := by
  unfold sp__law_sent dt__law_sent fD
  have hl := dInts_len a
  ac_rfl
  rw [hl]
  refine ll_range (fun k => .int (a.getD k 0 + f.getD k 0 - f.getD ((k + 1) % a.length) 0)) (fun k hk A hA => ?_) ?_
  · have hk2 : k < a.length := by omega
    have hm : (k + 1) % a.length < a.length := Nat.mod_lt _ h0
    rw [Int.zero_add]
    ac_rfl
    refine ixk_ok (atD hk2) ?_
    ac_rfl
    refine ixk_ok (atD (by rw [hf]; exact hk2)) ?_
    ac_rfl
    rw [show ((k : Int) + 1) % (a.length : Int) = (((k + 1) % a.length : Nat) : Int) from by simp]
    refine ixk_ok (atD (by rw [hf]; exact hm)) ?_
    ac_rfl
    exact hA
  · ac_rfl
    have e : PyData.tuple (List.map (fun k => PyData.int (a.getD k 0 + f.getD k 0 - f.getD ((k + 1) % a.length) 0)) (List.range ((a.length : Int)).toNat)) = fD (sentL a f) := by
      unfold fD sentL dInts
      rw [List.map_map, Int.toNat_natCast]
      rfl
    rw [e]
    exact hP
/-- whether a filling fits a rule, as the law asks it -/
def fitBo (fs : List Int) (q : R4) : Bool := !(decide (psum fs q.f q.s.toNat < q.l) || (match q.m with
  | some y => decide (y < psum fs q.f q.s.toNat)
  | none => false))
theorem fitBo_iff {fs : List Int} {q : R4} : fitBo fs q = true ↔ fitR fs q := by
  unfold fitBo fitR
  cases e : q.m with
  | none =>
    simp
  | some y =>
    simp
theorem lfits_ok {n : Nat} {rs : List R4} {w : List Int} (n0 : 0 < n) (n1 : n ≤ 12) (hl : rs.length ≤ 16) (hrs : ∀ q ∈ rs, q.Ok (n : Int)) (hw : w.length = n) (nn : ∀ x ∈ w, 0 ≤ x) (hP : P (.dat (.bool (rs.all (fitBo w)))) c) : sp__law_fits [.dat (.int (n : Int)), .dat (rDs rs), .dat (fD w)] c P := by
  have hl2 : (dInts w).length = w.length := dInts_len w
  unfold sp__law_fits dt__law_fits fD
  ac_rfl
  refine ll_none (fun d => ∃ x : Int, d = .int x ∧ 0 ≤ x) (fun d hd => ?_) (fun d hd A B hB => ?_) ?_
  · obtain ⟨x, hx, rfl⟩ := List.mem_map.mp hd
    exact ⟨x, rfl, nn x hx⟩
  · obtain ⟨x, rfl, x0⟩ := hd
    have hlt : ¬ x < 0 := by omega
    ac_rfl
    exact hB
  ac_rfl
  unfold rDs
  ac_rfl
  refine fl_inv (fun j env c' => ∃ (x3 x4 x5 x6 x7 x8 : Option Vl), (∀ i q, i < j → rs[i]? = some q → fitBo w q = true) ∧ c' = c ∧ env = [some (.dat (.int (n : Int))), some (.dat (.tuple (rs.map rD))), some (.dat (.tuple (dInts w))), x3, x4, x5, x6, x7, x8]) (fun j d env c' k hd hI hk => ?_) ⟨_, _, _, _, _, _, (fun i q h => absurd h (Nat.not_lt_zero i)), rfl, rfl⟩ (fun env c' hI => ?_)
  · obtain ⟨x3, x4, x5, x6, x7, x8, hI, rfl, rfl⟩ := hI
    obtain ⟨q, hq, rfl⟩ : ∃ q, rs[j]? = some q ∧ d = rD q := by
      rw [List.getElem?_map] at hd
      cases e : rs[j]? with
      | none => rw [e] at hd; cases hd
      | some q => rw [e] at hd; cases hd; exact ⟨q, rfl, rfl⟩
    have hok := hrs q (List.mem_of_getElem? hq)
    have no : fitBo w q = false → P (.dat (.bool false)) c' := fun h => by
      have e : rs.all (fitBo w) = false := List.all_eq_false.mpr ⟨q, List.mem_of_getElem? hq, by rw [h]; decide⟩
      rw [e] at hP
      exact hP
    have yes : fitBo w q = true → ∀ (y3 y4 y5 y6 y7 y8 : Option Vl), k [some (.dat (.int (n : Int))), some (.dat (.tuple (rs.map rD))), some (.dat (.tuple (dInts w))), y3, y4, y5, y6, y7, y8] c' := fun h y3 y4 y5 y6 y7 y8 => hk _ _ ⟨_, _, _, _, _, _, fun i q2 hi e => by
      by_cases hij : i = j
      · subst hij
        rw [hq] at e
        cases e
        exact h
      · exact hI i q2 (by omega) e, rfl, rfl⟩
    obtain ⟨f, s, l, mo⟩ := q
    have hs0 := hok.s0
    have hs1 := hok.s1
    have hq2 : rD (⟨f, s, l, mo⟩ : R4) = PyData.tuple [.int f, .int s, .int l, optD mo] := rfl
    rw [hq2]
    unfold fitBo at no yes
    dsimp only at no yes hs0 hs1
    ac_rfl
    refine cl_ok (lsum_ok (by omega) (by omega) (by omega) (by omega) ?_)
    ac_rfl
    refine br_dec (fun h1 => ?_) (fun h1 => ?_)
    · ac_rfl
      exact no (by rw [decide_eq_true h1]; rfl)
    · cases mo with
      | none =>
        ac_rfl
        exact yes (by rw [decide_eq_false h1]; rfl) _ _ _ _ _ _
      | some y =>
        ac_rfl
        refine br_dec (t1 := {}) (t2 := {}) (fun h2 => ?_) (fun h2 => ?_)
        · ac_rfl
          exact no (by show (!(_ || decide (y < _))) = false; rw [decide_eq_true h2, Bool.or_true]; rfl)
        · ac_rfl
          exact yes (by show (!(_ || decide (y < _))) = true; rw [decide_eq_false h1, decide_eq_false h2]; rfl) _ _ _ _ _ _
  · obtain ⟨x3, x4, x5, x6, x7, x8, hI, rfl, rfl⟩ := hI
    rw [List.length_map] at hI
    have e : rs.all (fitBo w) = true := List.all_eq_true.mpr fun q hq => by
      obtain ⟨i, hi, rfl⟩ := List.getElem_of_mem hq
      exact hI i _ hi (List.getElem?_eq_getElem hi)
    rw [e] at hP
    ac_rfl
    exact hP
end


/-- what the search knows of its pairs: their steps, their order -/
structure Bfs (every : List (List Int)) (one : List Int) (D q : List (List Int)) (kv : List (List Int × Int)) : Prop where
  ks : kv.map (·.1) = D ++ q
  nd : (D ++ q).Nodup
  ev : ∀ w ∈ D ++ q, w ∈ every
  val : ∀ p ∈ kv, p.2 = stN one p.1
  ord : kv.Pairwise (fun p r => p.2 ≤ r.2)
  fst : (one, 0) ∈ kv
  nb : ∀ a ∈ D, ∀ b ∈ every, stepOk a b → b ∈ D ++ q
  top : ∀ a q', q = a :: q' → ∀ p ∈ kv, p.2 ≤ stN one a + 1
theorem lookI_some {kv : List (List Int × Int)} : ∀ {w : List Int} {v : Int}, lookI kv w = some v → (w, v) ∈ kv := by
  induction kv with
  | nil => intro w v h; cases h
  | cons p kv ih =>
    intro w v h
    rw [lookI_cons] at h
    split at h
    · rename_i e
      cases h
      subst e
      exact List.mem_cons_self
    · exact List.mem_cons_of_mem _ (ih h)
theorem lookI_none {kv : List (List Int × Int)} : ∀ {w : List Int}, lookI kv w = none → w ∉ kv.map (·.1) := by
  induction kv with
  | nil => intro w _ h; cases h
  | cons p kv ih =>
    intro w h hm
    rw [lookI_cons] at h
    split at h
    · cases h
    · rename_i e
      rcases List.mem_cons.mp hm with rfl | hm
      · exact e rfl
      · exact ih h hm
theorem lookI_mem {kv : List (List Int × Int)} {w : List Int} (h : w ∈ kv.map (·.1)) : ∃ v, lookI kv w = some v := by
  cases e : lookI kv w with
  | none => exact absurd h (lookI_none e)
  | some v => exact ⟨v, rfl⟩
/-- what every holds: the fillings of a ring with a total that keep some rules; a way to each within them -/
structure Every (n : Nat) (every : List (List Int)) (one : List Int) : Prop where
  n0 : 0 < n
  has : one ∈ every
  len : ∀ w ∈ every, w.length = n
  sum : ∀ w ∈ every, w.sum = one.sum
  pre : ∀ w ∈ every, ∀ e : Nat, stN one w = (e : Int) + 1 → ∃ w' ∈ every, stN one w' = e ∧ stepOk w' w
section
variable {n : Nat} {every : List (List Int)} {one a : List Int} {D q : List (List Int)} {kv : List (List Int × Int)}
theorem Bfs.key (B : Bfs every one D q kv) {w : List Int} (h : w ∈ D ++ q) : (w, stN one w) ∈ kv := by
  rw [← B.ks] at h
  obtain ⟨p, hp, rfl⟩ := List.mem_map.mp h
  have := B.val p hp
  rw [← this]
  exact hp
theorem Every.nn (V : Every n every one) {w : List Int} (h : w ∈ every) : 0 ≤ stN one w := stN_nn (by rw [V.len _ V.has]; exact V.n0) (by rw [V.len _ V.has, V.len _ h])
/-- what has fewer steps than the one that is taken up has been done -/
theorem Bfs.near (V : Every n every one) (B : Bfs every one D (a :: q) kv) : ∀ (e : Nat), (e : Int) ≤ stN one a → ∀ w ∈ every, stN one w = e → w ∈ D ++ a :: q
  | 0, _, w, hw, h => by
    have e : one = w := (ls_zero (by rw [V.len _ V.has]; exact V.n0) (by rw [V.len _ V.has, V.len _ hw]) (V.sum w hw).symm).mp h
    have h1 := B.fst
    have h2 : one ∈ kv.map (·.1) := List.mem_map.mpr ⟨_, h1, rfl⟩
    rw [B.ks, e] at h2
    exact h2
  | e + 1, he, w, hw, h => by
    obtain ⟨w', hw', h1, h2⟩ := V.pre w hw e (by rw [h]; omega)
    have h3 := Bfs.near V B e (by omega) w' hw' h1
    have h4 : w' ∈ D := by
      rcases List.mem_append.mp h3 with h3 | h3
      · exact h3
      · exfalso
        -- it stands behind the one that is taken up, so it has no fewer steps
        have hk : kv.map (·.1) = D ++ a :: q := B.ks
        have hi : ∃ kd kq, kv = kd ++ kq ∧ kd.map (·.1) = D ∧ kq.map (·.1) = a :: q := List.map_eq_append_iff.mp hk
        obtain ⟨kd, kq, rfl, e1, e2⟩ := hi
        cases kq with
        | nil => cases e2
        | cons p kq =>
          rw [List.map_cons] at e2
          injection e2 with e3 e4
          have hp := B.val p (List.mem_append_right _ List.mem_cons_self)
          have ho := (List.pairwise_append.mp B.ord).2.1
          rcases List.mem_cons.mp h3 with rfl | h3
          · omega
          · rw [← e4] at h3
            obtain ⟨r, hr, rfl⟩ := List.mem_map.mp h3
            have h5 := (List.pairwise_cons.mp ho).1 r hr
            have h6 := B.val r (List.mem_append_right _ (List.mem_cons_of_mem _ hr))
            rw [← e3] at he
            omega
    exact B.nb w' h4 w hw h2
theorem Bfs.last (V : Every n every one) (B : Bfs every one D [] kv) : ∀ (e : Nat), ∀ w ∈ every, stN one w = e → w ∈ D
  | 0, w, hw, h => by
    have e : one = w := (ls_zero (by rw [V.len _ V.has]; exact V.n0) (by rw [V.len _ V.has, V.len _ hw]) (V.sum w hw).symm).mp h
    have h2 : one ∈ kv.map (·.1) := List.mem_map.mpr ⟨_, B.fst, rfl⟩
    rw [B.ks, e, List.append_nil] at h2
    exact h2
  | e + 1, w, hw, h => by
    obtain ⟨w', hw', h1, h2⟩ := V.pre w hw e (by rw [h]; omega)
    have h3 := B.nb w' (Bfs.last V B e w' hw' h1) w hw h2
    rw [List.append_nil] at h3
    exact h3
theorem Bfs.all (V : Every n every one) (B : Bfs every one D [] kv) {w : List Int} (hw : w ∈ every) : lookI kv w = some (stN one w) := by
  have h0 := V.nn hw
  obtain ⟨e, he⟩ := Int.eq_ofNat_of_zero_le h0
  have h1 := Bfs.last V B e w hw he
  have h2 : w ∈ kv.map (·.1) := by rw [B.ks, List.append_nil]; exact h1
  obtain ⟨v, hv⟩ := lookI_mem h2
  rw [hv]
  have h3 : v = stN one w := B.val _ (lookI_some hv)
  rw [h3]
/-- the walk over the flows of the one that is taken up: what is found by then -/
structure Mid (every : List (List Int)) (one : List Int) (D q : List (List Int)) (kv : List (List Int × Int)) (a : List Int) (fs : List (List Int)) : Prop where
  ks : kv.map (·.1) = D ++ a :: q
  nd : (D ++ a :: q).Nodup
  ev : ∀ w ∈ D ++ a :: q, w ∈ every
  val : ∀ p ∈ kv, p.2 = stN one p.1
  ord : kv.Pairwise (fun p r => p.2 ≤ r.2)
  top : ∀ p ∈ kv, p.2 ≤ stN one a + 1
  fst : (one, 0) ∈ kv
  nb : ∀ x ∈ D, ∀ b ∈ every, stepOk x b → b ∈ D ++ a :: q
  near : ∀ w ∈ every, stN one w ≤ stN one a → w ∈ D ++ a :: q
  now : ∀ f ∈ fs, sentL a f ∈ every → sentL a f ∈ D ++ a :: q
end
theorem sub_len : ∀ {l m : List (List Int)}, l.Nodup → (∀ x ∈ l, x ∈ m) → l.length ≤ m.length
  | [], _, _, _ => Nat.zero_le _
  | x :: l, m, h, hs => by
    have h1 := List.nodup_cons.mp h
    have hx := hs x List.mem_cons_self
    have := sub_len (l := l) (m := m.erase x) h1.2 fun y hy => (List.mem_erase_of_ne (fun e => h1.1 (by rw [← e]; exact hy))).mpr (hs y (List.mem_cons_of_mem _ hy))
    rw [List.length_erase_of_mem hx] at this
    have : 0 < m.length := List.length_pos_of_mem hx
    rw [List.length_cons]
    omega


section
variable {n : Nat} {every : List (List Int)} {one a : List Int} {D q fs : List (List Int)} {kv : List (List Int × Int)}
theorem Bfs.mid (V : Every n every one) (B : Bfs every one D (a :: q) kv) : Mid every one D q kv a [] :=
  ⟨B.ks, B.nd, B.ev, B.val, B.ord, B.top a q rfl, B.fst, B.nb, fun w hw h => by
    obtain ⟨e, he⟩ := Int.eq_ofNat_of_zero_le (V.nn hw)
    exact B.near V e (by omega) w hw he, fun _ h => nomatch h⟩
theorem Mid.skip {f : List Int} (M : Mid every one D q kv a fs) (h : sentL a f ∈ every → sentL a f ∈ D ++ a :: q) : Mid every one D q kv a (fs ++ [f]) :=
  ⟨M.ks, M.nd, M.ev, M.val, M.ord, M.top, M.fst, M.nb, M.near, fun g hg hm => by
    rcases List.mem_append.mp hg with hg | hg
    · exact M.now g hg hm
    · rw [List.mem_singleton.mp hg] at hm ⊢
      exact h hm⟩
theorem Mid.add {f : List Int} (V : Every n every one) (M : Mid every one D q kv a fs) (hs : stepOk a (sentL a f)) (hm : sentL a f ∈ every) (hn : lookI kv (sentL a f) = none) : Mid every one D (q ++ [sentL a f]) (kv ++ [(sentL a f, stN one a + 1)]) a (fs ++ [f]) := by
  have ha : a ∈ every := M.ev a (by simp)
  generalize hb0 : sentL a f = b at hs hm hn
  have hb : b ∉ D ++ a :: q := by rw [← M.ks]; exact lookI_none hn
  have e1 : D ++ a :: (q ++ [b]) = (D ++ a :: q) ++ [b] := by simp
  have up : ∀ {w : List Int}, w ∈ D ++ a :: q → w ∈ D ++ a :: (q ++ [b]) := fun h => by rw [e1]; exact List.mem_append_left _ h
  have sb : stN one b = stN one a + 1 := by
    have t1 := stN_tri V.n0 (V.len _ V.has) (V.len _ ha) (V.len _ hm)
    have t2 := (stepOk_sum hs).2
    have t3 : ¬ stN one b ≤ stN one a := fun z => hb (M.near b hm z)
    omega
  refine ⟨by rw [List.map_append, M.ks, e1]; rfl, ?_, fun w hw => ?_, fun p hp => ?_, ?_, fun p hp => ?_, List.mem_append_left _ M.fst, fun x hx y hy hxy => up (M.nb x hx y hy hxy), fun w hw h => up (M.near w hw h), fun g hg hgm => ?_⟩
  · rw [e1]
    refine List.nodup_append.mpr ⟨M.nd, by simp, fun x hx y hy e => ?_⟩
    rw [List.mem_singleton.mp hy] at e
    exact hb (e ▸ hx)
  · rw [e1] at hw
    rcases List.mem_append.mp hw with h | h
    · exact M.ev w h
    · rw [List.mem_singleton.mp h]; exact hm
  · rcases List.mem_append.mp hp with h | h
    · exact M.val p h
    · rw [List.mem_singleton.mp h]; exact sb.symm
  · refine List.pairwise_append.mpr ⟨M.ord, by simp, fun p hp r hr => ?_⟩
    rw [List.mem_singleton.mp hr]
    exact M.top p hp
  · rcases List.mem_append.mp hp with h | h
    · exact M.top p h
    · rw [List.mem_singleton.mp h]
      exact Int.le_refl _
  · rcases List.mem_append.mp hg with h | h
    · exact up (M.now g h hgm)
    · rw [List.mem_singleton.mp h, hb0, e1]
      exact List.mem_append_right _ List.mem_cons_self
end
theorem flowsL_in : ∀ {n : Nat} {f : List Int}, f.length = n → (∀ x ∈ f, x = -1 ∨ x = 0 ∨ x = 1) → f ∈ flowsL n
  | 0, f, hl, _ => by
    rw [List.eq_nil_of_length_eq_zero hl]
    exact List.mem_singleton.mpr rfl
  | n + 1, f, hl, h => by
    rcases List.eq_nil_or_concat f with rfl | ⟨r, u, rfl⟩
    · simp at hl
    rw [List.concat_eq_append] at *
    rw [List.length_append] at hl
    have hl : r.length = n := by simp at hl; exact hl
    have hr : r ∈ flowsL n := flowsL_in hl fun x hx => h x (List.mem_append_left _ hx)
    have hu := h u (by simp)
    refine List.mem_flatten.mpr ⟨_, List.mem_map_of_mem hr, List.mem_map.mpr ⟨u, ?_, rfl⟩⟩
    rcases hu with rfl | rfl | rfl <;> simp
theorem flowsL_out : ∀ {n : Nat} {f : List Int}, f ∈ flowsL n → ∀ x ∈ f, -1 ≤ x ∧ x ≤ 1
  | 0, f, h, x, hx => by
    rw [List.mem_singleton.mp h] at hx
    cases hx
  | n + 1, f, h, x, hx => by
    obtain ⟨l, hl, hr⟩ := List.mem_flatten.mp h
    obtain ⟨r, hr2, rfl⟩ := List.mem_map.mp hl
    obtain ⟨u, hu, rfl⟩ := List.mem_map.mp hr
    rcases List.mem_append.mp hx with hx | hx
    · exact flowsL_out hr2 x hx
    · rw [List.mem_singleton.mp hx]
      simp only [List.mem_cons, List.not_mem_nil, or_false] at hu
      omega
theorem sent_take {a f : List Int} (h0 : 0 < a.length) {k : Nat} (hk : k ≤ a.length) : ((sentL a f).take k).sum = (a.take k).sum - f.getD (k % a.length) 0 + f.getD 0 0 := by
  have h := take_pass (fs := a) (gs := sentL a f) (D := fun k => -(f.getD k 0)) (sentL_len a f) (fun k hk => by
    unfold sentL
    rw [List.getElem?_map, List.getElem?_range hk]
    show some _ = some _
    congr 1
    have ea : a.getD k 0 = a[k] := by
      rw [List.getD_eq_getElem?_getD, List.getElem?_eq_getElem hk]
      rfl
    show a.getD k 0 + f.getD k 0 - f.getD ((k + 1) % a.length) 0 = _
    rw [ea]
    omega) hk
  rw [h]
  omega
theorem sent_step {n : Nat} {a f : List Int} (n0 : 0 < n) (hl : a.length = n) (hf : f ∈ flowsL n) : stepOk a (sentL a f) := by
  have h0 : 0 < a.length := by omega
  have hlen := sentL_len a f
  have hfl := flowsL_len2 hf
  have hs : a.sum = (sentL a f).sum := by
    have h := sent_take (f := f) h0 (Nat.le_refl _)
    rw [List.take_of_length_le (by omega), List.take_of_length_le (Nat.le_refl _), Nat.mod_self] at h
    omega
  have bd : ∀ k, -1 ≤ f.getD k 0 ∧ f.getD k 0 ≤ 1 := fun k => by
    rw [List.getD_eq_getElem?_getD]
    cases e : f[k]? with
    | none => exact ⟨by decide, by decide⟩
    | some x => exact flowsL_out hf x (List.mem_of_getElem? e)
  have each : ∀ x ∈ lds a (sentL a f), f.getD 0 0 - 1 ≤ x ∧ x ≤ f.getD 0 0 + 1 := fun x hx => by
    obtain ⟨k, hk, rfl⟩ := List.getElem_of_mem hx
    rw [lds_len hlen.symm] at hk
    have h1 := lds_get hlen.symm hk
    rw [List.getElem?_eq_getElem (by rw [lds_len hlen.symm]; exact hk)] at h1
    have h1 := Option.some.inj h1
    rw [h1, sent_take h0 (by omega), Nat.mod_eq_of_lt hk]
    have := bd k
    omega
  have hp : 0 < (lds a (sentL a f)).length := by rw [lds_len hlen.symm]; exact h0
  have h1 := each _ (mxL_mem hp)
  have h2 := each _ (mnL_mem hp)
  refine ⟨stN a (sentL a f), if_pos hs, ?_⟩
  show (mxL (lds a (sentL a f)) - mnL (lds a (sentL a f)) + 1) / 2 ≤ 1
  omega
theorem step_sent {n : Nat} {a b : List Int} (n0 : 0 < n) (hl : a.length = n) (hb : b.length = n) (h : stepOk a b) : ∃ f ∈ flowsL n, sentL a f = b := by
  have h0 : 0 < a.length := by omega
  have he : a.length = b.length := by omega
  obtain ⟨hs, hst⟩ := stepOk_sum h
  have hp : 0 < (lds a b).length := by rw [lds_len he]; exact h0
  have hst : (mxL (lds a b) - mnL (lds a b) + 1) / 2 ≤ 1 := hst
  have hz := lds_zero h0 he
  have fl : ((lds a b).map fun x => mxL (lds a b) - 1 - x).length = n := by rw [List.length_map, lds_len he, hl]
  have fg : ∀ k, k < n → ((lds a b).map fun x => mxL (lds a b) - 1 - x).getD k 0 = mxL (lds a b) - 1 - ((b.take k).sum - (a.take k).sum) := fun k hk => by
    rw [List.getD_eq_getElem?_getD, List.getElem?_map, lds_get he (by omega)]
    rfl
  refine ⟨(lds a b).map fun x => mxL (lds a b) - 1 - x, flowsL_in fl fun x hx => ?_, ?_⟩
  · obtain ⟨y, hy, rfl⟩ := List.mem_map.mp hx
    have h1 := mxL_ge hy
    have h2 := mnL_le hy
    omega
  · generalize ((lds a b).map fun x => mxL (lds a b) - 1 - x) = f at fl fg
    refine take_sums (by rw [sentL_len]; omega) fun k hk => ?_
    rw [sentL_len] at hk
    rw [sent_take h0 hk]
    have f0 := fg 0 n0
    rw [List.take_zero, List.take_zero] at f0
    by_cases hk2 : k < a.length
    · rw [Nat.mod_eq_of_lt hk2, fg k (by omega), f0]
      simp
      omega
    · have e : k = a.length := by omega
      subst e
      rw [Nat.mod_self, List.take_of_length_le (Nat.le_refl _), List.take_of_length_le (by omega)]
      omega
section
variable {n : Nat} {every : List (List Int)} {one a : List Int} {D q fs : List (List Int)} {kv : List (List Int × Int)}
theorem Mid.done (V : Every n every one) (M : Mid every one D q kv a (flowsL n)) : Bfs every one (D ++ [a]) q kv := by
  have e1 : (D ++ [a]) ++ q = D ++ a :: q := by simp
  have ha : a ∈ every := M.ev a (by simp)
  refine ⟨by rw [e1]; exact M.ks, by rw [e1]; exact M.nd, by rw [e1]; exact M.ev, M.val, M.ord, M.fst, fun x hx b hb hxb => ?_, fun a' q' e p hp => ?_⟩
  · rw [e1]
    rcases List.mem_append.mp hx with hx | hx
    · exact M.nb x hx b hb hxb
    · rw [List.mem_singleton.mp hx] at hxb
      obtain ⟨f, hf, rfl⟩ := step_sent V.n0 (V.len _ ha) (V.len _ hb) hxb
      exact M.now f hf hb
  · subst e
    have h1 := M.top p hp
    -- the next one stands behind a
    have hk : kv.map (·.1) = D ++ a :: a' :: q' := M.ks
    obtain ⟨kd, kq, rfl, e2, e3⟩ := List.map_eq_append_iff.mp hk
    match kq, e3 with
    | [], e3 => cases e3
    | [_], e3 => cases e3
    | x :: y :: kq, e3 =>
      simp only [List.map_cons] at e3
      injection e3 with e4 e5
      injection e5 with e5 _
      have ho := (List.pairwise_append.mp M.ord).2.1
      have h2 := (List.pairwise_cons.mp ho).1 y List.mem_cons_self
      have h3 := M.val x (List.mem_append_right _ List.mem_cons_self)
      have h4 := M.val y (List.mem_append_right _ (List.mem_cons_of_mem _ List.mem_cons_self))
      rw [← e4] at h1
      rw [← e5]
      omega
end


theorem wh_ok {t : DT} {db : DS} {a : Ev → Ct → Prop} {b : Vl → Ct → Prop} {e f : Ev → Ct → Prop} {env : Ev} {c : Ct} (W : Nat → Ev → Ct → Prop) (m0 : Nat) (h0 : W m0 env c)
    (step : ∀ m env c, W m env c → t env c fun z c1 => Br z (db (DEnds.mk (fun e c' => ∃ m', m' < m ∧ W m' e c') b a (fun e c' => ∃ m', m' < m ∧ W m' e c')) env c1) (a env c1) {} {}) : sWhile t db (DEnds.mk a b e f) env c := ⟨W, ⟨m0, h0⟩, step⟩
theorem eqv_ints : ∀ {x y : List Int}, PyData.eqvAll (dInts x) (dInts y) = decide (x = y)
  | [], [] => by simp [dInts, PyData.eqvAll]
  | [], _ :: _ => by simp [dInts, PyData.eqvAll]
  | _ :: _, [] => by simp [dInts, PyData.eqvAll]
  | a :: x, b :: y => by
    have h := eqv_ints (x := x) (y := y)
    unfold dInts at h ⊢
    rw [List.map_cons, List.map_cons, PyData.eqvAll, h]
    by_cases hab : a = b <;> simp [PyData.eqv, hab]
theorem eqv_fD {x y : List Int} : PyData.eqv (fD x) (fD y) = decide (x = y) := by
  show PyData.eqv (.tuple (dInts x)) (.tuple (dInts y)) = _
  rw [show PyData.eqv (.tuple (dInts x)) (.tuple (dInts y)) = PyData.eqvAll (dInts x) (dInts y) from by simp [PyData.eqv]]
  exact eqv_ints
theorem lay_all : ∀ {l : List PyData} {k : Nat}, (∀ d ∈ l, PyData.canLay0 d = true ∧ PyData.depth d ≤ k) → PyData.canLayAll0 l = true ∧ PyData.depthAll l ≤ k
  | [], _, _ => ⟨by simp [PyData.canLayAll0], by simp [PyData.depthAll]⟩
  | x :: l, k, h => by
    obtain ⟨h1, h2⟩ := lay_all fun d hd => h d (List.mem_cons_of_mem _ hd)
    obtain ⟨h3, h4⟩ := h x List.mem_cons_self
    refine ⟨by rw [PyData.canLayAll0, h3, h1]; rfl, ?_⟩
    simp only [PyData.depthAll]
    omega
theorem lst_shp {l : List PyData} {k : Nat} (h : ∀ d ∈ l, PyData.canLay0 d = true ∧ PyData.depth d ≤ k) (hk : k ≤ 60) : SeqAt.shaped (.list l) = true := by
  obtain ⟨h1, h2⟩ := lay_all h
  unfold SeqAt.shaped
  rw [show PyData.canLay0 (.list l) = PyData.canLayAll0 l from by simp [PyData.canLay0], h1, Bool.true_and]
  refine decide_eq_true ?_
  simp only [PyData.depth]
  omega
theorem fD_lay (w : List Int) : PyData.canLay0 (fD w) = true ∧ PyData.depth (fD w) ≤ 2 := by
  obtain ⟨h1, h2⟩ := lay_all (l := dInts w) (k := 1) fun d hd => by
    obtain ⟨x, _, rfl⟩ := List.mem_map.mp hd
    exact ⟨by simp [PyData.canLay0], by simp [PyData.depth]⟩
  unfold fD
  refine ⟨by rw [show PyData.canLay0 (.tuple (dInts w)) = PyData.canLayAll0 (dInts w) from by simp [PyData.canLay0], h1], ?_⟩
  simp only [PyData.depth]
  omega
theorem fD_shp (w : List Int) : SeqAt.shaped (fD w) = true := by
  obtain ⟨h1, h2⟩ := fD_lay w
  unfold SeqAt.shaped
  rw [h1, Bool.true_and]
  exact decide_eq_true (by omega)
theorem fDs_shp (l : List (List Int)) : SeqAt.shaped (.list (l.map fD)) = true := lst_shp (k := 2) (fun d hd => by
  obtain ⟨w, _, rfl⟩ := List.mem_map.mp hd
  exact fD_lay w) (by decide)
theorem any_fD (l : List (List Int)) (w : List Int) : ((l.map fD).any fun z => PyData.eqv z (fD w)) = decide (w ∈ l) := by
  rw [List.any_map, Bool.eq_iff_iff, List.any_eq_true, decide_eq_true_iff]
  constructor
  · rintro ⟨x, hx, h⟩
    have h : PyData.eqv (fD x) (fD w) = true := h
    rw [eqv_fD] at h
    rw [← of_decide_eq_true h]
    exact hx
  · intro h
    refine ⟨w, h, ?_⟩
    show PyData.eqv (fD w) (fD w) = true
    rw [eqv_fD]
    simp
section
variable {L : List (Addr × Ob)} {r : Rst} {P : Vl → Ct → Prop} {m : Nat}
theorem reached_ok {n : Nat} {every : List (List Int)} {one : List Int} (V : Every n every one) (n1 : n ≤ 4) (hev : every.length ≤ 1000) (hP : ∀ a kv, (∀ w ∈ every, lookI kv w = some (stN one w)) → P (.ob a) (St m L (r.put a (kv.map entF)))) :
    sp__law_reached [.dat (fD one), .dat (.list (every.map fD))] (St m L r) P := by
  have hlo := V.len _ V.has
  have n0 := V.n0
  have hlen : (dInts one).length = n := by rw [dInts_len, hlo]
  unfold sp__law_reached dt__law_reached
  rw [show fD one = .tuple (dInts one) from rfl]
  ac_rfl
  rw [hlen]
  refine cl_ok (flows_ok n1 ?_)
  ac_rfl
  refine dic_ok (ns := one) rfl fun a ha => ?_
  ac_rfl
  have st0 : stN one one = 0 := stN_self (by omega)
  refine wh_ok (fun μ env c => ∃ (D q : List (List Int)) (kv : List (List Int × Int)) (x5 x6 x7 : Option Vl), μ + D.length = every.length ∧ Bfs every one D q kv ∧ c = St m L (r.put a (kv.map entF)) ∧ env = [some (.dat (fD one)), some (.dat (.list (every.map fD))), some (.dat (.list ((flowsL n).map fD))), some (.ob a), some (.own (q.map fD)), x5, x6, x7])
    every.length ⟨[], [one], [(one, 0)], _, _, _, rfl, ⟨rfl, by simp, fun w hw => by rw [List.mem_singleton.mp hw]; exact V.has, fun p hp => by rw [List.mem_singleton.mp hp]; exact st0.symm, by simp, List.mem_singleton.mpr rfl, (fun _ h => nomatch h), fun a q e p hp => by
      cases e
      rw [List.mem_singleton.mp hp, st0]
      exact (by decide : (0 : Int) ≤ 0 + 1)⟩, rfl, rfl⟩ (fun μ env c hI => ?_)
  obtain ⟨D, q, kv, x5, x6, x7, hμ, B, rfl, rfl⟩ := hI
  cases q with
  | nil =>
    ac_rfl
    exact hP a kv fun w hw => B.all V hw
  | cons b q =>
    ac_rfl
    have hb : b ∈ every := B.ev b (by simp)
    have hbl := V.len b hb
    refine popA_ok rfl ?_
    ac_rfl
    refine fl_inv (fun j env c => ∃ (q' : List (List Int)) (kv' : List (List Int × Int)) (x6 x7 : Option Vl), Mid every one D q' kv' b ((flowsL n).take j) ∧ c = St m L (r.put a (kv'.map entF)) ∧ env = [some (.dat (fD one)), some (.dat (.list (every.map fD))), some (.dat (.list ((flowsL n).map fD))), some (.ob a), some (.own (q'.map fD)), some (.dat (fD b)), x6, x7])
      (fun j d env c k hd hI hk => ?_) ⟨q, kv, _, _, B.mid V, rfl, rfl⟩ (fun env c hI => ?_)
    · obtain ⟨q', kv', x6, x7, M, rfl, rfl⟩ := hI
      obtain ⟨f, hf, rfl, htk⟩ := take_row hd
      have hfm := List.mem_of_getElem? hf
      have hst := sent_step n0 hbl hfm
      have hsl := sentL_len b f
      ac_rfl
      refine cl_ok (sent_ok (by omega) (by omega) (by rw [flowsL_len2 hfm, hbl]) ?_)
      ac_rfl
      refine ⟨fD_shp _, fDs_shp _, ?_⟩
      rw [any_fD]
      have skip : (sentL b f ∈ every → sentL b f ∈ D ++ b :: q') → ∀ (y6 y7 : Option Vl), k [some (.dat (fD one)), some (.dat (.list (every.map fD))), some (.dat (.list ((flowsL n).map fD))), some (.ob a), some (.own (q'.map fD)), some (.dat (fD b)), y6, y7] (St m L (r.put a (kv'.map entF))) := fun h y6 y7 => hk _ _ ⟨q', kv', _, _, by rw [htk]; exact M.skip h, rfl, rfl⟩
      ac_rfl
      refine br_dec (fun hin => ?_) (fun hin => ?_)
      · ac_rfl
        refine inD_ok (ns := sentL b f) (kv := kv') rfl ls_put ?_
        cases hlk : lookI kv' (sentL b f) with
        | some v =>
          have hmem : sentL b f ∈ kv'.map (·.1) := List.mem_map.mpr ⟨_, lookI_some hlk, rfl⟩
          rw [M.ks] at hmem
          ac_rfl
          exact skip (fun _ => hmem) _ _
        | none =>
          ac_rfl
          have hbk : b ∈ kv'.map (·.1) := by rw [M.ks]; simp
          obtain ⟨v, hv⟩ := lookI_mem hbk
          have hvv : v = stN one b := M.val _ (lookI_some hv)
          refine ixD_ok (ns := b) (kv := kv') rfl ls_put hv ?_
          rw [hvv]
          have hkl : kv'.length ≤ every.length := by
            have h1 := sub_len M.nd M.ev
            rw [← M.ks, List.length_map] at h1
            exact h1
          have hsz : kv'.length < sizeLine := Nat.lt_of_le_of_lt (by omega : _ ≤ 1000) (by decide)
          have hql : (q'.map fD).length < sizeLine := by
            have h1 := congrArg List.length M.ks
            rw [List.length_map, List.length_append, List.length_cons] at h1
            rw [List.length_map]
            exact Nat.lt_of_le_of_lt (by omega : _ ≤ 1000) (by decide)
          ac_rfl
          refine putD_ok (ns := sentL b f) (kv := kv') rfl ls_put hlk hsz ?_
          ac_rfl
          have ea : q'.map fD ++ [fD (sentL b f)] = (q' ++ [sentL b f]).map fD := by rw [List.map_append]; rfl
          rw [ea]
          exact hk _ _ ⟨q' ++ [sentL b f], _, _, _, by rw [htk]; exact M.add V hst hin hlk, rfl, rfl⟩
      · ac_rfl
        exact skip (fun h => absurd h hin) _ _
    · obtain ⟨q', kv', x6, x7, M, rfl, rfl⟩ := hI
      rw [List.length_map, List.take_length] at M
      have B2 := M.done V
      have hle := sub_len (List.nodup_append.mp B2.nd).1 fun x hx => B2.ev x (List.mem_append_left _ hx)
      rw [List.length_append] at hle
      have hle : D.length + 1 ≤ every.length := hle
      refine ⟨μ - 1, by omega, D ++ [b], q', kv', _, _, _, by rw [List.length_append]; show _ + (D.length + 1) = _; omega, B2, rfl, rfl⟩
end


theorem lsD_int {a b : List Int} (hs : a.sum = b.sum) : lsD a b = .int (stN a b) := if_pos hs
theorem is_step_no {a b : List Int} (h0 : 0 < a.length) (he : a.length = b.length) (hl : a.length ≤ 1000) (hs : a.sum = b.sum) (hn : ¬ stN a b ≤ 1) {c : Ct} {P : Vl → Ct → Prop} (hP : P (.dat (.bool false)) c) : sp_is_step [.dat (fD a), .dat (fD b)] c P := by
  refine ⟨rfl, least_ok h0 he hl ?_⟩
  rw [lsD_int hs]
  show P (.dat (.bool (decide (stN a b ≤ 1)))) c
  rw [decide_eq_false hn]
  exact hP
theorem fD_self (w : List Int) : PyData.eqv (fD w) (fD w) = true := by
  rw [eqv_fD]
  simp
/-- a way of two fillings: it holds where one step joins them -/
theorem way_pair {n : Nat} {rs : List R4} {a b : List Int} (n0 : 0 < n) (n1 : n ≤ 12) (hl : rs.length ≤ 1000) (ha : a.length = n) (hb : b.length = n) (hs : a.sum = b.sum) (fa : fitsD n rs (fD a) = true) (fb : fitsD n rs (fD b) = true) {c : Ct} {P : Vl → Ct → Prop} (hP : P (.dat (.bool (decide (stN a b < 2)))) c) :
    sp_way_holds [.dat (.int (n : Int)), .dat (rDs rs), .dat (fD a), .dat (fD b), .dat (.tuple [fD a, fD b])] c P := by
  by_cases h : stN a b < 2
  · rw [decide_eq_true h] at hP
    refine way_holds_ok (ws := [a, b]) (by omega) (by omega) hl (by simp) ⟨rfl, rfl, fun w hw => ?_, fun w hw => ?_, fun k x y hx hy => ?_⟩ hP
    · simp only [List.mem_cons, List.not_mem_nil, or_false] at hw
      rcases hw with rfl | rfl <;> omega
    · simp only [List.mem_cons, List.not_mem_nil, or_false] at hw
      rcases hw with rfl | rfl
      · exact fa
      · exact fb
    · cases k with
      | zero =>
        cases hx
        cases hy
        exact ⟨stN a b, lsD_int hs, by omega⟩
      | succ k =>
        cases k <;> simp at hy
  · rw [decide_eq_false h] at hP
    have g1 : SeqAt.shaped (.tuple (dInts a)) = true := fD_shp a
    have g2 : SeqAt.shaped (.tuple (dInts b)) = true := fD_shp b
    have g3 : PyData.eqv (.tuple (dInts a)) (.tuple (dInts a)) = true := fD_self a
    have g4 : PyData.eqv (.tuple (dInts b)) (.tuple (dInts b)) = true := fD_self b
    unfold sp_way_holds dt_way_holds
    ac_rfl
    refine ll_map fD (fun _ => .bool true) (xs := [a, b]) (fun w hw A hA => ?_) ?_
    · ac_rfl
      have e : fitsD n rs (fD w) = true := by
        simp only [List.mem_cons, List.not_mem_nil, or_false] at hw
        rcases hw with rfl | rfl
        · exact fa
        · exact fb
      refine cl_ok (RW.fits_ok (by omega) (by omega) hl ?_)
      rw [e]
      ac_rfl
      exact hA
    rw [show List.map (fun _ : List Int => PyData.bool true) [a, b] = [.bool true, .bool true] from rfl]
    refine ⟨[true, true], rfl, ?_⟩
    rw [show [true, true].all id = true from rfl]
    unfold fD
    ac_rfl
    refine ixk_ok (z := .tuple (dInts b)) rfl ?_
    ac_rfl
    refine ⟨by show 1 < sizeLine; decide, ?_⟩
    rw [show List.map (fun z : PyData × PyData => PyData.tuple [z.1, z.2]) ([PyData.tuple (dInts a), PyData.tuple (dInts b)].zip (DL.cutD [PyData.tuple (dInts a), PyData.tuple (dInts b)] (some 1) none)) = [.tuple [.tuple (dInts a), .tuple (dInts b)]] from rfl]
    array_get_dec
    refine cl_ok (t := {}) (is_step_no (a := a) (b := b) (by omega) (by omega) (by omega) hs (by omega) ?_)
    array_get_dec
    refine ⟨[false], rfl, ?_⟩
    exact hP
theorem stN_Wy {one w : List Int} (h0 : 0 < one.length) (he : one.length = w.length) : ∀ s : Nat, stN one (Wy one w s) ≤ s
  | 0 => by
    have h := Wy_first h0 he
    rw [show ((0 : Nat) : Int) = 0 from rfl, h, stN_self h0]
    exact Int.le_refl _
  | s + 1 => by
    have ih := stN_Wy h0 he s
    have st := Wy_step h0 he (s := (s : Int)) (by omega)
    have l1 := Wy_len h0 he (s : Int)
    have l2 := Wy_len h0 he ((s : Int) + 1)
    have t := stN_tri (A := one) (B := Wy one w (s : Int)) (C := Wy one w ((s : Int) + 1)) h0 rfl l1 l2
    have t2 := (stepOk_sum st).2
    show stN one (Wy one w ((s : Int) + 1)) ≤ (s : Int) + 1
    omega
theorem every_ok {n : Nat} {t : Int} {rs : List R4} {one : List Int} (n0 : 0 < n) (t0 : 0 ≤ t) (hrs : ∀ q ∈ rs, q.Ok (n : Int)) (h1 : one ∈ allL n t n) (hf : ∀ q ∈ rs, fitR one q) : Every n ((allL n t n).filter fun w => rs.all (fitBo w)) one := by
  have R1 := allL_row t0 h1
  have mem : ∀ {w : List Int}, w ∈ (allL n t n).filter (fun w => rs.all (fitBo w)) ↔ w ∈ allL n t n ∧ ∀ q ∈ rs, fitR w q := fun {w} => by
    rw [List.mem_filter]
    refine and_congr_right fun _ => ?_
    rw [List.all_eq_true]
    exact ⟨fun h q hq => fitBo_iff.mp (h q hq), fun h q hq => fitBo_iff.mpr (h q hq)⟩
  have s1 := allL_sum t0 n0 h1
  refine ⟨n0, mem.mpr ⟨h1, hf⟩, fun w hw => (allL_row t0 (mem.mp hw).1).len, fun w hw => by rw [allL_sum t0 n0 (mem.mp hw).1, s1], fun w hw e he => ?_⟩
  obtain ⟨hw, hwf⟩ := mem.mp hw
  have R := allL_row t0 hw
  have sw := allL_sum t0 n0 hw
  have h0 : 0 < one.length := by rw [R1.len]; exact n0
  have hel : one.length = w.length := by rw [R1.len, R.len]
  have hs : one.sum = w.sum := by rw [s1, sw]
  have l1 := Wy_len h0 hel (e : Int)
  have up := stN_Wy h0 hel e
  have last : Wy one w ((e : Int) + 1) = w := by
    have := Wy_last h0 hel hs
    rw [show (mxL (lds one w) - mnL (lds one w) + 1) / 2 = (e : Int) + 1 from he] at this
    exact this
  have st := Wy_step h0 hel (s := (e : Int)) (by omega)
  rw [last] at st
  have st : stepOk (Wy one w (e : Int)) w := st
  have t := stN_tri (A := one) (B := Wy one w (e : Int)) (C := w) h0 rfl l1 hel.symm
  have t2 := (stepOk_sum st).2
  refine ⟨Wy one w (e : Int), mem.mpr ⟨allL_mem n0 (Nat.le_refl _) ⟨by rw [l1, R1.len], Wy_nn h0 hel hs (by omega) R1.nn R.nn, by rw [Wy_sum h0 hel]; omega⟩ (fun _ => by rw [Wy_sum h0 hel, s1]), Wy_fits h0 hel hs (n := (n : Int)) (by rw [R1.len]) (by omega) hrs R1.nn R.nn hf hwf⟩, by omega, st⟩


theorem ixk_any {l : List PyData} {q : Int} {P : PyData → Prop} {t : Tg P} (Φ : PyData → Prop) (q0 : 0 ≤ q) (q1 : q < (l.length : Int)) (hΦ : ∀ z ∈ l, Φ z) (h : ∀ z, Φ z → P z) : IxK l q P t := by
  obtain ⟨k, rfl⟩ := Int.eq_ofNat_of_zero_le q0
  have hk : k < l.length := by omega
  refine ixk_ok (z := l[k]) ?_ (h _ (hΦ _ (List.getElem_mem hk)))
  unfold atI
  rw [ixN_nat hk]
  exact List.getElem?_eq_getElem hk
theorem sum_zeros : ∀ k : Nat, (List.replicate k (0 : Int)).sum = 0
  | 0 => rfl
  | k + 1 => by rw [List.replicate_succ, List.sum_cons, sum_zeros k]; rfl
theorem allL_ne {n : Nat} {t : Int} (n0 : 0 < n) (t0 : 0 ≤ t) : 0 < (allL n t n).length := by
  refine List.length_pos_of_mem (a := t :: List.replicate (n - 1) 0) (allL_mem n0 (Nat.le_refl _) ⟨by simp; omega, fun x hx => ?_, ?_⟩ fun _ => ?_)
  · rcases List.mem_cons.mp hx with rfl | h
    · exact t0
    · rw [List.eq_of_mem_replicate h]; exact Int.le_refl _
  · rw [List.sum_cons, sum_zeros]; omega
  · rw [List.sum_cons, sum_zeros]; omega
theorem law_ok (Z : Str → Addr) {ns : List Int} (h63 : ns.length ≤ 63) : sp_law Z [.dat (.list (ns.map PyData.int))] Ct0 fun x _ => x = .dat (.bool true) := by
  unfold sp_law dt_law
  refine law_start h63 ?_
  rw [show CtT [] = St 0 [] r0 from rfl]
  ac_rfl
  refine fl_inv (fun i env c => ∃ (m : Nat) (r : Rst) (x2 x3 x4 x5 x6 x7 x8 x9 x10 x11 x12 : Option Vl), m ≤ 100 * i ∧ c = St m [] r ∧ env = [some (.dat (.list (ns.map PyData.int))), some .deck, x2, x3, x4, x5, x6, x7, x8, x9, x10, x11, x12]) (fun i d env c k hi hI hk => ?_) ⟨_, _, _, _, _, _, _, _, _, _, _, _, _, Nat.le_refl _, rfl, rfl⟩ (fun env c hI => ?_)
  · obtain ⟨m, r, x2, x3, x4, x5, x6, x7, x8, x9, x10, x11, x12, hm, rfl, rfl⟩ := hI
    obtain ⟨hi3, rfl⟩ := rangeD_get hi
    have hi3 : i < 3 := hi3
    ac_rfl
    refine draw_okS (by decide) (by decide) (by omega) fun N N0 N1 => ?_
    ac_rfl
    refine draw_okS (by decide) (by decide) (by omega) fun t t0 t1 => ?_
    obtain ⟨n, hn⟩ : ∃ n : Nat, (1 : Int) + N = (n : Int) := ⟨(1 + N).toNat, by omega⟩
    have n0 : 0 < n := by omega
    have n4 : n ≤ 4 := by omega
    rw [hn]
    ac_rfl
    refine cl_ok (all_ok n4 t0 (by omega) ?_)
    have hlen := Nat.le_trans (allL_len (n := n) t0 (by omega) n) (Nat.le_trans (Nat.pow_le_pow_right (by decide) n4) (by decide : 5 ^ 4 ≤ 625))
    have hpos := allL_ne n0 t0
    have hml : ((allL n t n).map fD).length = (allL n t n).length := List.length_map _
    ac_rfl
    refine draw_okS (by rw [hml]; omega) (by rw [hml]; exact Int.lt_of_le_of_lt (by omega : _ ≤ (625 : Int)) (by decide)) (by omega) fun p p0 p1 => ?_
    ac_rfl
    refine ixk_any (fun z => ∃ w ∈ allL n t n, z = fD w) p0 p1 (fun z hz => ?_) (fun z hz => ?_)
    · obtain ⟨w, hw, rfl⟩ := List.mem_map.mp hz
      exact ⟨w, hw, rfl⟩
    obtain ⟨one, h1, rfl⟩ := hz
    ac_rfl
    refine draw_okS (by rw [hml]; omega) (by rw [hml]; exact Int.lt_of_le_of_lt (by omega : _ ≤ (625 : Int)) (by decide)) (by omega) fun p p0 p1 => ?_
    ac_rfl
    refine ixk_any (fun z => ∃ w ∈ allL n t n, z = fD w) p0 p1 (fun z hz => ?_) (fun z hz => ?_)
    · obtain ⟨w, hw, rfl⟩ := List.mem_map.mp hz
      exact ⟨w, hw, rfl⟩
    obtain ⟨other, h2, rfl⟩ := hz
    have R1 := allL_row t0 h1
    have R2 := allL_row t0 h2
    ac_rfl
    refine cl_ok (rulesG_ok (fss := [one, other]) (most := 4) n0 (by omega) (by decide) (by simp) (by simp) (fun fs hfs => ?_) (by omega) fun rs m' hl hrs hft hm' => ?_)
    · simp only [List.mem_cons, List.not_mem_nil, or_false] at hfs
      rcases hfs with rfl | rfl
      · exact ⟨R1.len, R1.nn⟩
      · exact ⟨R2.len, R2.nn⟩
    have V := every_ok n0 t0 hrs h1 (hft one (by simp))
    ac_rfl
    refine ll_gen fD (fun w => rs.all (fitBo w)) fD _ _ _ _ _ (fun w hw A B hA hB => ?_) ?_
    · have R := allL_row t0 hw
      ac_rfl
      refine cl_ok (lfits_ok n0 (by omega) (by omega) hrs R.len R.nn ?_)
      cases e : rs.all (fitBo w) with
      | true =>
        ac_rfl
        exact hA e
      | false =>
        ac_rfl
        exact hB e
    ac_rfl
    have s1 := allL_sum t0 n0 h1
    have hev : ((allL n t n).filter fun w => rs.all (fitBo w)).length ≤ 1000 := Nat.le_trans (List.length_filter_le _ _) (by omega)
    have hmem : ∀ w ∈ (allL n t n).filter (fun w => rs.all (fitBo w)), w ∈ allL n t n ∧ ∀ q ∈ rs, fitR w q := fun w hw => by
      obtain ⟨a1, a2⟩ := List.mem_filter.mp hw
      rw [List.all_eq_true] at a2
      exact ⟨a1, fun q hq => fitBo_iff.mp (a2 q hq)⟩
    rw [List.nil_append]
    generalize (allL n t n).filter (fun w => rs.all (fitBo w)) = every at V hev hmem
    refine cl_ok (reached_ok V n4 hev fun a kv hkv => ?_)
    ac_rfl
    refine fl_inv (fun j env c => ∃ (x11 x12 : Option Vl), c = St m' [] (r.put a (kv.map entF)) ∧ env = [some (.dat (.list (ns.map PyData.int))), some .deck, some (.dat (.int (0 + (i : Int)))), some (.dat (.int (n : Int))), some (.dat (.int t)), some (.dat (.list ((allL n t n).map fD))), some (.dat (fD one)), some (.dat (fD other)), some (.dat (rDs rs)), some (.dat (.list (every.map fD))), some (.ob a), x11, x12])
      (fun j d env c k2 hd hI hk2 => ?_) ⟨_, _, rfl, rfl⟩ (fun env c hI => ?_)
    · obtain ⟨x11, x12, rfl, rfl⟩ := hI
      obtain ⟨w, hw, rfl, _⟩ := take_row hd
      have hw := List.mem_of_getElem? hw
      obtain ⟨hwa, hwf⟩ := hmem w hw
      have R := allL_row t0 hwa
      have hlk := hkv w hw
      have sw := allL_sum t0 n0 hwa
      have h0 : 0 < one.length := by rw [R1.len]; exact n0
      have hel : one.length = w.length := by rw [R1.len, R.len]
      have hs : one.sum = w.sum := by rw [s1, sw]
      have s0 := stN_nn h0 hel
      have s6 := stN_le h0 hel hs R1.nn R.nn (B := 4) (by omega)
      have nT : (n : Int) = (one.length : Int) := by rw [R1.len]
      have fa := fits_of (n := (n : Int)) nT.symm R1.nn hrs (hft one (by simp))
      have fb := fits_of (n := (n : Int)) (by rw [R.len]) R.nn hrs hwf
      ac_rfl
      refine inD_ok (ns := w) (kv := kv) rfl ls_put ?_
      rw [hlk]
      ac_rfl
      refine cl_ok (least_ok h0 hel (by omega) ?_)
      rw [lsD_int hs]
      have shI : shows (.int (stN one w)) := (sd_int (Nat.lt_of_lt_of_le (by omega : (stN one w).natAbs < 100) (by decide))).shows (by decide) (by decide)
      ac_rfl
      refine ixD_ok (ns := w) (kv := kv) rfl ls_put hlk ?_
      ac_rfl
      refine cl_ok (way_pair n0 (by omega) (by omega) R1.len R.len hs fa fb ?_)
      ac_rfl
      refine ixD_ok (ns := w) (kv := kv) rfl ls_put hlk ?_
      ac_rfl
      refine cl_ok (find_way_ok h0 hel (by omega) hs (by omega) ?_)
      have hwl : (((wayL one w).map fD).length : Int) = stN one w + 1 := by rw [List.length_map, wayL_len]; omega
      ac_rfl
      refine ixD_ok (ns := w) (kv := kv) rfl ls_put hlk ?_
      ac_rfl
      try rw [hwl]
      ac_rfl
      have W := way_found (n := (n : Int)) (rs := rs) h0 hel nT.symm hs hrs R1.nn R.nn (hft one (by simp)) hwf
      refine cl_ok (way_holds_ok (by omega) (by omega) (by omega) (by rw [wayL_len]; omega) W ?_)
      ac_rfl
      exact hk2 _ _ ⟨_, _, rfl, rfl⟩
    · obtain ⟨x11, x12, rfl, rfl⟩ := hI
      ac_rfl
      exact hk _ _ ⟨m', _, _, _, _, _, _, _, _, _, _, _, _, by omega, rfl, rfl⟩
  · obtain ⟨m, r, x2, x3, x4, x5, x6, x7, x8, x9, x10, x11, x12, hm, rfl, rfl⟩ := hI
    ac_rfl


end RW
namespace RW
open PySem PySem.Spec PyProof.Rows L2 DL
open He (ga ma)
theorem facts {P : Program} {w : World} {K : PySem.W.Frag} {h : Heap} {mg : Str → Option Value} {fa : Addr} (X : K.In h) (G : h.Ns mainGlobals mg) (hfa : mg ("law" : Str) = some (.ref fa)) (c2 : SaysOq csa csb fna fnb ts w K) :
    ∃ fd : FuncData, (∀ (s : Shared) (v : Value), BindsTo s fd ⟨[v], []⟩ [("_law_script", v)]) ∧ ∀ base : Heap, K.In base → base.Ns mainGlobals mg → FnG P w K mg base 7 fa fd ["_law_script"] (spTop K (sp_law (ga K))) := by
  have c0 : SaysOT cs fn ts w K := c2.t
  have c : SaysO cs fn K := c0.o
  have e := hfa.symm.trans (glo_ok X G (c.ck 0 rfl))
  cases e
  obtain ⟨fd_counts_of, F_counts_of, b_counts_of⟩ := dA_fun (at_ := fun K => ga K "counts_of") (x := "counts_of") (q := "counts_of") (st := s_counts_of) ["heights", "total"] (c.def_ (d := dA (fun K => ga K "counts_of") "counts_of" "counts_of" s_counts_of) 0 rfl) (fun _ _ _ _ _ _ us hl => match us, hl with | [_, _], _ => rfl)
  have m_counts_of := glo_ok X G (c.ck 1 rfl)
  obtain ⟨fd_heights_of, F_heights_of, b_heights_of⟩ := dA_fun (at_ := fun K => ga K "heights_of") (x := "heights_of") (q := "heights_of") (st := s_heights_of) ["filling"] (c.def_ (d := dA (fun K => ga K "heights_of") "heights_of" "heights_of" s_heights_of) 1 rfl) (fun _ _ _ _ _ _ us hl => match us, hl with | [_], _ => rfl)
  have m_heights_of := glo_ok X G (c.ck 2 rfl)
  obtain ⟨fd_is_number, F_is_number, b_is_number⟩ := dA_fun (at_ := fun K => ga K "is_number") (x := "is_number") (q := "is_number") (st := s_is_number) ["value"] (c.def_ (d := dA (fun K => ga K "is_number") "is_number" "is_number" s_is_number) 2 rfl) (fun _ _ _ _ _ _ us hl => match us, hl with | [_], _ => rfl)
  have m_is_number := glo_ok X G (c.ck 3 rfl)
  obtain ⟨fd_is_filling, F_is_filling, b_is_filling⟩ := dA_fun (at_ := fun K => ga K "is_filling") (x := "is_filling") (q := "is_filling") (st := s_is_filling) ["n", "value"] (c.def_ (d := dA (fun K => ga K "is_filling") "is_filling" "is_filling" s_is_filling) 3 rfl) (fun _ _ _ _ _ _ us hl => match us, hl with | [_, _], _ => rfl)
  have m_is_filling := glo_ok X G (c.ck 4 rfl)
  obtain ⟨fd_covers, F_covers, b_covers⟩ := dA_fun (at_ := fun K => ga K "covers") (x := "covers") (q := "covers") (st := s_covers) ["n", "first", "size", "place"] (c.def_ (d := dA (fun K => ga K "covers") "covers" "covers" s_covers) 4 rfl) (fun _ _ _ _ _ _ us hl => match us, hl with | [_, _, _, _], _ => rfl)
  have m_covers := glo_ok X G (c.ck 5 rfl)
  obtain ⟨fd_window_places, F_window_places, b_window_places⟩ := dA_fun (at_ := fun K => ga K "window_places") (x := "window_places") (q := "window_places") (st := s_window_places) ["n", "first", "size"] (c.def_ (d := dA (fun K => ga K "window_places") "window_places" "window_places" s_window_places) 5 rfl) (fun _ _ _ _ _ _ us hl => match us, hl with | [_, _, _], _ => rfl)
  have m_window_places := glo_ok X G (c.ck 6 rfl)
  obtain ⟨fd_window_sum, F_window_sum, b_window_sum⟩ := dA_fun (at_ := fun K => ga K "window_sum") (x := "window_sum") (q := "window_sum") (st := s_window_sum) ["filling", "first", "size"] (c.def_ (d := dA (fun K => ga K "window_sum") "window_sum" "window_sum" s_window_sum) 6 rfl) (fun _ _ _ _ _ _ us hl => match us, hl with | [_, _, _], _ => rfl)
  have m_window_sum := glo_ok X G (c.ck 7 rfl)
  obtain ⟨fd_broken_rules, F_broken_rules, b_broken_rules⟩ := dA_fun (at_ := fun K => ga K "broken_rules") (x := "broken_rules") (q := "broken_rules") (st := s_broken_rules) ["n", "rules", "filling"] (c.def_ (d := dA (fun K => ga K "broken_rules") "broken_rules" "broken_rules" s_broken_rules) 7 rfl) (fun _ _ _ _ _ _ us hl => match us, hl with | [_, _, _], _ => rfl)
  have m_broken_rules := glo_ok X G (c.ck 8 rfl)
  obtain ⟨fd_fits, F_fits, b_fits⟩ := dA_fun (at_ := fun K => ga K "fits") (x := "fits") (q := "fits") (st := s_fits) ["n", "rules", "value"] (c.def_ (d := dA (fun K => ga K "fits") "fits" "fits" s_fits) 8 rfl) (fun _ _ _ _ _ _ us hl => match us, hl with | [_, _, _], _ => rfl)
  have m_fits := glo_ok X G (c.ck 9 rfl)
  obtain ⟨fd_leads_of, F_leads_of, b_leads_of⟩ := dA_fun (at_ := fun K => ga K "leads_of") (x := "leads_of") (q := "leads_of") (st := s_leads_of) ["one", "other"] (c.def_ (d := dA (fun K => ga K "leads_of") "leads_of" "leads_of" s_leads_of) 9 rfl) (fun _ _ _ _ _ _ us hl => match us, hl with | [_, _], _ => rfl)
  have m_leads_of := glo_ok X G (c.ck 10 rfl)
  obtain ⟨fd_least_steps, F_least_steps, b_least_steps⟩ := dA_fun (at_ := fun K => ga K "least_steps") (x := "least_steps") (q := "least_steps") (st := s_least_steps) ["one", "other"] (c.def_ (d := dA (fun K => ga K "least_steps") "least_steps" "least_steps" s_least_steps) 10 rfl) (fun _ _ _ _ _ _ us hl => match us, hl with | [_, _], _ => rfl)
  have m_least_steps := glo_ok X G (c.ck 11 rfl)
  obtain ⟨fd_filling_after, F_filling_after, b_filling_after⟩ := dA_fun (at_ := fun K => ga K "filling_after") (x := "filling_after") (q := "filling_after") (st := s_filling_after) ["heights", "shifts", "total", "steps"] (c.def_ (d := dA (fun K => ga K "filling_after") "filling_after" "filling_after" s_filling_after) 11 rfl) (fun _ _ _ _ _ _ us hl => match us, hl with | [_, _, _, _], _ => rfl)
  have m_filling_after := glo_ok X G (c.ck 12 rfl)
  obtain ⟨fd_find_way, F_find_way, b_find_way⟩ := dA_fun (at_ := fun K => ga K "find_way") (x := "find_way") (q := "find_way") (st := s_find_way) ["n", "rules", "one", "other"] (c.def_ (d := dA (fun K => ga K "find_way") "find_way" "find_way" s_find_way) 12 rfl) (fun _ _ _ _ _ _ us hl => match us, hl with | [_, _, _, _], _ => rfl)
  have m_find_way := glo_ok X G (c.ck 13 rfl)
  obtain ⟨fd_is_step, F_is_step, b_is_step⟩ := dA_fun (at_ := fun K => ga K "is_step") (x := "is_step") (q := "is_step") (st := s_is_step) ["one", "other"] (c.def_ (d := dA (fun K => ga K "is_step") "is_step" "is_step" s_is_step) 13 rfl) (fun _ _ _ _ _ _ us hl => match us, hl with | [_, _], _ => rfl)
  have m_is_step := glo_ok X G (c.ck 14 rfl)
  obtain ⟨fd_way_holds, F_way_holds, b_way_holds⟩ := dA_fun (at_ := fun K => ga K "way_holds") (x := "way_holds") (q := "way_holds") (st := s_way_holds) ["n", "rules", "one", "other", "value"] (c.def_ (d := dA (fun K => ga K "way_holds") "way_holds" "way_holds" s_way_holds) 14 rfl) (fun _ _ _ _ _ _ us hl => match us, hl with | [_, _, _, _, _], _ => rfl)
  have m_way_holds := glo_ok X G (c.ck 15 rfl)
  obtain ⟨fd__law_deck, F__law_deck, b__law_deck⟩ := dA_fun (at_ := fun K => ga K "_law_deck") (x := "_law_deck") (q := "_law_deck") (st := s__law_deck) ["_law_script"] (c.def_ (d := dA (fun K => ga K "_law_deck") "_law_deck" "_law_deck" s__law_deck) 15 rfl) (fun _ _ _ _ _ _ us hl => match us, hl with | [_], _ => rfl)
  have m__law_deck := glo_ok X G (c.ck 16 rfl)
  obtain ⟨fd__law_draw, F__law_draw, b__law_draw⟩ := dA_fun (at_ := fun K => ga K "_law_draw") (x := "_law_draw") (q := "_law_draw") (st := s__law_draw) ["_law_deck_here", "_law_bound"] (c.def_ (d := dA (fun K => ga K "_law_draw") "_law_draw" "_law_draw" s__law_draw) 16 rfl) (fun _ _ _ _ _ _ us hl => match us, hl with | [_, _], _ => rfl)
  have m__law_draw := glo_ok X G (c.ck 17 rfl)
  obtain ⟨fd__law_sum, F__law_sum, b__law_sum⟩ := dA_fun (at_ := fun K => ga K "_law_sum") (x := "_law_sum") (q := "_law_sum") (st := s__law_sum) ["_law_filling", "_law_first", "_law_size"] (c.def_ (d := dA (fun K => ga K "_law_sum") "_law_sum" "_law_sum" s__law_sum) 17 rfl) (fun _ _ _ _ _ _ us hl => match us, hl with | [_, _, _], _ => rfl)
  have m__law_sum := glo_ok X G (c.ck 18 rfl)
  obtain ⟨fd__law_rules, F__law_rules, b__law_rules⟩ := dA_fun (at_ := fun K => ga K "_law_rules") (x := "_law_rules") (q := "_law_rules") (st := s__law_rules) ["_law_deck_here", "_law_n", "_law_fillings", "_law_most"] (c.def_ (d := dA (fun K => ga K "_law_rules") "_law_rules" "_law_rules" s__law_rules) 18 rfl) (fun _ _ _ _ _ _ us hl => match us, hl with | [_, _, _, _], _ => rfl)
  have m__law_rules := glo_ok X G (c.ck 19 rfl)
  obtain ⟨fd__law_fits, F__law_fits, b__law_fits⟩ := dA_fun (at_ := fun K => ga K "_law_fits") (x := "_law_fits") (q := "_law_fits") (st := s__law_fits) ["_law_n", "_law_rules_here", "_law_value"] (c.def_ (d := dA (fun K => ga K "_law_fits") "_law_fits" "_law_fits" s__law_fits) 19 rfl) (fun _ _ _ _ _ _ us hl => match us, hl with | [_, _, _], _ => rfl)
  have m__law_fits := glo_ok X G (c.ck 20 rfl)
  obtain ⟨fd__law_all, F__law_all, b__law_all⟩ := dA_fun (at_ := fun K => ga K "_law_all") (x := "_law_all") (q := "_law_all") (st := s__law_all) ["_law_n", "_law_total"] (c.def_ (d := dA (fun K => ga K "_law_all") "_law_all" "_law_all" s__law_all) 20 rfl) (fun _ _ _ _ _ _ us hl => match us, hl with | [_, _], _ => rfl)
  have m__law_all := glo_ok X G (c.ck 21 rfl)
  obtain ⟨fd__law_flows, F__law_flows, b__law_flows⟩ := dA_fun (at_ := fun K => ga K "_law_flows") (x := "_law_flows") (q := "_law_flows") (st := s__law_flows) ["_law_n"] (c.def_ (d := dA (fun K => ga K "_law_flows") "_law_flows" "_law_flows" s__law_flows) 21 rfl) (fun _ _ _ _ _ _ us hl => match us, hl with | [_], _ => rfl)
  have m__law_flows := glo_ok X G (c.ck 22 rfl)
  obtain ⟨fd__law_sent, F__law_sent, b__law_sent⟩ := dA_fun (at_ := fun K => ga K "_law_sent") (x := "_law_sent") (q := "_law_sent") (st := s__law_sent) ["_law_filling", "_law_flows_here"] (c.def_ (d := dA (fun K => ga K "_law_sent") "_law_sent" "_law_sent" s__law_sent) 22 rfl) (fun _ _ _ _ _ _ us hl => match us, hl with | [_, _], _ => rfl)
  have m__law_sent := glo_ok X G (c.ck 23 rfl)
  obtain ⟨fd__law_reached, F__law_reached, b__law_reached⟩ := dA_fun (at_ := fun K => ga K "_law_reached") (x := "_law_reached") (q := "_law_reached") (st := s__law_reached) ["_law_one", "_law_every"] (c.def_ (d := dA (fun K => ga K "_law_reached") "_law_reached" "_law_reached" s__law_reached) 23 rfl) (fun _ _ _ _ _ _ us hl => match us, hl with | [_, _], _ => rfl)
  have m__law_reached := glo_ok X G (c.ck 24 rfl)
  obtain ⟨fd_law, F_law, bl_law⟩ := dA_law (at_ := fun K => ga K "law") (x := "law") (q := "law") (st := s_law) ["_law_script"] (c.def_ (d := dA (fun K => ga K "law") "law" "law" s_law) 24 rfl) (fun _ _ _ _ _ _ us hl => match us, hl with | [_], _ => rfl)
  obtain ⟨t_LISTED, g_LISTED⟩ := int_ok X G (c.ck 25 rfl)
  have m_abs := free_ok X G (c.ck 26 rfl)
  have m_all := free_ok X G (c.ck 27 rfl)
  have m_bool := free_ok X G (c.ck 28 rfl)
  have m_enumerate := free_ok X G (c.ck 29 rfl)
  have m_int := free_ok X G (c.ck 30 rfl)
  have m_isinstance := free_ok X G (c.ck 31 rfl)
  have m_len := free_ok X G (c.ck 32 rfl)
  have m_max := free_ok X G (c.ck 33 rfl)
  have m_min := free_ok X G (c.ck 34 rfl)
  have m_range := free_ok X G (c.ck 35 rfl)
  have m_repr := free_ok X G (c.ck 36 rfl)
  have m_sum := free_ok X G (c.ck 37 rfl)
  have m_tuple := free_ok X G (c.ck 38 rfl)
  have m_zip := free_ok X G (c.ck 39 rfl)
  refine ⟨fd_law, fun s u => bl_law s [u] rfl, fun base _ _ => ?_⟩
  have d__law_draw := ok__law_draw (P := P) (w := w) (base := base) F__law_draw m__law_draw b__law_draw m_len m_max
  have fnDeck := ok__law_deck (P := P) (w := w) (mg := mg) (base := base) F__law_deck m_abs
  have d_counts_of := ok_counts_of (P := P) (w := w) (base := base) F_counts_of m_counts_of b_counts_of m_tuple m_zip
  have d_heights_of := ok_heights_of (P := P) (w := w) (base := base) F_heights_of m_heights_of b_heights_of m_len m_range m_sum
  have d_is_number := ok_is_number (P := P) (w := w) (base := base) F_is_number m_is_number b_is_number m_bool m_int m_isinstance
  have d_is_filling := ok_is_filling (P := P) (w := w) (base := base) F_is_filling m_is_filling b_is_filling m_all m_isinstance m_len m_tuple d_is_number
  have d_covers := ok_covers (P := P) (w := w) (base := base) F_covers m_covers b_covers
  have d_window_places := ok_window_places (P := P) (w := w) (base := base) F_window_places m_window_places b_window_places m_range m_tuple d_covers
  have d_window_sum := ok_window_sum (P := P) (w := w) (base := base) F_window_sum m_window_sum b_window_sum m_len m_sum d_window_places
  have d_broken_rules := ok_broken_rules (P := P) (w := w) (base := base) F_broken_rules m_broken_rules b_broken_rules m_enumerate m_tuple d_window_sum
  have d_fits := ok_fits (P := P) (w := w) (base := base) F_fits m_fits b_fits d_broken_rules d_is_filling
  have d_leads_of := ok_leads_of (P := P) (w := w) (base := base) F_leads_of m_leads_of b_leads_of m_zip d_heights_of
  have d_least_steps := ok_least_steps (P := P) (w := w) (base := base) F_least_steps m_least_steps b_least_steps m_max m_min m_sum d_leads_of
  have d_filling_after := ok_filling_after (P := P) (w := w) (base := base) F_filling_after m_filling_after b_filling_after m_max m_min m_zip d_counts_of
  have d_find_way := ok_find_way (P := P) (w := w) (base := base) F_find_way m_find_way b_find_way g_LISTED m_max m_range m_sum m_tuple d_filling_after d_heights_of d_leads_of d_least_steps
  have d_is_step := ok_is_step (P := P) (w := w) (base := base) F_is_step m_is_step b_is_step d_least_steps
  have d_way_holds := ok_way_holds (P := P) (w := w) (base := base) F_way_holds m_way_holds b_way_holds m_all m_isinstance m_len m_tuple m_zip d_fits d_is_step
  have d__law_sum := ok__law_sum (P := P) (w := w) (base := base) F__law_sum m__law_sum b__law_sum m_len m_range m_sum
  have d__law_rules := ok__law_rules (P := P) (w := w) (base := base) F__law_rules m__law_rules b__law_rules m_max m_min m_range m_tuple d__law_draw d__law_sum
  have d__law_fits := ok__law_fits (P := P) (w := w) (base := base) F__law_fits m__law_fits b__law_fits m_bool m_int m_isinstance m_len m_tuple d__law_sum
  have d__law_all := ok__law_all (P := P) (w := w) (base := base) F__law_all m__law_all b__law_all m_range m_sum
  have d__law_flows := ok__law_flows (P := P) (w := w) (base := base) F__law_flows m__law_flows b__law_flows m_range
  have d__law_sent := ok__law_sent (P := P) (w := w) (base := base) F__law_sent m__law_sent b__law_sent m_len m_range m_tuple
  have d__law_reached := ok__law_reached (P := P) (w := w) (base := base) F__law_reached m__law_reached b__law_reached m_len d__law_flows d__law_sent
  exact ok_law (Z := ga K) F_law fnDeck m__law_deck F__law_deck.kp b__law_deck m_len m_range m_repr d__law_all d__law_draw d__law_fits d__law_reached d__law_rules d_find_way d_least_steps d_way_holds
theorem want (K : PySem.W.Frag) (Z : Str → Addr) (H : Hp) (a : Addr) (ns : List Int) (hl : ns.length ≤ 63) (hS : SqL K H a (ns.map V.int)) : spTop K (sp_law Z) [.ref a] H (fun v _ => v = .bl true) E0 :=
  ⟨a, ns, fun x _ => x = .dat (.bool true), rfl, hS, (fun _ h => nomatch h), hl, (law_ok Z hl), fun x c' g' H' v hx ok _ => by
    subst hx
    exact dp_bl ok⟩
end RW
open PySem PySem.W PySem.Calls PyProof.Rows
set_option maxHeartbeats 0 in
theorem PySem.Challenge.cw_ringwindows_k31_whole_steps_searched_holds : PySem.Challenge.rw_ringwindows_k31_whole_steps_searched.Holds := by
  w_on; o_law
  refine RWH.headX ?hw ?hc
  case hw => w_witness2
  case hc =>
    refine DL.walk_endO (l := PySem.Challenge.rw_ringwindows_k31_whole_steps_searched) (n := 63) (k := 7) (x := "_law_script") rfl (by decide) (by kernel_rfl) ⟨rfl, by decide, by decide⟩ ?F
    intro w mg fa h Y G hmg0
    obtain ⟨K, KX, c⟩ := Y
    have hmg : mg ("law" : PySem.Str) = some (.ref fa) := by
      have e : (HandSHeadRun.topDef (OpenLaw.row PySem.Challenge.rw_ringwindows_k31_whole_steps_searched).prog 32).name = ("law" : PySem.Str) := by kernel_rfl
      rw [← e]
      exact hmg0
    obtain ⟨fd, hb, hF⟩ := RW.facts (P := (PySem.Challenge.rw_ringwindows_k31_whole_steps_searched).prog) (w := w) KX G hmg c
    exact ⟨K, fd, _, KX, hb, fun H a ns hl hS => RW.want K (He.ga K) H a ns hl hS, hF⟩

