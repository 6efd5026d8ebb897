import PyProof.Rows.All
import Wide.All
import OpenK.AllK
import Wide.FinOn
import HandS.ForMost
import HandS.More
import HandS.SortInts
import HandS.SortKw
import HandS.Gcd
import HandS.Wide
import HandS.Flow
import HandS.Zip
import HandS.Conv
import PyProof.ReprRoads
import PyProof.ReprBulk
import HandS.Walk
import HandS.Codes
import HandS.Sort
import HandS.SortRule
import HandS.TupAny
import HandS.TupMul
import HandS.RaiseMore
import PyProof.EnumMake
import PyProof.Draws
import HandS.Zip0
import HandS.Style
import PySem.Challenge.RW_leastpowers_k38_silence_and_loud_orders
import KE.KDictZip
import KE.GoesMore
import KE.GoesEnum
import HandS.Deep
import HandS.IsInst
import HandS.BoundDict
import HandS.RevRange
import HandS.RevTup
import HandS.Iter
import HandS.DictComp
import HandS.Finally
import HandS.DictEq
import KE.KIndexOf
import HandS.SetFor
import HandS.Strs
import PyProof.Rows.SetFrom
set_option Elab.async false
set_option linter.all false
set_option maxRecDepth 100000
section
set_option maxHeartbeats 1000000
namespace Zl
open PySem PySem.Spec PyProof.Rows L2

/-! ### data in a heap -/
abbrev D := PyData
def keyD : Key → D
  | .inl i => .int i
  | .inr x => .str x
mutual
inductive RV (K : PySem.W.Frag) (H : Hp) : V → D → Prop
  | non : RV K H .non .none
  | bl (b : Bool) : RV K H (.bl b) (.bool b)
  | int (i : Int) : RV K H (.int i) (.int i)
  | str (x : Str) : RV K H (.str x) (.str x)
  | lst {a : Addr} {xs : List V} {ds : List D} : H a = some (.lst xs) → ds.length ≤ sizeLine → RVs K H xs ds → RV K H (.ref a) (.list ds)
  | tup {a : Addr} {xs : List V} {ds : List D} : H a = some (.tup xs) → ds.length ≤ sizeLine → RVs K H xs ds → RV K H (.ref a) (.tuple ds)
  | dct {a : Addr} {kvs : List (Key × V)} {ds : List (D × D)} : Rd H a (.dK kvs) → RVd K H kvs ds → RV K H (.ref a) (.dict ds)
inductive RVs (K : PySem.W.Frag) (H : Hp) : List V → List D → Prop
  | nil : RVs K H [] []
  | cons {v : V} {vs : List V} {d : D} {ds : List D} : RV K H v d → RVs K H vs ds → RVs K H (v :: vs) (d :: ds)
inductive RVd (K : PySem.W.Frag) (H : Hp) : List (Key × V) → List (D × D) → Prop
  | nil : RVd K H [] []
  | cons {k : Key} {v : V} {vs : List (Key × V)} {d : D} {ds : List (D × D)} : RV K H v d → RVd K H vs ds → RVd K H ((k, v) :: vs) ((keyD k, d) :: ds)
end
/-- a part of a heap -/
def Le (H H' : Hp) : Prop := ∀ b o, H b = some o → H' b = some o
theorem Le.refl (H : Hp) : Le H H := fun _ _ h => h
theorem rd_le {H H' : Hp} {a : Addr} {u : HO} (e : Le H H') (h : Rd H a u) : Rd H' a u := h.imp (e _ _) fun ⟨o, q⟩ => ⟨o, e _ _ q⟩
theorem Le.trans {H H1 H2 : Hp} (a : Le H H1) (b : Le H1 H2) : Le H H2 := fun c o h => b c o (a c o h)
theorem Le.sqT {K : PySem.W.Frag} {H H' : Hp} {a : Addr} {xs : List V} (e : Le H H') (h : SqT K H a xs) : SqT K H' a xs := by
  rcases h with (h | ⟨o, h⟩) | h
  · exact .inl (.inl (e _ _ h))
  · exact .inl (.inr ⟨o, e _ _ h⟩)
  · exact .inr h
section
variable {K : PySem.W.Frag} {H H' : Hp}
mutual
theorem RV.mono (e : Le H H') : ∀ {v : V} {d : D}, RV K H v d → RV K H' v d
  | _, _, .non => .non
  | _, _, .bl b => .bl b
  | _, _, .int i => .int i
  | _, _, .str x => .str x
  | _, _, .lst h z t => .lst (e _ _ h) z (RVs.mono e t)
  | _, _, .tup h z t => .tup (e _ _ h) z (RVs.mono e t)
  | _, _, .dct h t => .dct (rd_le e h) (RVd.mono e t)
theorem RVs.mono (e : Le H H') : ∀ {v : List V} {d : List D}, RVs K H v d → RVs K H' v d
  | _, _, .nil => .nil
  | _, _, .cons h t => .cons (RV.mono e h) (RVs.mono e t)
theorem RVd.mono (e : Le H H') : ∀ {v : List (Key × V)} {d : List (D × D)}, RVd K H v d → RVd K H' v d
  | _, _, .nil => .nil
  | _, _, .cons h t => .cons (RV.mono e h) (RVd.mono e t)
end
theorem RVs.len : ∀ {v : List V} {d : List D}, RVs K H v d → v.length = d.length
  | _, _, .nil => rfl
  | _, _, .cons _ t => congrArg (· + 1) (RVs.len t)
theorem RVs.get : ∀ {v : List V} {d : List D} {i : Nat} {y : D}, RVs K H v d → d[i]? = some y → ∃ x, v[i]? = some x ∧ RV K H x y
  | _, _, _, _, .nil, e => by simp at e
  | _, _, 0, _, .cons h t, e => by
    cases e
    exact ⟨_, rfl, h⟩
  | _, _, i + 1, y, .cons h t, e => RVs.get (i := i) t (by simpa using e)
theorem RVs.getV : ∀ {v : List V} {d : List D} {i : Nat} {x : V}, RVs K H v d → v[i]? = some x → ∃ y, d[i]? = some y ∧ RV K H x y
  | _, _, _, _, .nil, e => by simp at e
  | _, _, 0, _, .cons h t, e => by
    cases e
    exact ⟨_, rfl, h⟩
  | _, _, i + 1, y, .cons h t, e => RVs.getV (i := i) t (by simpa using e)
theorem RVs.append : ∀ {v w : List V} {d e : List D}, RVs K H v d → RVs K H w e → RVs K H (v ++ w) (d ++ e)
  | _, _, _, _, .nil, q => q
  | _, _, _, _, .cons h t, q => .cons h (RVs.append t q)
theorem RVs.one {v : V} {d : D} (h : RV K H v d) : RVs K H [v] [d] := .cons h .nil
theorem RVs.drop : ∀ (n : Nat) {v : List V} {d : List D}, RVs K H v d → RVs K H (v.drop n) (d.drop n)
  | 0, _, _, h => h
  | _ + 1, _, _, .nil => .nil
  | n + 1, _, _, .cons _ t => RVs.drop n t
theorem RVs.take : ∀ (n : Nat) {v : List V} {d : List D}, RVs K H v d → RVs K H (v.take n) (d.take n)
  | 0, _, _, _ => .nil
  | _ + 1, _, _, .nil => .nil
  | n + 1, _, _, .cons h t => .cons h (RVs.take n t)
theorem RVs.set {x : V} {y : D} (hx : RV K H x y) : ∀ {v : List V} {d : List D} (i : Nat), RVs K H v d → RVs K H (v.set i x) (d.set i y)
  | _, _, _, .nil => .nil
  | _, _, 0, .cons _ t => .cons hx t
  | _, _, i + 1, .cons h t => .cons h (RVs.set hx i t)
theorem RVd.len : ∀ {v : List (Key × V)} {d : List (D × D)}, RVd K H v d → v.length = d.length
  | _, _, .nil => rfl
  | _, _, .cons _ t => congrArg (· + 1) (RVd.len t)
theorem RV.atI {v : List V} {d : List D} {i : Int} {y : D} (h : RVs K H v d) (e : atI d i = some y) : ∃ x, L2.atI v i = some x ∧ RV K H x y := by
  unfold L2.atI at e ⊢
  rw [h.len]
  cases q : ixN d.length i with
  | none =>
    rw [q] at e
    cases e
  | some j =>
    rw [q] at e
    exact h.get (i := j) e
end

/-! ### values and slots of a def -/
/-- what an expression gives: data, the bag of drawn numbers, a thing by itself; a list or dict of the def's own that is still changed (hot), a new one (new) -/
inductive W where
  | d (x : D) | bag | op (v : V) | hot (xs : List D) | hotd (kvs : List (Key × D)) | new (xs : List D) | newd (kvs : List (Key × D)) | brw (x : D)
inductive Sl where
  | un | w (x : W) | hl (xs : List D) | hd (kvs : List (Key × D))
def Sl.hot : Sl → Bool
  | .hl _ => true
  | .hd _ => true
  | _ => false
structure Pm where
  /-- the heap at the def's start, its cold part, the bag's place -/
  F : Hp
  B : Hp
  g : Option Addr
  /-- the place of the bag's cells -/
  r : Addr
  /-- new objects that are held by nobody yet -/
  gh : List (Addr × Sl)
def nb (g : Option Addr) (H : Hp) : Hp := fun b => if g = some b then none else H b
theorem nb_some {g : Option Addr} {H : Hp} {b : Addr} {o : HO} (h : nb g H b = some o) : g ≠ some b ∧ H b = some o := by
  unfold nb at h
  split at h
  · cases h
  · exact ⟨by assumption, h⟩
theorem nb_of {g : Option Addr} {H : Hp} {b : Addr} {o : HO} (n : g ≠ some b) (h : H b = some o) : nb g H b = some o := by
  unfold nb
  rw [if_neg n]
  exact h
structure BagAt (g r : Addr) (H : Hp) : Prop where
  ex : ∃ (b0 b1 b2 : Int) (cs : List Int), H g = some (.lst [.int b0, .int b1, .int b2, .ref r]) ∧ H r = some (.lst (cs.map V.int)) ∧ r ≠ g ∧ 0 ≤ b0 ∧ 0 ≤ b1 ∧ 0 ≤ b2 ∧ (∀ c ∈ cs, 0 ≤ c) ∧ cs.length ≤ 63
def BagOk (g : Option Addr) (r : Addr) (Hc H : Hp) : Prop := ∀ a, g = some a → BagAt a r H ∧ ∃ o, Hc r = some o
def RKs (K : PySem.W.Frag) (H : Hp) : List (Key × V) → List (Key × D) → Prop := Paired fun p q => p.1 = q.1 ∧ RV K H p.2 q.2
def HotL (K : PySem.W.Frag) (P : Pm) (Hc H : Hp) (a : Addr) (xs : List D) : Prop := ∃ vs, H a = some (.lst vs) ∧ P.F a = none ∧ P.g ≠ some a ∧ RVs K Hc vs xs ∧ xs.length ≤ sizeLine
def HotD (K : PySem.W.Frag) (P : Pm) (Hc H : Hp) (a : Addr) (xs : List (Key × D)) : Prop := ∃ vs, H a = some (.dK vs) ∧ P.F a = none ∧ P.g ≠ some a ∧ RKs K Hc vs xs
def RSl (K : PySem.W.Frag) (P : Pm) (Hc H : Hp) (o : Option (Option V)) : Sl → Prop
  | .un => True
  | .w (.d x) => ∃ v, o = some (some v) ∧ RV K Hc v x
  | .w .bag => ∃ a, P.g = some a ∧ o = some (some (.ref a))
  | .w (.op v) => o = some (some v)
  | .w _ => False
  | .hl xs => ∃ a, o = some (some (.ref a)) ∧ Hc a = none ∧ HotL K P Hc H a xs
  | .hd xs => ∃ a, o = some (some (.ref a)) ∧ Hc a = none ∧ HotD K P Hc H a xs
def hotAt (δ : List Sl) (i : Nat) : Prop := ∃ s, δ[i]? = some s ∧ s.hot = true
structure RW (K : PySem.W.Frag) (P : Pm) (Hc H : Hp) (σ : L2.St) (δ : List Sl) : Prop where
  base : Le P.B Hc
  fresh : ∀ b o, Hc b = some o → P.B b = some o ∨ P.F b = none
  cold : Le Hc (nb P.g H)
  old : Le (nb P.g P.F) (nb P.g H)
  bag : BagOk P.g P.r Hc H
  len : δ.length = σ.length
  sl : ∀ (i : Nat) (s : Sl), δ[i]? = some s → RSl K P Hc H (σ[i]?) s
  apart : ∀ (i j : Nat) (a : Addr), hotAt δ i → hotAt δ j → σ[i]? = some (some (.ref a)) → σ[j]? = some (some (.ref a)) → i = j
  gst : ∀ p ∈ P.gh, RSl K P Hc H (some (some (.ref p.1))) p.2 ∧ p.2.hot = true ∧ ∀ i : Nat, hotAt δ i → σ[i]? ≠ some (some (.ref p.1))
/-- an address that nobody holds -/
def Apart (P : Pm) (σ : L2.St) (δ : List Sl) (a : Addr) : Prop := (∀ i : Nat, hotAt δ i → σ[i]? ≠ some (some (.ref a))) ∧ ∀ p ∈ P.gh, p.1 ≠ a
/-- all that the def has, what is changed still among it -/
def allH (P : Pm) (Hc H : Hp) : Hp := fun b => if (Hc b).isSome = true ∨ P.F b = none then nb P.g H b else none
theorem allH_mono {P : Pm} {Hc H Hc' H' : Hp} (e : Le Hc Hc') (f : Le (nb P.g H) (nb P.g H')) : Le (allH P Hc H) (allH P Hc' H') := fun b o h => by
  unfold allH at h ⊢
  split at h
  · rename_i c
    rw [if_pos]
    · exact f b o h
    · rcases c with c | c
      · obtain ⟨u, hu⟩ := Option.isSome_iff_exists.mp c
        exact .inl (by rw [e b u hu]; rfl)
      · exact .inr c
  · cases h
def RVw (K : PySem.W.Frag) (P : Pm) (Hc H : Hp) (σ : L2.St) (δ : List Sl) (v : V) : W → Prop
  | .d x => RV K Hc v x
  | .bag => ∃ a, P.g = some a ∧ v = .ref a
  | .op u => v = u
  | .hot xs => ∃ a, v = .ref a ∧ HotL K P Hc H a xs
  | .hotd xs => ∃ a, v = .ref a ∧ HotD K P Hc H a xs
  | .new xs => ∃ a, v = .ref a ∧ Hc a = none ∧ HotL K P Hc H a xs ∧ Apart P σ δ a
  | .newd xs => ∃ a, v = .ref a ∧ Hc a = none ∧ HotD K P Hc H a xs ∧ Apart P σ δ a
  | .brw x => RV K (allH P Hc H) v x
/-- a new value that is held while another one is told -/
def held : W → W
  | .new xs => .hot xs
  | .newd xs => .hotd xs
  | x => x
section
variable {K : PySem.W.Frag} {P : Pm} {Hc H Hc' H' : Hp} {σ : L2.St} {δ : List Sl}
theorem RKs.mono (e : Le Hc Hc') {v : List (Key × V)} {d : List (Key × D)} (h : RKs K Hc v d) : RKs K Hc' v d := by
  refine L2.Paired.mapP h fun p q z => ⟨z.1, z.2.mono e⟩
theorem HotL.mono {a : Addr} {xs : List D} (h : HotL K P Hc H a xs) (e : Le Hc Hc') (f : Le (nb P.g H) (nb P.g H')) : HotL K P Hc' H' a xs := by
  obtain ⟨vs, h1, h2, h3, h4, h5⟩ := h
  exact ⟨vs, (nb_some (f _ _ (nb_of h3 h1))).2, h2, h3, h4.mono e, h5⟩
theorem HotD.mono {a : Addr} {xs : List (Key × D)} (h : HotD K P Hc H a xs) (e : Le Hc Hc') (f : Le (nb P.g H) (nb P.g H')) : HotD K P Hc' H' a xs := by
  obtain ⟨vs, h1, h2, h3, h4⟩ := h
  exact ⟨vs, (nb_some (f _ _ (nb_of h3 h1))).2, h2, h3, h4.mono e⟩
theorem RVw.held {σ' : L2.St} {δ' : List Sl} {v : V} {w : W} (h : RVw K P Hc H σ δ v w) (e : Le Hc Hc') (f : Le (nb P.g H) (nb P.g H')) : RVw K P Hc' H' σ' δ' v (held w) := by
  cases w with
  | d x => exact RV.mono e h
  | bag => exact h
  | op u => exact h
  | hot xs => obtain ⟨a, h1, h2⟩ := h; exact ⟨a, h1, h2.mono e f⟩
  | hotd xs => obtain ⟨a, h1, h2⟩ := h; exact ⟨a, h1, h2.mono e f⟩
  | new xs => obtain ⟨a, h1, _, h2, _⟩ := h; exact ⟨a, h1, h2.mono e f⟩
  | newd xs => obtain ⟨a, h1, _, h2, _⟩ := h; exact ⟨a, h1, h2.mono e f⟩
  | brw x => exact RV.mono (allH_mono e f) h
theorem RW.free (R : RW K P Hc H σ δ) {p : Addr} (h : H p = none) : Hc p = none ∧ P.F p = none ∧ P.g ≠ some p := by
  have hg : P.g ≠ some p := fun e => by
    obtain ⟨⟨b0, b1, b2, cs, h1, _⟩, _⟩ := R.bag p e
    rw [h] at h1
    cases h1
  refine ⟨?_, ?_, hg⟩
  · cases q : Hc p with
    | none => rfl
    | some o =>
      have z := (nb_some (R.cold p o q)).2
      rw [h] at z
      cases z
  · cases q : P.F p with
    | none => rfl
    | some o =>
      have z := (nb_some (R.old p o (nb_of hg q))).2
      rw [h] at z
      cases z
theorem nb_new {g : Option Addr} {p : Addr} {o : HO} (h : H p = none) : Le (nb g H) (nb g (upd H p o)) := fun b u e => by
  obtain ⟨e1, e2⟩ := nb_some e
  refine nb_of e1 ?_
  rw [upd_ne (fun z => by rw [z, h] at e2; cases e2)]
  exact e2
theorem le_new {p : Addr} {o : HO} (h : H p = none) : Le H (upd H p o) := fun b u e => by
  rw [upd_ne (fun z => by rw [z, h] at e; cases e)]
  exact e
theorem BagAt.grow {g r : Addr} (b : BagAt g r H) (h1 : ∀ o, H g = some o → H' g = some o) (h2 : ∀ o, H r = some o → H' r = some o) : BagAt g r H' := by
  obtain ⟨b0, b1, b2, cs, e1, e2, e3⟩ := b
  exact ⟨b0, b1, b2, cs, h1 _ e1, h2 _ e2, e3⟩
theorem BagOk.new {g : Option Addr} {r p : Addr} {o : HO} (b : BagOk g r Hc H) (h : H p = none) (e : Le Hc Hc') : BagOk g r Hc' (upd H p o) := fun a ha => by
  obtain ⟨hb, u, hu⟩ := b a ha
  exact ⟨hb.grow (fun o h' => le_new h _ _ h') (fun o h' => le_new h _ _ h'), u, e _ _ hu⟩
theorem RSl.grow {o : Option (Option V)} {s : Sl} (h : RSl K P Hc H o s) (e : Le Hc Hc') (f : Le (nb P.g H) (nb P.g H')) (n : ∀ a, s.hot = true → o = some (some (.ref a)) → Hc a = none → Hc' a = none) : RSl K P Hc' H' o s := by
  cases s with
  | un => trivial
  | w x =>
    cases x with
    | d x => obtain ⟨v, h1, h2⟩ := h; exact ⟨v, h1, h2.mono e⟩
    | bag => exact h
    | op v => exact h
    | hot xs => exact h
    | hotd xs => exact h
    | new xs => exact h
    | newd xs => exact h
    | brw xs => exact h
  | hl xs => obtain ⟨a, h1, h2, h3⟩ := h; exact ⟨a, h1, n a rfl h1 h2, h3.mono e f⟩
  | hd xs => obtain ⟨a, h1, h2, h3⟩ := h; exact ⟨a, h1, n a rfl h1 h2, h3.mono e f⟩
/-- a new object that nobody knows yet -/
theorem RW.newO {p : Addr} {o : HO} (R : RW K P Hc H σ δ) (h : H p = none) : RW K P Hc (upd H p o) σ δ :=
  ⟨R.base, R.fresh, R.cold.trans (nb_new h), R.old.trans (nb_new h), R.bag.new h (Le.refl _), R.len, fun i s e => (R.sl i s e).grow (Le.refl _) (nb_new h) (fun _ _ _ z => z), R.apart, fun p hp => ⟨(R.gst p hp).1.grow (Le.refl _) (nb_new h) (fun _ _ _ z => z), (R.gst p hp).2⟩⟩
theorem RSl.hotH {a : Addr} {o : Option (Option V)} {s : Sl} (h : RSl K P Hc H o s) (hs : s.hot = true) (e : o = some (some (.ref a))) : Hc a = none ∧ (∃ u, H a = some u) ∧ P.F a = none ∧ P.g ≠ some a := by
  cases s with
  | un => cases hs
  | w x => cases hs
  | hl xs =>
    obtain ⟨b, h1, h2, vs, h3, h4, h5, _⟩ := h
    rw [e] at h1
    cases h1
    exact ⟨h2, ⟨_, h3⟩, h4, h5⟩
  | hd xs =>
    obtain ⟨b, h1, h2, vs, h3, h4, h5, _⟩ := h
    rw [e] at h1
    cases h1
    exact ⟨h2, ⟨_, h3⟩, h4, h5⟩
/-- a new object becomes cold -/
theorem RW.chill {p : Addr} {o : HO} (R : RW K P Hc H σ δ) (h : Hc p = none) (hp : H p = some o) (hF : P.F p = none) (hg : P.g ≠ some p) (hn : Apart P σ δ p) : RW K P (upd Hc p o) H σ δ := by
  refine ⟨R.base.trans (le_new h), fun b u e => ?_, fun b u e => ?_, R.old, fun a ha => ?_, R.len, fun i s e => ?_, R.apart, fun q hq => ⟨(R.gst q hq).1.grow (le_new h) (Le.refl _) (fun a hs ea hc => ?_), (R.gst q hq).2⟩⟩
  · by_cases hb : b = p
    · rw [hb]
      exact .inr hF
    · rw [upd_ne hb] at e
      exact R.fresh b u e
  · by_cases hb : b = p
    · subst hb
      rw [upd_same] at e
      cases e
      exact nb_of hg hp
    · rw [upd_ne hb] at e
      exact R.cold b u e
  · obtain ⟨hb, u, hu⟩ := R.bag a ha
    exact ⟨hb, u, le_new h _ _ hu⟩
  · refine (R.sl i s e).grow (le_new h) (Le.refl _) fun a hs ea hc => ?_
    rw [upd_ne (fun z => hn.1 i ⟨s, e, hs⟩ (by rw [ea, z]))]
    exact hc
  · cases ea
    rw [upd_ne (hn.2 q hq)]
    exact hc
theorem RW.new_apart {p : Addr} (R : RW K P Hc H σ δ) (h : H p = none) : Apart P σ δ p := by
  refine ⟨fun i ⟨s, e, hs⟩ z => ?_, fun q hq z => ?_⟩
  · obtain ⟨_, ⟨u, hu⟩, _⟩ := (R.sl i s e).hotH hs z
    rw [h] at hu
    cases hu
  · obtain ⟨h1, h2, _⟩ := R.gst q hq
    obtain ⟨_, ⟨u, hu⟩, _⟩ := h1.hotH h2 rfl
    rw [z, h] at hu
    cases hu
theorem RW.newC {p : Addr} {o : HO} (R : RW K P Hc H σ δ) (h : H p = none) : RW K P (upd Hc p o) (upd H p o) σ δ := by
  obtain ⟨h1, h2, h3⟩ := R.free h
  exact (R.newO h).chill h1 upd_same h2 h3 (R.new_apart h)
end

/-! ### readings over data -/
abbrev TP := List Sl → (W → Prop) → Prop
abbrev TPt := List Sl → (Bool → Prop) → Prop
abbrev TPa := List Sl → (List W → Prop) → Prop
def Post (K : PySem.W.Frag) (P : Pm) (Hc H : Hp) (σ : L2.St) (δ : List Sl) (q : W → Prop) (Q : VK) : Prop :=
  ∀ Hc' H' v w, Le Hc Hc' → Le (nb P.g H) (nb P.g H') → RW K P Hc' H' σ δ → RVw K P Hc' H' σ δ v w → q w → Q v H'
def PostT (K : PySem.W.Frag) (P : Pm) (Hc H : Hp) (σ : L2.St) (δ : List Sl) (q : Bool → Prop) (Q : Bool → Hp → Prop) : Prop :=
  ∀ Hc' H' b, Le Hc Hc' → Le (nb P.g H) (nb P.g H') → RW K P Hc' H' σ δ → q b → Q b H'
inductive RVa (K : PySem.W.Frag) (P : Pm) (Hc H : Hp) (σ : L2.St) (δ : List Sl) : List V → List W → Prop
  | nil : RVa K P Hc H σ δ [] []
  | cons {v : V} {w : W} {vs : List V} {ws : List W} : RVw K P Hc H σ δ v w → RVa K P Hc H σ δ vs ws → RVa K P Hc H σ δ (v :: vs) (w :: ws)
def PostA (K : PySem.W.Frag) (P : Pm) (Hc H : Hp) (σ : L2.St) (δ : List Sl) (q : List W → Prop) (Q : List V → Hp → Prop) : Prop :=
  ∀ Hc' H' v w, Le Hc Hc' → Le (nb P.g H) (nb P.g H') → RW K P Hc' H' σ δ → RVa K P Hc' H' σ δ v w → q w → Q v H'
def lft (K : PySem.W.Frag) (t : TP) : TE := fun σ H Q => ∃ P Hc δ q, RW K P Hc H σ δ ∧ t δ q ∧ Post K P Hc H σ δ q Q
def lftT (K : PySem.W.Frag) (t : TPt) : TT := fun σ H Q => ∃ P Hc δ q, RW K P Hc H σ δ ∧ t δ q ∧ PostT K P Hc H σ δ q Q
def lftA (K : PySem.W.Frag) (t : TPa) : TA := fun σ H Q => ∃ P Hc δ q, RW K P Hc H σ δ ∧ t δ q ∧ PostA K P Hc H σ δ q Q
/-- the judgements -/
def ZE (X : Cx) (e : Expr) (t : TP) : Prop := PE X e (lft X.K t)
def ZT (X : Cx) (e : Expr) (t : TPt) : Prop := PT X e (lftT X.K t)
def ZA (X : Cx) (es : List Expr) (t : TPa) : Prop := PA X es (lftA X.K t)
theorem pe_imp {X : Cx} {e : Expr} {t t' : TE} (h : PE X e t) (i : ∀ σ H Q, t' σ H Q → t σ H Q) : PE X e t' := ⟨fun pins s σ H Q I q => h.run pins s σ H Q I (i σ H Q q)⟩
theorem pt_imp {X : Cx} {e : Expr} {t t' : TT} (h : PT X e t) (i : ∀ σ H Q, t' σ H Q → t σ H Q) : PT X e t' := ⟨fun pins s σ H Q I q => h.run pins s σ H Q I (i σ H Q q)⟩
theorem pa_imp {X : Cx} {e : List Expr} {t t' : TA} (h : PA X e t) (i : ∀ σ H Q, t' σ H Q → t σ H Q) : PA X e t' := ⟨fun pos pins s σ H Q I q => h.run pos pins s σ H Q I (i σ H Q q)⟩
theorem ps_imp {X : Cx} {e : Stmt} {t t' : TS} (h : PS X e t) (i : ∀ D σ H, t' D σ H → t D σ H) : PS X e t' := ⟨fun pins s σ H D I q => h.run pins s σ H D I (i D σ H q)⟩
theorem pss_imp {X : Cx} {e : List Stmt} {t t' : TS} (h : PSs X e t) (i : ∀ D σ H, t' D σ H → t D σ H) : PSs X e t' := ⟨fun pins s σ H D I q => h.run pins s σ H D I (i D σ H q)⟩
section
variable {K : PySem.W.Frag} {P : Pm} {Hc H Hc' H' : Hp} {σ : L2.St} {δ : List Sl}
theorem Post.at {q : W → Prop} {Q : VK} (h : Post K P Hc H σ δ q Q) (R : RW K P Hc H σ δ) {v : V} {w : W} (r : RVw K P Hc H σ δ v w) (hq : q w) : Q v H := h Hc H v w (Le.refl _) (Le.refl _) R r hq
theorem Post.mono {q : W → Prop} {Q : VK} (h : Post K P Hc H σ δ q Q) (e : Le Hc Hc') (f : Le (nb P.g H) (nb P.g H')) : Post K P Hc' H' σ δ q Q := fun Hc2 H2 v w e2 f2 => h Hc2 H2 v w (e.trans e2) (f.trans f2)
theorem PostA.mono {q : List W → Prop} {Q : List V → Hp → Prop} (h : PostA K P Hc H σ δ q Q) (e : Le Hc Hc') (f : Le (nb P.g H) (nb P.g H')) : PostA K P Hc' H' σ δ q Q := fun Hc2 H2 v w e2 f2 => h Hc2 H2 v w (e.trans e2) (f.trans f2)
theorem PostT.mono {q : Bool → Prop} {Q : Bool → Hp → Prop} (h : PostT K P Hc H σ δ q Q) (e : Le Hc Hc') (f : Le (nb P.g H) (nb P.g H')) : PostT K P Hc' H' σ δ q Q := fun Hc2 H2 v e2 f2 => h Hc2 H2 v (e.trans e2) (f.trans f2)
/-- what an operation asks of values, told over data: it is enough for what the layer asks -/
def Un1 (K : PySem.W.Frag) (r : W → (W → Prop) → Prop) (R : V → Hp → VK → Prop) : Prop :=
  ∀ P Hc H σ δ v w q Q, RW K P Hc H σ δ → RVw K P Hc H σ δ v w → r w q → Post K P Hc H σ δ q Q → R v H Q
def Bi2 (K : PySem.W.Frag) (r : W → W → (W → Prop) → Prop) (R : V → V → Hp → VK → Prop) : Prop :=
  ∀ P Hc H σ δ v u w x q Q, RW K P Hc H σ δ → RVw K P Hc H σ δ v w → RVw K P Hc H σ δ u x → r w x q → Post K P Hc H σ δ q Q → R v u H Q
def Ar1 (K : PySem.W.Frag) (r : List W → (W → Prop) → Prop) (R : List V → Hp → VK → Prop) : Prop :=
  ∀ P Hc H σ δ v w q Q, RW K P Hc H σ δ → RVa K P Hc H σ δ v w → r w q → Post K P Hc H σ δ q Q → R v H Q
def uZ (t : TP) (r : W → (W → Prop) → Prop) : TP := fun δ q => t δ fun w => r w q
def bZ (ta tb : TP) (r : W → W → (W → Prop) → Prop) : TP := fun δ q => ta δ fun w => tb δ fun x => r (held w) x q
def aZ (t : TPa) (r : List W → (W → Prop) → Prop) : TP := fun δ q => t δ fun w => r w q
theorem lft_un {t : TP} {r : W → (W → Prop) → Prop} {R : V → Hp → VK → Prop} (h : Un1 K r R) {Q : VK} (z : lft K (uZ t r) σ H Q) : lft K t σ H fun x H1 => R x H1 Q := by
  obtain ⟨P, Hc, δ, q, rw, ht, post⟩ := z
  exact ⟨P, Hc, δ, _, rw, ht, fun Hc' H' v w e f rw' rv hr => h P Hc' H' σ δ v w q Q rw' rv hr (post.mono e f)⟩
theorem lft_bin {ta tb : TP} {r : W → W → (W → Prop) → Prop} {R : V → V → Hp → VK → Prop} (h : Bi2 K r R) {Q : VK} (z : lft K (bZ ta tb r) σ H Q) : lft K ta σ H fun x H1 => lft K tb σ H1 fun y H2 => R x y H2 Q := by
  obtain ⟨P, Hc, δ, q, rw, ht, post⟩ := z
  refine ⟨P, Hc, δ, _, rw, ht, fun Hc' H' v w e f rw' rv hr => ⟨P, Hc', δ, _, rw', hr, fun Hc2 H2 u x e2 f2 rw2 ru hr2 => ?_⟩⟩
  exact h P Hc2 H2 σ δ v u (held w) x q Q rw2 (rv.held e2 f2) ru hr2 (post.mono (e.trans e2) (f.trans f2))
theorem lft_ar {t : TPa} {r : List W → (W → Prop) → Prop} {R : List V → Hp → VK → Prop} (h : Ar1 K r R) {Q : VK} (z : lft K (aZ t r) σ H Q) : lftA K t σ H fun x H1 => R x H1 Q := by
  obtain ⟨P, Hc, δ, q, rw, ht, post⟩ := z
  exact ⟨P, Hc, δ, _, rw, ht, fun Hc' H' v w e f rw' rv hr => h P Hc' H' σ δ v w q Q rw' rv hr (post.mono e f)⟩
end
end Zl
end
section
set_option maxHeartbeats 1000000
namespace Zl
open PySem PySem.Spec PyProof.Rows L2
/-! ### what stands where -/
section
variable {K : PySem.W.Frag} {P : Pm} {Hc H Hc' H' : Hp} {σ : L2.St} {δ : List Sl} {v : V}
theorem RVw.int {i : Int} (h : RVw K P Hc H σ δ v (.d (.int i))) : v = .int i := by
  have z : RV K Hc v (.int i) := h
  cases z
  rfl
theorem RVw.bool {i : Bool} (h : RVw K P Hc H σ δ v (.d (.bool i))) : v = .bl i := by
  have z : RV K Hc v (.bool i) := h
  cases z
  rfl
theorem RVw.str {i : Str} (h : RVw K P Hc H σ δ v (.d (.str i))) : v = .str i := by
  have z : RV K Hc v (.str i) := h
  cases z
  rfl
theorem RVw.non (h : RVw K P Hc H σ δ v (.d .none)) : v = .non := by
  have z : RV K Hc v .none := h
  cases z
  rfl
theorem RVw.tup {xs : List D} (R : RW K P Hc H σ δ) (h : RVw K P Hc H σ δ v (.d (.tuple xs))) : ∃ a vs, v = .ref a ∧ H a = some (.tup vs) ∧ Hc a = some (.tup vs) ∧ RVs K Hc vs xs ∧ xs.length ≤ sizeLine := by
  have z : RV K Hc v (.tuple xs) := h
  cases z with
  | tup h1 hz h2 => exact ⟨_, _, rfl, (nb_some (R.cold _ _ h1)).2, h1, h2, hz⟩
theorem RW.coldH (R : RW K P Hc H σ δ) : Le Hc H := R.cold.trans fun b o e => (nb_some e).2
/-- the items of a list, whoever has it -/
def lstW : W → Option (List D)
  | .d (.list xs) => some xs
  | .hot xs => some xs
  | .new xs => some xs
  | _ => none
def seqW : W → Option (List D)
  | .d (.tuple xs) => some xs
  | .d (.list xs) => some xs
  | .hot xs => some xs
  | .new xs => some xs
  | _ => none
theorem RVw.lst {w : W} {xs : List D} (R : RW K P Hc H σ δ) (h : RVw K P Hc H σ δ v w) (e : lstW w = some xs) : ∃ a vs, v = .ref a ∧ H a = some (.lst vs) ∧ RVs K Hc vs xs ∧ xs.length ≤ sizeLine := by
  cases w with
  | d x =>
    cases x with
    | list ys =>
      cases e
      have z : RV K Hc v (.list xs) := h
      cases z with
      | lst h1 hz h2 => exact ⟨_, _, rfl, R.coldH _ _ h1, h2, hz⟩
    | _ => cases e
  | hot ys =>
    cases e
    obtain ⟨a, h1, vs, h2, _, _, h3, hz⟩ := h
    exact ⟨a, vs, h1, h2, h3, hz⟩
  | new ys =>
    cases e
    obtain ⟨a, h1, _, ⟨vs, h2, _, _, h3, hz⟩, _⟩ := h
    exact ⟨a, vs, h1, h2, h3, hz⟩
  | _ => cases e
theorem RVw.seq {w : W} {xs : List D} (R : RW K P Hc H σ δ) (h : RVw K P Hc H σ δ v w) (e : seqW w = some xs) : ∃ a vs, v = .ref a ∧ (SqL K H a vs ∨ SqT K H a vs) ∧ RVs K Hc vs xs ∧ xs.length ≤ sizeLine := by
  have L : lstW w = some xs → ∃ a vs, v = .ref a ∧ (SqL K H a vs ∨ SqT K H a vs) ∧ RVs K Hc vs xs ∧ xs.length ≤ sizeLine := fun e' => by
    obtain ⟨a, vs, h1, h2, h3⟩ := h.lst R e'
    exact ⟨a, vs, h1, .inl (SqL.of h2), h3⟩
  cases w with
  | d x =>
    cases x with
    | tuple ys =>
      cases e
      obtain ⟨a, vs, h1, h2, _, h3⟩ := RVw.tup R h
      exact ⟨a, vs, h1, .inr (SqT.of h2), h3⟩
    | list ys => exact L e
    | _ => cases e
  | hot ys => exact L e
  | new ys => exact L e
  | _ => cases e
/-- a new value, told to all: it becomes cold -/
def frz : W → W
  | .new xs => .d (.list xs)
  | .newd xs => .d (.dict (xs.map fun p => (keyD p.1, p.2)))
  | x => x
theorem RKs.d : ∀ {v : List (Key × V)} {d : List (Key × D)}, RKs K Hc v d → RVd K Hc v (d.map fun p => (keyD p.1, p.2))
  | _, _, .nil => .nil
  | (k, u) :: vs, (k', d) :: ds, .cons ⟨h1, h2⟩ t => by
    have h1 : k = k' := h1
    subst h1
    exact .cons h2 (RKs.d t)
theorem RVw.frz {w : W} (R : RW K P Hc H σ δ) (h : RVw K P Hc H σ δ v w) : ∃ Hc', Le Hc Hc' ∧ RW K P Hc' H σ δ ∧ RVw K P Hc' H σ δ v (frz w) := by
  cases w with
  | new xs =>
    obtain ⟨a, h1, h2, ⟨vs, h3, h4, h5, h6, hz⟩, h7⟩ := h
    subst h1
    exact ⟨upd Hc a (.lst vs), le_new h2, R.chill h2 h3 h4 h5 h7, RV.lst upd_same hz (h6.mono (le_new h2))⟩
  | newd xs =>
    obtain ⟨a, h1, h2, ⟨vs, h3, h4, h5, h6⟩, h7⟩ := h
    subst h1
    exact ⟨upd Hc a (.dK vs), le_new h2, R.chill h2 h3 h4 h5 h7, RV.dct (.inl upd_same) (RKs.d (h6.mono (le_new h2)))⟩
  | d x => exact ⟨Hc, Le.refl _, R, h⟩
  | bag => exact ⟨Hc, Le.refl _, R, h⟩
  | op u => exact ⟨Hc, Le.refl _, R, h⟩
  | hot u => exact ⟨Hc, Le.refl _, R, h⟩
  | hotd u => exact ⟨Hc, Le.refl _, R, h⟩
  | brw u => exact ⟨Hc, Le.refl _, R, h⟩
end
/-! ### names and constants -/
section
variable {X : Cx}
def Sl.rd : Sl → (W → Prop) → Prop
  | .un => fun _ => False
  | .w x => fun q => q x
  | .hl xs => fun q => q (.hot xs)
  | .hd xs => fun q => q (.hotd xs)
def zVar (i : Nat) : TP := fun δ q => match δ[i]? with
  | some s => s.rd q
  | none => False
def zC (d : D) : TP := fun _ q => q (.d d)
theorem zv (i : Nat) {x : Str} {pos : Pos} (hN : X.N[i]? = some x := by rfl) (hv : Vis X.env.scope x := by first | exact Or.inl rfl | exact Or.inr (Or.inl rfl) | exact Or.inr (Or.inr rfl)) (hd : (x == ("__debug__" : Str)) = false := by decide)
    (hcd : (x == ("__classdict__" : Str)) = false := by decide) : ZE X (.Name x pos) (zVar i) := by
  refine pe_imp (pe_var hN hv hd hcd) fun σ H Q => ?_
  rintro ⟨P, Hc, δ, q, R, ht, post⟩
  unfold zVar at ht
  cases e : δ[i]? with
  | none => rw [e] at ht; exact ht.elim
  | some s =>
    rw [e] at ht
    have hs := R.sl i s e
    cases s with
    | un => exact ht.elim
    | w x =>
      cases x with
      | d y =>
        obtain ⟨v, h1, h2⟩ := hs
        exact ⟨v, h1, post.at R (w := .d y) h2 ht⟩
      | bag =>
        obtain ⟨a, h1, h2⟩ := hs
        exact ⟨_, h2, post.at R (w := .bag) ⟨a, h1, rfl⟩ ht⟩
      | op v => exact ⟨v, hs, post.at R (w := .op v) rfl ht⟩
      | hot xs => exact hs.elim
      | hotd xs => exact hs.elim
      | new xs => exact hs.elim
      | newd xs => exact hs.elim
      | brw xs => exact hs.elim
    | hl xs =>
      obtain ⟨a, h1, _, h2⟩ := hs
      exact ⟨_, h1, post.at R (w := .hot xs) ⟨a, rfl, h2⟩ ht⟩
    | hd xs =>
      obtain ⟨a, h1, _, h2⟩ := hs
      exact ⟨_, h1, post.at R (w := .hotd xs) ⟨a, rfl, h2⟩ ht⟩
theorem zC_of {e : Expr} {v : V} {d : D} (h : PE X e (tC v)) (r : ∀ H, RV X.K H v d) : ZE X e (zC d) := by
  refine pe_imp h fun σ H Q => ?_
  rintro ⟨P, Hc, δ, q, R, ht, post⟩
  exact post.at R (w := .d d) (r Hc) ht
theorem zint {i : Int} {j pos} : ZE X (.Constant (.int i) j pos) (zC (.int i)) := zC_of pe_int fun _ => .int i
theorem zbl {b : Bool} {j pos} : ZE X (.Constant (.bool b) j pos) (zC (.bool b)) := zC_of pe_bl fun _ => .bl b
theorem znon {j pos} : ZE X (.Constant .none j pos) (zC .none) := zC_of pe_non fun _ => .non
theorem zstr {x : Str} {j pos} : ZE X (.Constant (.str x) j pos) (zC (.str x)) := zC_of pe_str fun _ => .str x
/-- a new list or dict among data -/
theorem zfz {e : Expr} {t : TP} (h : ZE X e t) : ZE X e (fun δ q => t δ fun w => q (frz w)) := by
  refine pe_imp h fun σ H Q => ?_
  rintro ⟨P, Hc, δ, q, R, ht, post⟩
  refine ⟨P, Hc, δ, _, R, ht, fun Hc' H' v w e f R' rv hq => ?_⟩
  obtain ⟨Hc2, e2, R2, rv2⟩ := rv.frz R'
  exact post Hc2 H' v _ (e.trans e2) f R2 rv2 hq
end
/-! ### operators -/
section
variable {X : Cx} {K : PySem.W.Frag} {a b : Expr} {ta tb : TP} {pos : Pos}
theorem z_op {op : Operator} {r : R2} {rz : W → W → (W → Prop) → Prop} (ho : OpR X (binaryOp op) r) (hz : Bi2 X.K rz r) (ha : ZE X a ta) (hb : ZE X b tb) : ZE X (.BinOp a op b pos) (bZ ta tb rz) :=
  pe_imp (pe_op ho ha hb) fun _ _ _ => lft_bin hz
theorem z_cmpR {op : CmpOp} {r : R2} {rz : W → W → (W → Prop) → Prop} (ho : OpR X (compareOp op) r) (hz : Bi2 X.K rz r) (ha : ZE X a ta) (hb : ZE X b tb) (hm : behindInMarks op b = false) : ZE X (.Compare a [op] [b] pos) (bZ ta tb rz) :=
  pe_imp (pe_cmpR ho ha hb hm) fun _ _ _ => lft_bin hz
theorem z_un {op : UnaryOp} {r : V → Hp → VK → Prop} {rz : W → (W → Prop) → Prop} (ho : UnR X (unaryOp op) r) (hz : Un1 X.K rz r) (ha : ZE X a ta) : ZE X (.UnaryOp op a pos) (uZ ta rz) :=
  pe_imp (pe_un ho ha) fun _ _ _ => lft_un hz
/-- two ints -/
def ri (g : Int → Int → D) : W → W → (W → Prop) → Prop := fun x y q => match x, y with
  | .d (.int i), .d (.int j) => q (.d (g i j))
  | _, _ => False
def riC (C : Int → Int → Prop) (g : Int → Int → D) : W → W → (W → Prop) → Prop := fun x y q => match x, y with
  | .d (.int i), .d (.int j) => C i j ∧ q (.d (g i j))
  | _, _ => False
theorem ri_inv {g : Int → Int → D} {x y : W} {q : W → Prop} (h : ri g x y q) : ∃ i j, x = .d (.int i) ∧ y = .d (.int j) ∧ q (.d (g i j)) := by
  unfold ri at h
  split at h
  · exact ⟨_, _, rfl, rfl, h⟩
  · exact h.elim
theorem riC_inv {C : Int → Int → Prop} {g : Int → Int → D} {x y : W} {q : W → Prop} (h : riC C g x y q) : ∃ i j, x = .d (.int i) ∧ y = .d (.int j) ∧ C i j ∧ q (.d (g i j)) := by
  unfold riC at h
  split at h
  · exact ⟨_, _, rfl, rfl, h⟩
  · exact h.elim
theorem bi_i {g : Int → Int → V} {gd : Int → Int → D} (hg : ∀ H i j, RV K H (g i j) (gd i j)) : Bi2 K (ri gd) (rI0 g) := by
  intro P Hc H σ δ v u w x q Q R rv ru hr post
  obtain ⟨i, j, rfl, rfl, hq⟩ := ri_inv hr
  exact ⟨i, j, rv.int, ru.int, post.at R (w := .d (gd i j)) (hg Hc i j) hq⟩
theorem bi_iC {C : Int → Int → Prop} {g : Int → Int → V} {gd : Int → Int → D} (hg : ∀ H i j, RV K H (g i j) (gd i j)) : Bi2 K (riC C gd) (rI C g) := by
  intro P Hc H σ δ v u w x q Q R rv ru hr post
  obtain ⟨i, j, rfl, rfl, hc, hq⟩ := riC_inv hr
  exact ⟨i, j, rv.int, ru.int, hc, post.at R (w := .d (gd i j)) (hg Hc i j) hq⟩
theorem z_add (ha : ZE X a ta) (hb : ZE X b tb) : ZE X (.BinOp a .Add b pos) (bZ ta tb (ri fun i j => .int (i + j))) := z_op op_add (bi_i fun _ _ _ => .int _) ha hb
theorem z_sub (ha : ZE X a ta) (hb : ZE X b tb) : ZE X (.BinOp a .Sub b pos) (bZ ta tb (ri fun i j => .int (i - j))) := z_op op_sub (bi_i fun _ _ _ => .int _) ha hb
theorem z_mul (ha : ZE X a ta) (hb : ZE X b tb) : ZE X (.BinOp a .Mult b pos) (bZ ta tb (riC CMul fun i j => .int (i * j))) := z_op op_mul (bi_iC fun _ _ _ => .int _) ha hb
theorem z_fdiv (ha : ZE X a ta) (hb : ZE X b tb) : ZE X (.BinOp a .FloorDiv b pos) (bZ ta tb (riC CDiv fun i j => .int (i / j))) := z_op op_fdiv (bi_iC fun _ _ _ => .int _) ha hb
theorem z_mod (ha : ZE X a ta) (hb : ZE X b tb) : ZE X (.BinOp a .Mod b pos) (bZ ta tb (riC (fun _ j => 0 < j) fun i j => .int (i % j))) := z_op op_mod (bi_iC fun _ _ _ => .int _) ha hb
theorem z_pow (ha : ZE X a ta) (hb : ZE X b tb) : ZE X (.BinOp a .Pow b pos) (bZ ta tb (riC CPow fun i j => .int (i ^ j.toNat))) := z_op op_pow (bi_iC fun _ _ _ => .int _) ha hb
theorem z_lt (ha : ZE X a ta) (hb : ZE X b tb) (hm : behindInMarks .Lt b = false) : ZE X (.Compare a [.Lt] [b] pos) (bZ ta tb (ri fun i j => .bool (decide (i < j)))) := z_cmpR op_lt (bi_i fun _ _ _ => .bl _) ha hb hm
theorem z_le (ha : ZE X a ta) (hb : ZE X b tb) (hm : behindInMarks .LtE b = false) : ZE X (.Compare a [.LtE] [b] pos) (bZ ta tb (ri fun i j => .bool (decide (i ≤ j)))) := z_cmpR op_le (bi_i fun _ _ _ => .bl _) ha hb hm
theorem z_gt (ha : ZE X a ta) (hb : ZE X b tb) (hm : behindInMarks .Gt b = false) : ZE X (.Compare a [.Gt] [b] pos) (bZ ta tb (ri fun i j => .bool (decide (j < i)))) := z_cmpR op_gt (bi_i fun _ _ _ => .bl _) ha hb hm
theorem z_ge (ha : ZE X a ta) (hb : ZE X b tb) (hm : behindInMarks .GtE b = false) : ZE X (.Compare a [.GtE] [b] pos) (bZ ta tb (ri fun i j => .bool (decide (j ≤ i)))) := z_cmpR op_ge (bi_i fun _ _ _ => .bl _) ha hb hm
def rNeg : W → (W → Prop) → Prop := fun x q => match x with
  | .d (.int i) => q (.d (.int (-i)))
  | _ => False
theorem z_neg (ha : ZE X a ta) : ZE X (.UnaryOp .USub a pos) (uZ ta rNeg) := z_un un_neg (fun P Hc H σ δ v w q Q R rv hr post => by
  unfold rNeg at hr
  split at hr
  · exact ⟨_, rv.int, post.at R (w := .d (.int _)) (RV.int _) hr⟩
  · exact hr.elim) ha
/-- is None: of any value -/
def isNn : W → Bool
  | .d .none => true
  | .op v => decide (v = .non)
  | .brw .none => true
  | _ => false
theorem isNn_ok {P : Pm} {Hc H : Hp} {σ : L2.St} {δ : List Sl} {v : V} {w : W} (h : RVw K P Hc H σ δ v w) : decide (v = .non) = isNn w := by
  cases w with
  | d x =>
    have z : RV K Hc v x := h
    cases z <;> first | rfl | exact decide_eq_false (fun z => nomatch z)
  | bag => obtain ⟨a, _, rfl⟩ := h; exact decide_eq_false (fun z => nomatch z)
  | op u =>
    have z : v = u := h
    subst z
    rfl
  | hot xs => obtain ⟨a, rfl, _⟩ := h; exact decide_eq_false (fun z => nomatch z)
  | hotd xs => obtain ⟨a, rfl, _⟩ := h; exact decide_eq_false (fun z => nomatch z)
  | new xs => obtain ⟨a, rfl, _⟩ := h; exact decide_eq_false (fun z => nomatch z)
  | newd xs => obtain ⟨a, rfl, _⟩ := h; exact decide_eq_false (fun z => nomatch z)
  | brw x =>
    have z : RV K (allH P Hc H) v x := h
    cases z <;> first | rfl | exact decide_eq_false (fun z => nomatch z)
def rIs : W → W → (W → Prop) → Prop := fun x y q => match y with
  | .d .none => q (.d (.bool (isNn x)))
  | _ => False
def rIsNot : W → W → (W → Prop) → Prop := fun x y q => match y with
  | .d .none => q (.d (.bool (!isNn x)))
  | _ => False
theorem z_isN (ha : ZE X a ta) (hb : ZE X b tb) (hm : behindInMarks .Is b = false) : ZE X (.Compare a [.Is] [b] pos) (bZ ta tb rIs) := z_cmpR op_isN (fun P Hc H σ δ v u w x q Q R rv ru hr post => by
  unfold rIs at hr
  split at hr
  · refine ⟨ru.non, ?_⟩
    rw [isNn_ok rv]
    exact post.at R (w := .d (.bool _)) (RV.bl _) hr
  · exact hr.elim) ha hb hm
theorem z_notN (ha : ZE X a ta) (hb : ZE X b tb) (hm : behindInMarks .IsNot b = false) : ZE X (.Compare a [.IsNot] [b] pos) (bZ ta tb rIsNot) := z_cmpR op_notN (fun P Hc H σ δ v u w x q Q R rv ru hr post => by
  unfold rIsNot at hr
  split at hr
  · refine ⟨ru.non, ?_⟩
    rw [isNn_ok rv]
    exact post.at R (w := .d (.bool _)) (RV.bl _) hr
  · exact hr.elim) ha hb hm
/-- == of ints, truths, texts, None -/
def eqS : W → W → Option Bool
  | .d (.int i), .d (.int j) => some (decide (i = j))
  | .d (.bool i), .d (.bool j) => some (decide (i = j))
  | .d (.str i), .d (.str j) => some (decide (i = j))
  | .d .none, .d .none => some true
  | .d .none, .d (.int _) => some false
  | .d (.int _), .d .none => some false
  | .d (.int _), .d (.str _) => some false
  | .d (.str _), .d (.int _) => some false
  | .d .none, .d (.str _) => some false
  | .d .none, .d (.bool _) => some false
  | .d (.bool _), .d .none => some false
  | _, _ => none
theorem eqS_ok {P : Pm} {Hc H : Hp} {σ : L2.St} {δ : List Sl} {v u : V} {w x : W} {c : Bool} (h : RVw K P Hc H σ δ v w) (h' : RVw K P Hc H σ δ u x) (e : eqS w x = some c) : scal v u = true ∧ decide (v = u) = c := by
  unfold eqS at e
  split at e
  all_goals first
    | (rw [h.int, h'.int]; injection e with e; subst e; exact ⟨rfl, by simp⟩)
    | (rw [h.bool, h'.bool]; injection e with e; subst e; exact ⟨rfl, by simp⟩)
    | (rw [h.str, h'.str]; injection e with e; subst e; exact ⟨rfl, by simp⟩)
    | (rw [h.non, h'.non]; injection e with e; subst e; exact ⟨rfl, by simp⟩)
    | (rw [h.non, h'.int]; injection e with e; subst e; exact ⟨rfl, by simp⟩)
    | (rw [h.int, h'.non]; injection e with e; subst e; exact ⟨rfl, by simp⟩)
    | (rw [h.int, h'.str]; injection e with e; subst e; exact ⟨rfl, by simp⟩)
    | (rw [h.str, h'.int]; injection e with e; subst e; exact ⟨rfl, by simp⟩)
    | (rw [h.non, h'.str]; injection e with e; subst e; exact ⟨rfl, by simp⟩)
    | (rw [h.non, h'.bool]; injection e with e; subst e; exact ⟨rfl, by simp⟩)
    | (rw [h.bool, h'.non]; injection e with e; subst e; exact ⟨rfl, by simp⟩)
    | cases e
def rEqS : W → W → (W → Prop) → Prop := fun x y q => match eqS x y with
  | some c => q (.d (.bool c))
  | none => False
def rNeS : W → W → (W → Prop) → Prop := fun x y q => match eqS x y with
  | some c => q (.d (.bool (!c)))
  | none => False
theorem z_eq (ha : ZE X a ta) (hb : ZE X b tb) (hm : behindInMarks .Eq b = false) : ZE X (.Compare a [.Eq] [b] pos) (bZ ta tb rEqS) := z_cmpR op_eq (fun P Hc H σ δ v u w x q Q R rv ru hr post => by
  unfold rEqS at hr
  cases e : eqS w x with
  | none => rw [e] at hr; exact hr.elim
  | some c =>
    rw [e] at hr
    obtain ⟨h1, h2⟩ := eqS_ok rv ru e
    refine ⟨h1, ?_⟩
    rw [h2]
    exact post.at R (w := .d (.bool _)) (RV.bl _) hr) ha hb hm
theorem z_ne (ha : ZE X a ta) (hb : ZE X b tb) (hm : behindInMarks .NotEq b = false) : ZE X (.Compare a [.NotEq] [b] pos) (bZ ta tb rNeS) := z_cmpR op_ne (fun P Hc H σ δ v u w x q Q R rv ru hr post => by
  unfold rNeS at hr
  cases e : eqS w x with
  | none => rw [e] at hr; exact hr.elim
  | some c =>
    rw [e] at hr
    obtain ⟨h1, h2⟩ := eqS_ok rv ru e
    refine ⟨h1, ?_⟩
    rw [h2]
    exact post.at R (w := .d (.bool _)) (RV.bl _) hr) ha hb hm
end
/-! ### == of data, dicts left out -/
section
variable {K : PySem.W.Frag} {H : Hp}
mutual
def noD : D → Bool
  | .dict _ => false
  | .list xs => noDs xs
  | .tuple xs => noDs xs
  | _ => true
def noDs : List D → Bool
  | [] => true
  | x :: xs => noD x && noDs xs
end
mutual
theorem RV.dp : ∀ {v : V} {d : D}, noD d = true → RV K H v d → Dp K H v d
  | _, _, _, .non => .non
  | _, _, _, .bl b => .bl b
  | _, _, _, .int i => .int i
  | _, _, _, .str x => .str x
  | _, _, n, .lst h _ t => .lst (SqL.of h) (RVs.dp (by simpa [noD] using n) t)
  | _, _, n, .tup h _ t => .tup (SqT.of h) (RVs.dp (by simpa [noD] using n) t)
  | _, _, n, .dct h t => by simp [noD] at n
theorem RVs.dp : ∀ {v : List V} {d : List D}, noDs d = true → RVs K H v d → DpAll K H v d
  | _, _, _, .nil => .nil
  | _, _, n, .cons h t => by
    simp only [noDs, Bool.and_eq_true] at n
    exact .cons (RV.dp n.1 h) (RVs.dp n.2 t)
end
/-- the data of a value, whoever has it -/
def datW : W → Option D
  | .d x => some x
  | .hot xs => some (.list xs)
  | .new xs => some (.list xs)
  | _ => none
theorem RVw.dat {P : Pm} {Hc : Hp} {σ : L2.St} {δ : List Sl} {v : V} {w : W} {d : D} (R : RW K P Hc H σ δ) (h : RVw K P Hc H σ δ v w) (e : datW w = some d) : RV K H v d := by
  cases w with
  | d x =>
    cases e
    exact RV.mono R.coldH h
  | hot xs =>
    cases e
    obtain ⟨a, rfl, vs, h1, _, _, h2, hz⟩ := h
    exact .lst h1 hz (h2.mono R.coldH)
  | new xs =>
    cases e
    obtain ⟨a, rfl, _, ⟨vs, h1, _, _, h2, hz⟩, _⟩ := h
    exact .lst h1 hz (h2.mono R.coldH)
  | _ => cases e
/-- the depth and the form that == asks of data -/
def Shp (d : D) : Prop := noD d = true ∧ SeqAt.shaped d = true
def rEqd (neg : Bool) : W → W → (W → Prop) → Prop := fun x y q => match datW x, datW y with
  | some d, some e => Shp d ∧ Shp e ∧ q (.d (.bool (neg ^^ PyData.eqv d e)))
  | _, _ => False
end
section
variable {X : Cx} {a b : Expr} {ta tb : TP} {pos : Pos}
theorem rEqd_inv {neg : Bool} {x y : W} {q : W → Prop} (h : rEqd neg x y q) : ∃ d e, datW x = some d ∧ datW y = some e ∧ Shp d ∧ Shp e ∧ q (.d (.bool (neg ^^ PyData.eqv d e))) := by
  unfold rEqd at h
  split at h
  · exact ⟨_, _, by assumption, by assumption, h⟩
  · exact h.elim
theorem z_eqD (hu : X.A.units + 64 < cLine) (ha : ZE X a ta) (hb : ZE X b tb) (hm : behindInMarks .Eq b = false) : ZE X (.Compare a [.Eq] [b] pos) (bZ ta tb (rEqd false)) := z_cmpR (op_eqD hu) (fun P Hc H σ δ v u w x q Q R rv ru hr post => by
  obtain ⟨d, e, h1, h2, s1, s2, hq⟩ := rEqd_inv hr
  refine ⟨d, e, (rv.dat R h1).dp s1.1, (ru.dat R h2).dp s2.1, s1.2, s2.2, post.at R (w := .d (.bool _)) (RV.bl _) (by simpa using hq)⟩) ha hb hm
theorem z_neD (hu : X.A.units + 64 < cLine) (ha : ZE X a ta) (hb : ZE X b tb) (hm : behindInMarks .NotEq b = false) : ZE X (.Compare a [.NotEq] [b] pos) (bZ ta tb (rEqd true)) := z_cmpR (op_neD hu) (fun P Hc H σ δ v u w x q Q R rv ru hr post => by
  obtain ⟨d, e, h1, h2, s1, s2, hq⟩ := rEqd_inv hr
  refine ⟨d, e, (rv.dat R h1).dp s1.1, (ru.dat R h2).dp s2.1, s1.2, s2.2, post.at R (w := .d (.bool _)) (RV.bl _) (by simpa using hq)⟩) ha hb hm
end
/-! ### tests -/
section
variable {X : Cx} {a b c : Expr} {ta tb : TP} {tc td : TPt} {pos : Pos}
def tbZ (t : TP) : TPt := fun δ q => t δ fun w => match w with
  | .d (.bool k) => q k
  | _ => False
theorem zt_val (h : ZE X a ta) (he : ∀ whole, isTrue a X.env whole = (do let v ← whole; standAt a.pos; holding [v] (truthy v)) := by intro _; rfl) : ZT X a (tbZ ta) := by
  refine pt_imp (pt_val h he) fun σ H Q => ?_
  rintro ⟨P, Hc, δ, q, R, ht, post⟩
  refine ⟨P, Hc, δ, _, R, ht, fun Hc' H' v w e f R' rv hq => ?_⟩
  cases w with
  | d x =>
    cases x with
    | bool k => exact ⟨k, rv.bool, post Hc' H' k e f R' hq⟩
    | _ => exact hq.elim
  | _ => exact hq.elim
def ZW (X : Cx) (e : Expr) (t : TPt) : Prop := PW X e (lftT X.K t)
def zAnd (t u : TPt) : TPt := fun δ q => t δ fun k => if k = true then u δ q else q false
def zOr (t u : TPt) : TPt := fun δ q => t δ fun k => if k = true then q true else u δ q
def zNot (t : TPt) : TPt := fun δ q => t δ fun k => q (!k)
theorem lftT_two {K : PySem.W.Frag} {σ : L2.St} {H : Hp} {Q : Bool → Hp → Prop} {t u : TPt} {f : Bool → Bool} {g : Bool → Bool} (h : lftT K (fun δ q => t δ fun k => if f k = true then u δ q else q (g k)) σ H Q) :
    lftT K t σ H fun k H1 => if f k = true then lftT K u σ H1 Q else Q (g k) H1 := by
  obtain ⟨P, Hc, δ, q, R, ht, post⟩ := h
  refine ⟨P, Hc, δ, _, R, ht, fun Hc' H' k e f' R' hq => ?_⟩
  by_cases hk : f k = true
  · rw [if_pos hk] at hq ⊢
    exact ⟨P, Hc', δ, q, R', hq, post.mono e f'⟩
  · rw [if_neg hk] at hq ⊢
    exact post Hc' H' _ e f' R' hq
theorem zw_and {rest : List Expr} (ha : ZT X a tc) (hb : ZW X (.BoolOp .And (b :: rest) pos) td) : ZW X (.BoolOp .And (a :: b :: rest) pos) (zAnd tc td) := by
  refine ⟨fun whole pins s σ H Q I h => (pw_and ha hb).run whole pins s σ H Q I ?_⟩
  obtain ⟨P, Hc, δ, q, R, ht, post⟩ := h
  refine ⟨P, Hc, δ, _, R, ht, fun Hc' H' k e f' R' hq => ?_⟩
  cases k with
  | true => exact ⟨P, Hc', δ, q, R', hq, post.mono e f'⟩
  | false => exact post Hc' H' _ e f' R' hq
theorem zw_or {rest : List Expr} (ha : ZT X a tc) (hb : ZW X (.BoolOp .Or (b :: rest) pos) td) : ZW X (.BoolOp .Or (a :: b :: rest) pos) (zOr tc td) := by
  refine ⟨fun whole pins s σ H Q I h => (pw_or ha hb).run whole pins s σ H Q I ?_⟩
  obtain ⟨P, Hc, δ, q, R, ht, post⟩ := h
  refine ⟨P, Hc, δ, _, R, ht, fun Hc' H' k e f' R' hq => ?_⟩
  cases k with
  | false => exact ⟨P, Hc', δ, q, R', hq, post.mono e f'⟩
  | true => exact post Hc' H' _ e f' R' hq
theorem zw_and1 (ha : ZT X a tc) : ZW X (.BoolOp .And [a] pos) tc := pw_and1 ha
theorem zw_or1 (ha : ZT X a tc) : ZW X (.BoolOp .Or [a] pos) tc := pw_or1 ha
theorem zt_w (h : ZW X a tc) : ZT X a tc := PW.pt h
theorem zt_not (h : ZT X a tc) : ZT X (.UnaryOp .Not a pos) (zNot tc) := by
  refine pt_imp (pt_not h) fun σ H Q => ?_
  rintro ⟨P, Hc, δ, q, R, ht, post⟩
  exact ⟨P, Hc, δ, _, R, ht, fun Hc' H' k e f' R' hq => post Hc' H' _ e f' R' hq⟩
/-- if: x if t else y -/
def zIf (t : TPt) (ta tb : TP) : TP := fun δ q => t δ fun k => if k = true then ta δ q else tb δ q
theorem z_if (hc : ZT X c tc) (ha : ZE X a ta) (hb : ZE X b tb) : ZE X (.IfExp c a b pos) (zIf tc ta tb) := by
  refine pe_imp (pe_ifExp hc ha hb) fun σ H Q => ?_
  rintro ⟨P, Hc, δ, q, R, ht, post⟩
  refine ⟨P, Hc, δ, _, R, ht, fun Hc' H' k e f' R' hq => ?_⟩
  cases k with
  | true => exact ⟨P, Hc', δ, q, R', hq, post.mono e f'⟩
  | false => exact ⟨P, Hc', δ, q, R', hq, post.mono e f'⟩
/-- and, or of truths as values -/
def zAndV (ta tb : TP) : TP := fun δ q => ta δ fun w => match w with
  | .d (.bool k) => if k = true then tb δ q else q (.d (.bool false))
  | _ => False
def zOrV (ta tb : TP) : TP := fun δ q => ta δ fun w => match w with
  | .d (.bool k) => if k = true then q (.d (.bool true)) else tb δ q
  | _ => False
theorem z_one {op : BoolOp} (h : ZE X a ta) : ZE X (.BoolOp op [a] pos) ta := pe_one h
theorem z_and {rest : List Expr} (ha : ZE X a ta) (hb : ZE X (.BoolOp .And (b :: rest) pos) tb) : ZE X (.BoolOp .And (a :: b :: rest) pos) (zAndV ta tb) := by
  refine pe_imp (pe_and ha hb) fun σ H Q => ?_
  rintro ⟨P, Hc, δ, q, R, ht, post⟩
  refine ⟨P, Hc, δ, _, R, ht, fun Hc' H' v w e f R' rv hq => ?_⟩
  cases w with
  | d x =>
    cases x with
    | bool k =>
      refine ⟨k, rv.bool, ?_⟩
      cases k with
      | true => exact ⟨P, Hc', δ, q, R', hq, post.mono e f⟩
      | false => exact post Hc' H' _ (.d (.bool false)) e f R' (RV.bl _) hq
    | _ => exact hq.elim
  | _ => exact hq.elim
theorem z_or {rest : List Expr} (ha : ZE X a ta) (hb : ZE X (.BoolOp .Or (b :: rest) pos) tb) : ZE X (.BoolOp .Or (a :: b :: rest) pos) (zOrV ta tb) := by
  refine pe_imp (pe_or ha hb) fun σ H Q => ?_
  rintro ⟨P, Hc, δ, q, R, ht, post⟩
  refine ⟨P, Hc, δ, _, R, ht, fun Hc' H' v w e f R' rv hq => ?_⟩
  cases w with
  | d x =>
    cases x with
    | bool k =>
      refine ⟨k, rv.bool, ?_⟩
      cases k with
      | false => exact ⟨P, Hc', δ, q, R', hq, post.mono e f⟩
      | true => exact post Hc' H' _ (.d (.bool true)) e f R' (RV.bl _) hq
    | _ => exact hq.elim
  | _ => exact hq.elim
def rNotV : W → (W → Prop) → Prop := fun w q => match w with
  | .d (.bool k) => q (.d (.bool (!k)))
  | _ => False
theorem z_notV (ha : ZE X a ta) : ZE X (.UnaryOp .Not a pos) (uZ ta rNotV) := by
  refine pe_imp (pe_not ha) fun σ H Q => ?_
  rintro ⟨P, Hc, δ, q, R, ht, post⟩
  refine ⟨P, Hc, δ, _, R, ht, fun Hc' H' v w e f R' rv hq => ?_⟩
  cases w with
  | d x =>
    cases x with
    | bool k => exact ⟨k, rv.bool, post Hc' H' _ (.d (.bool (!k))) e f R' (RV.bl _) hq⟩
    | _ => exact hq.elim
  | _ => exact hq.elim
/-- truth of a value -/
def truW : W → (Bool → Prop) → Prop := fun w q => match w with
  | .d .none => q false
  | .d (.bool k) => q k
  | .d (.int i) => q (i != 0)
  | .d (.tuple xs) => q (!xs.isEmpty)
  | .d (.list xs) => q (!xs.isEmpty)
  | .d (.dict xs) => q (!xs.isEmpty)
  | .hot xs => q (!xs.isEmpty)
  | .hotd xs => q (!xs.isEmpty)
  | .new xs => q (!xs.isEmpty)
  | _ => False
theorem RVs.emp {K : PySem.W.Frag} {H : Hp} {v : List V} {d : List D} (h : RVs K H v d) : v.isEmpty = d.isEmpty := by
  cases h <;> rfl
theorem RVd.emp {K : PySem.W.Frag} {H : Hp} {v : List (Key × V)} {d : List (D × D)} (h : RVd K H v d) : v.isEmpty = d.isEmpty := by
  cases h <;> rfl
theorem RKs.emp {K : PySem.W.Frag} {H : Hp} {v : List (Key × V)} {d : List (Key × D)} (h : RKs K H v d) : v.isEmpty = d.isEmpty := by
  cases h <;> rfl
/-- truth, of dicts that are walked just now, too -/
def TruZ (K : PySem.W.Frag) (x : V) (H : Hp) (k : Bool) : Prop := TruV K x H k ∨ ∃ p kvs, x = .ref p ∧ Rd H p (.dK kvs) ∧ k = !kvs.isEmpty
theorem pt_truthZ {X : Cx} {a : Expr} {ta : TE} (ha : PE X a ta) (he : ∀ whole, isTrue a X.env whole = (do let v ← whole; standAt a.pos; holding [v] (truthy v))) : PT X a (fun σ H Q => ta σ H fun x H' => ∃ k, TruZ X.K x H' k ∧ Q k H') := by
  refine ⟨fun pins s σ H Q I h => isTrue_plain (thn (ha.run pins s σ H _ I h) fun v s1 ⟨x, H1, I1, r1, k, hk, q⟩ => ?_) (he _)⟩
  rcases hk with hk | ⟨p, kvs, rfl, hk, rfl⟩
  · exact tru_ok pins s1 σ H1 x v Q I1 r1 ⟨k, hk, q⟩
  · cases r1
    exact d_truth I1 hk fun s' I' => ⟨H1, I', q⟩
theorem truW_ok {K : PySem.W.Frag} {P : Pm} {Hc H : Hp} {σ : L2.St} {δ : List Sl} {v : V} {w : W} {q : Bool → Prop} (R : RW K P Hc H σ δ) (h : RVw K P Hc H σ δ v w) (e : truW w q) : ∃ k, TruZ K v H k ∧ q k := by
  unfold truW at e
  split at e
  · rw [h.non]; exact ⟨false, .inl rfl, e⟩
  · rw [h.bool]; exact ⟨_, .inl rfl, e⟩
  · rw [h.int]; exact ⟨_, .inl rfl, e⟩
  · obtain ⟨a, vs, rfl, h1, _, h2, _⟩ := RVw.tup R h
    exact ⟨_, .inl (.inr (.inl ⟨vs, SqT.of h1, by rw [h2.emp]⟩)), e⟩
  · obtain ⟨a, vs, rfl, h1, h2, _⟩ := h.lst R rfl
    exact ⟨_, .inl (.inl ⟨vs, SqL.of h1, by rw [h2.emp]⟩), e⟩
  · have z : RV K Hc v _ := h
    cases z with
    | dct h1 h2 => exact ⟨_, .inr ⟨_, _, rfl, rd_le R.coldH h1, by rw [h2.emp]⟩, e⟩
  · obtain ⟨a, vs, rfl, h1, h2, _⟩ := h.lst R rfl
    exact ⟨_, .inl (.inl ⟨vs, SqL.of h1, by rw [h2.emp]⟩), e⟩
  · obtain ⟨a, rfl, vs, h1, _, _, h2⟩ := h
    exact ⟨_, .inr ⟨_, vs, rfl, .inl h1, by rw [h2.emp]⟩, e⟩
  · obtain ⟨a, vs, rfl, h1, h2, _⟩ := h.lst R rfl
    exact ⟨_, .inl (.inl ⟨vs, SqL.of h1, by rw [h2.emp]⟩), e⟩
  · exact e.elim
def ttZ (t : TP) : TPt := fun δ q => t δ fun w => truW w q
theorem zt_truth (h : ZE X a ta) (he : ∀ whole, isTrue a X.env whole = (do let v ← whole; standAt a.pos; holding [v] (truthy v))) : ZT X a (ttZ ta) := by
  refine pt_imp (pt_truthZ h he) fun σ H Q => ?_
  rintro ⟨P, Hc, δ, q, R, ht, post⟩
  refine ⟨P, Hc, δ, _, R, ht, fun Hc' H' v w e f R' rv hq => ?_⟩
  obtain ⟨k, h1, h2⟩ := truW_ok R' rv hq
  exact ⟨k, h1, post Hc' H' k e f R' h2⟩
end
end Zl
end
section
set_option maxHeartbeats 1000000
namespace Zl
open PySem PySem.Spec PyProof.Rows L2
section
variable {X : Cx} {a b : Expr} {ta tb : TP} {pos : Pos}
theorem tbZ_ok {K : PySem.W.Frag} {t : TP} {σ : L2.St} {H : Hp} {Q : Bool → Hp → Prop} (h : lftT K (tbZ t) σ H Q) : lft K t σ H fun x H' => ∃ k, x = .bl k ∧ Q k H' := by
  obtain ⟨P, Hc, δ, q, R, ht, post⟩ := h
  refine ⟨P, Hc, δ, _, R, ht, fun Hc' H' v w e f R' rv hq => ?_⟩
  cases w with
  | d x =>
    cases x with
    | bool k => exact ⟨k, rv.bool, post Hc' H' k e f R' hq⟩
    | _ => exact hq.elim
  | _ => exact hq.elim
theorem zt_cmpR {op : CmpOp} {r : R2} {rz : W → W → (W → Prop) → Prop} (ho : OpR X (compareOp op) r) (hz : Bi2 X.K rz r) (ha : ZE X a ta) (hb : ZE X b tb) (hm : behindInMarks op b = false) : ZT X (.Compare a [op] [b] pos) (tbZ (bZ ta tb rz)) :=
  pt_imp (pt_cmpR ho ha hb hm) fun _ _ _ h => lft_bin hz (tbZ_ok h)
theorem zt_cmp {op : CmpOp} {t : TE} {tz : TP} (h : PC X op a b t) (hm : behindInMarks op b = false) (hz : ∀ σ H Q, lft X.K tz σ H Q → t σ H Q) : ZT X (.Compare a [op] [b] pos) (tbZ tz) :=
  pt_imp (pt_cmp h hm) fun _ _ _ h => hz _ _ _ (tbZ_ok h)
theorem zt_lt (ha : ZE X a ta) (hb : ZE X b tb) (hm : behindInMarks .Lt b = false) : ZT X (.Compare a [.Lt] [b] pos) (tbZ (bZ ta tb (ri fun i j => .bool (decide (i < j))))) := zt_cmpR op_lt (bi_i fun _ _ _ => .bl _) ha hb hm
theorem zt_le (ha : ZE X a ta) (hb : ZE X b tb) (hm : behindInMarks .LtE b = false) : ZT X (.Compare a [.LtE] [b] pos) (tbZ (bZ ta tb (ri fun i j => .bool (decide (i ≤ j))))) := zt_cmpR op_le (bi_i fun _ _ _ => .bl _) ha hb hm
theorem zt_gt (ha : ZE X a ta) (hb : ZE X b tb) (hm : behindInMarks .Gt b = false) : ZT X (.Compare a [.Gt] [b] pos) (tbZ (bZ ta tb (ri fun i j => .bool (decide (j < i))))) := zt_cmpR op_gt (bi_i fun _ _ _ => .bl _) ha hb hm
theorem zt_ge (ha : ZE X a ta) (hb : ZE X b tb) (hm : behindInMarks .GtE b = false) : ZT X (.Compare a [.GtE] [b] pos) (tbZ (bZ ta tb (ri fun i j => .bool (decide (j ≤ i))))) := zt_cmpR op_ge (bi_i fun _ _ _ => .bl _) ha hb hm
theorem zt_isN (ha : ZE X a ta) (hb : ZE X b tb) (hm : behindInMarks .Is b = false) : ZT X (.Compare a [.Is] [b] pos) (tbZ (bZ ta tb rIs)) := zt_cmpR op_isN (fun P Hc H σ δ v u w x q Q R rv ru hr post => by
  unfold rIs at hr
  split at hr
  · refine ⟨ru.non, ?_⟩
    rw [isNn_ok rv]
    exact post.at R (w := .d (.bool _)) (RV.bl _) hr
  · exact hr.elim) ha hb hm
theorem zt_notN (ha : ZE X a ta) (hb : ZE X b tb) (hm : behindInMarks .IsNot b = false) : ZT X (.Compare a [.IsNot] [b] pos) (tbZ (bZ ta tb rIsNot)) := zt_cmpR op_notN (fun P Hc H σ δ v u w x q Q R rv ru hr post => by
  unfold rIsNot at hr
  split at hr
  · refine ⟨ru.non, ?_⟩
    rw [isNn_ok rv]
    exact post.at R (w := .d (.bool _)) (RV.bl _) hr
  · exact hr.elim) ha hb hm
theorem zt_eq (ha : ZE X a ta) (hb : ZE X b tb) (hm : behindInMarks .Eq b = false) : ZT X (.Compare a [.Eq] [b] pos) (tbZ (bZ ta tb rEqS)) := zt_cmpR op_eq (fun P Hc H σ δ v u w x q Q R rv ru hr post => by
  unfold rEqS at hr
  cases e : eqS w x with
  | none => rw [e] at hr; exact hr.elim
  | some c =>
    rw [e] at hr
    obtain ⟨h1, h2⟩ := eqS_ok rv ru e
    refine ⟨h1, ?_⟩
    rw [h2]
    exact post.at R (w := .d (.bool _)) (RV.bl _) hr) ha hb hm
theorem zt_ne (ha : ZE X a ta) (hb : ZE X b tb) (hm : behindInMarks .NotEq b = false) : ZT X (.Compare a [.NotEq] [b] pos) (tbZ (bZ ta tb rNeS)) := zt_cmpR op_ne (fun P Hc H σ δ v u w x q Q R rv ru hr post => by
  unfold rNeS at hr
  cases e : eqS w x with
  | none => rw [e] at hr; exact hr.elim
  | some c =>
    rw [e] at hr
    obtain ⟨h1, h2⟩ := eqS_ok rv ru e
    refine ⟨h1, ?_⟩
    rw [h2]
    exact post.at R (w := .d (.bool _)) (RV.bl _) hr) ha hb hm
theorem zt_eqD (hu : X.A.units + 64 < cLine) (ha : ZE X a ta) (hb : ZE X b tb) (hm : behindInMarks .Eq b = false) : ZT X (.Compare a [.Eq] [b] pos) (tbZ (bZ ta tb (rEqd false))) := zt_cmpR (op_eqD hu) (fun P Hc H σ δ v u w x q Q R rv ru hr post => by
  obtain ⟨d, e, h1, h2, s1, s2, hq⟩ := rEqd_inv hr
  refine ⟨d, e, (rv.dat R h1).dp s1.1, (ru.dat R h2).dp s2.1, s1.2, s2.2, post.at R (w := .d (.bool _)) (RV.bl _) (by simpa using hq)⟩) ha hb hm
theorem zt_neD (hu : X.A.units + 64 < cLine) (ha : ZE X a ta) (hb : ZE X b tb) (hm : behindInMarks .NotEq b = false) : ZT X (.Compare a [.NotEq] [b] pos) (tbZ (bZ ta tb (rEqd true))) := zt_cmpR (op_neD hu) (fun P Hc H σ δ v u w x q Q R rv ru hr post => by
  obtain ⟨d, e, h1, h2, s1, s2, hq⟩ := rEqd_inv hr
  refine ⟨d, e, (rv.dat R h1).dp s1.1, (ru.dat R h2).dp s2.1, s1.2, s2.2, post.at R (w := .d (.bool _)) (RV.bl _) (by simpa using hq)⟩) ha hb hm
end
end Zl
end
section
set_option maxHeartbeats 1000000
namespace Zl
open PySem PySem.Spec PyProof.Rows L2
/-! ### arguments, tuples, lists -/
section
variable {X : Cx} {a b e : Expr} {es : List Expr} {ta tb : TP} {t : TPa} {pos : Pos}
def zNil : TPa := fun _ q => q []
def zCons (ta : TP) (t : TPa) : TPa := fun δ q => ta δ fun w => t δ fun ws => q (held w :: ws)
theorem za_nil : ZA X [] zNil := pa_imp pa_nil fun σ H Q => by
  rintro ⟨P, Hc, δ, q, R, ht, post⟩
  exact post Hc H [] [] (Le.refl _) (Le.refl _) R .nil ht
theorem za_cons (ha : ZE X e ta) (hr : ZA X es t) (hs : starEach (e :: es) X.env = (false, eval e X.env) :: starEach es X.env := by rfl) : ZA X (e :: es) (zCons ta t) := pa_imp (pa_cons ha hr hs) fun σ H Q => by
  rintro ⟨P, Hc, δ, q, R, ht, post⟩
  refine ⟨P, Hc, δ, _, R, ht, fun Hc' H' v w e f R' rv hq => ⟨P, Hc', δ, _, R', hq, fun Hc2 H2 vs ws e2 f2 R2 rvs hq2 => ?_⟩⟩
  exact post Hc2 H2 _ _ (e.trans e2) (f.trans f2) R2 (.cons (rv.held e2 f2) rvs) hq2
/-- a short list, or one whose length is told -/
def szOk (n : Nat) (ws : List W) (p : Prop) : Prop := match ws.drop n with
  | [] => p
  | _ => ws.length ≤ sizeLine ∧ p
theorem szOk_inv {ws : List W} {p : Prop} (h : szOk 40 ws p) : ws.length ≤ sizeLine ∧ p := by
  unfold szOk at h
  split at h
  · rename_i e
    have := List.drop_eq_nil_iff.mp e
    exact ⟨Nat.le_trans this (by decide), h⟩
  · exact h
/-- data alone -/
def dsW : List W → Option (List D)
  | [] => some []
  | .d x :: ws => match dsW ws with
    | some xs => some (x :: xs)
    | none => none
  | _ :: _ => none
theorem RVa.len {K : PySem.W.Frag} {P : Pm} {Hc H : Hp} {σ : L2.St} {δ : List Sl} : ∀ {vs : List V} {ws : List W}, RVa K P Hc H σ δ vs ws → vs.length = ws.length
  | _, _, .nil => rfl
  | _, _, .cons _ t => congrArg (· + 1) t.len
theorem RVa.ds {K : PySem.W.Frag} {P : Pm} {Hc H : Hp} {σ : L2.St} {δ : List Sl} : ∀ {vs : List V} {ws : List W} {ds : List D}, RVa K P Hc H σ δ vs ws → dsW ws = some ds → RVs K Hc vs ds
  | _, _, _, .nil, e => by
    cases e
    exact .nil
  | _, _, ds, .cons (w := w) (ws := ws) h t, e => by
    cases w with
    | d x =>
      unfold dsW at e
      cases q : dsW ws with
      | none => rw [q] at e; cases e
      | some xs =>
        rw [q] at e
        cases e
        exact .cons h (t.ds q)
    | _ => cases e
/-- data, what is still changed among it -/
def datB : W → Option D
  | .d x => some x
  | .hot xs => some (.list xs)
  | .hotd xs => some (.dict (xs.map fun p => (keyD p.1, p.2)))
  | .brw x => some x
  | _ => none
def dsB : List W → Option (List D)
  | [] => some []
  | w :: ws => match datB w, dsB ws with
    | some x, some xs => some (x :: xs)
    | _, _ => none
theorem RW.all {K : PySem.W.Frag} {P : Pm} {Hc H : Hp} {σ : L2.St} {δ : List Sl} (R : RW K P Hc H σ δ) : Le Hc (allH P Hc H) ∧ Le (allH P Hc H) (nb P.g H) ∧ ∀ {a : Addr} {o : HO}, H a = some o → P.F a = none → P.g ≠ some a → allH P Hc H a = some o := by
  refine ⟨fun b o e => ?_, fun b o e => ?_, fun {a o} h1 h2 h3 => ?_⟩
  · unfold allH
    rw [if_pos (.inl (by rw [e]; rfl))]
    exact R.cold _ _ e
  · unfold allH at e
    split at e
    · exact e
    · cases e
  · unfold allH
    rw [if_pos (.inr h2)]
    exact nb_of h3 h1
theorem RVw.datB {K : PySem.W.Frag} {P : Pm} {Hc H : Hp} {σ : L2.St} {δ : List Sl} {v : V} {w : W} {x : D} (R : RW K P Hc H σ δ) (r : RVw K P Hc H σ δ v w) (e : Zl.datB w = some x) : RV K (allH P Hc H) v x := by
  obtain ⟨l1, l2, l3⟩ := R.all
  cases w with
  | d y =>
    cases e
    exact RV.mono l1 r
  | hot xs =>
    cases e
    obtain ⟨a, rfl, vs, h1, h2, h3, h4, h5⟩ := r
    exact .lst (l3 h1 h2 h3) h5 (h4.mono l1)
  | hotd xs =>
    cases e
    obtain ⟨a, rfl, vs, h1, h2, h3, h4⟩ := r
    exact .dct (.inl (l3 h1 h2 h3)) (RKs.d (h4.mono l1))
  | brw y =>
    cases e
    exact r
  | _ => cases e
theorem RVa.dsB {K : PySem.W.Frag} {P : Pm} {Hc H : Hp} {σ : L2.St} {δ : List Sl} (R : RW K P Hc H σ δ) : ∀ {vs : List V} {ws : List W} {ds : List D}, RVa K P Hc H σ δ vs ws → Zl.dsB ws = some ds → RVs K (allH P Hc H) vs ds
  | _, _, _, .nil, e => by
    cases e
    exact .nil
  | _, _, ds, .cons (w := w) (ws := ws) h t, e => by
    unfold Zl.dsB at e
    split at e
    · rename_i x xs e1 e2
      cases e
      exact .cons (h.datB R e1) (RVa.dsB R t e2)
    · cases e
def rTupW : List W → (W → Prop) → Prop := fun ws q => szOk 40 ws (match dsW ws with
  | some ds => q (.d (.tuple ds))
  | none => (match dsB ws with
    | some ds => q (.brw (.tuple ds))
    | none => False))
def rLstW : List W → (W → Prop) → Prop := fun ws q => szOk 40 ws (match dsW ws with
  | some ds => q (.new ds)
  | none => (match dsB ws with
    | some ds => q (.brw (.list ds))
    | none => False))
theorem z_tup {x1} (h : ZA X es t) : ZE X (.Tuple es x1 pos) (aZ t rTupW) := pe_imp (pe_tup h) fun σ H Q => by
  intro z
  refine lft_ar (R := fun xs H1 Q => xs.length ≤ sizeLine ∧ ∀ p, H1 p = none → Q (.ref p) (upd H1 p (.tup xs))) ?_ z
  intro P Hc H σ δ vs ws q Q R rv hr post
  obtain ⟨hz, hr⟩ := szOk_inv hr
  split at hr
  · rename_i ds e
    have r := rv.ds e
    refine ⟨by rw [rv.len]; exact hz, fun p hp => ?_⟩
    have hc := (R.free hp).1
    exact post (upd Hc p (.tup vs)) (upd H p (.tup vs)) _ (.d (.tuple ds)) (le_new hc) (nb_new hp) (R.newC hp) (RV.tup upd_same (by rw [← r.len, rv.len]; exact hz) (r.mono (le_new hc))) hr
  · split at hr
    · rename_i ds e
      have r := rv.dsB R e
      refine ⟨by rw [rv.len]; exact hz, fun p hp => ?_⟩
      obtain ⟨f1, f2, f3⟩ := R.free hp
      have R2 := R.newO (o := .tup vs) hp
      exact post Hc (upd H p (.tup vs)) _ (.brw (.tuple ds)) (Le.refl _) (nb_new hp) R2 (RV.tup (R2.all.2.2 upd_same f2 f3) (by rw [← r.len, rv.len]; exact hz) (r.mono (allH_mono (Le.refl _) (nb_new hp)))) hr
    · exact hr.elim
theorem RW.hotNew {K : PySem.W.Frag} {P : Pm} {Hc H : Hp} {σ : L2.St} {δ : List Sl} {p : Addr} {vs : List V} {ds : List D} (R : RW K P Hc H σ δ) (hp : H p = none) (r : RVs K Hc vs ds) (hz : ds.length ≤ sizeLine) : RVw K P Hc (upd H p (.lst vs)) σ δ (.ref p) (.new ds) := by
  obtain ⟨h1, h2, h3⟩ := R.free hp
  exact ⟨p, rfl, h1, ⟨vs, upd_same, h2, h3, r, hz⟩, R.new_apart hp⟩
theorem Post.newL {K : PySem.W.Frag} {P : Pm} {Hc H : Hp} {σ : L2.St} {δ : List Sl} {q : W → Prop} {Q : VK} {p : Addr} {vs : List V} {ds : List D} (post : Post K P Hc H σ δ q Q) (R : RW K P Hc H σ δ) (hp : H p = none) (r : RVs K Hc vs ds) (hz : ds.length ≤ sizeLine) (hq : q (.new ds)) : Q (.ref p) (upd H p (.lst vs)) :=
  post Hc (upd H p (.lst vs)) _ (.new ds) (Le.refl _) (nb_new hp) (R.newO hp) (R.hotNew hp r hz) hq
theorem Post.newT {K : PySem.W.Frag} {P : Pm} {Hc H : Hp} {σ : L2.St} {δ : List Sl} {q : W → Prop} {Q : VK} {p : Addr} {vs : List V} {ds : List D} (post : Post K P Hc H σ δ q Q) (R : RW K P Hc H σ δ) (hp : H p = none) (r : RVs K Hc vs ds) (hz : ds.length ≤ sizeLine) (hq : q (.d (.tuple ds))) : Q (.ref p) (upd H p (.tup vs)) :=
  post (upd Hc p (.tup vs)) (upd H p (.tup vs)) _ (.d (.tuple ds)) (le_new (R.free hp).1) (nb_new hp) (R.newC hp) (RV.tup upd_same hz (r.mono (le_new (R.free hp).1))) hq
theorem z_lst (h : ZA X es t) : ZE X (.List es pos) (aZ t rLstW) := pe_imp (pe_lst h) fun σ H Q => by
  intro z
  refine lft_ar (R := fun xs H1 Q => xs.length ≤ sizeLine ∧ ∀ p, H1 p = none → Q (.ref p) (upd H1 p (.lst xs))) ?_ z
  intro P Hc H σ δ vs ws q Q R rv hr post
  obtain ⟨hz, hr⟩ := szOk_inv hr
  split at hr
  · rename_i ds e
    exact ⟨by rw [rv.len]; exact hz, fun p hp => post.newL R hp (rv.ds e) (by rw [← (rv.ds e).len, rv.len]; exact hz) hr⟩
  · split at hr
    · rename_i ds e
      have r := rv.dsB R e
      refine ⟨by rw [rv.len]; exact hz, fun p hp => ?_⟩
      obtain ⟨f1, f2, f3⟩ := R.free hp
      have R2 := R.newO (o := .lst vs) hp
      exact post Hc (upd H p (.lst vs)) _ (.brw (.list ds)) (Le.refl _) (nb_new hp) R2 (RV.lst (R2.all.2.2 upd_same f2 f3) (by rw [← r.len, rv.len]; exact hz) (r.mono (allH_mono (Le.refl _) (nb_new hp)))) hr
    · exact hr.elim
/-! ### subscripts -/
def rIxW (f : W → Option (List D)) : W → W → (W → Prop) → Prop := fun x y q => match f x, y with
  | some xs, .d (.int i) => (match L2.atI xs i with
    | some d => q (.d d)
    | none => False)
  | _, _ => False
theorem rIxW_inv {f : W → Option (List D)} {x y : W} {q : W → Prop} (h : rIxW f x y q) : ∃ xs i d, f x = some xs ∧ y = .d (.int i) ∧ L2.atI xs i = some d ∧ q (.d d) := by
  unfold rIxW at h
  split at h
  · split at h
    · exact ⟨_, _, _, by assumption, rfl, by assumption, h⟩
    · exact h.elim
  · exact h.elim
def tupW : W → Option (List D)
  | .d (.tuple xs) => some xs
  | _ => none
theorem RVw.tupW {K : PySem.W.Frag} {P : Pm} {Hc H : Hp} {σ : L2.St} {δ : List Sl} {v : V} {w : W} {xs : List D} (R : RW K P Hc H σ δ) (h : RVw K P Hc H σ δ v w) (e : tupW w = some xs) : ∃ a vs, v = .ref a ∧ H a = some (.tup vs) ∧ RVs K Hc vs xs ∧ xs.length ≤ sizeLine := by
  cases w with
  | d x =>
    cases x with
    | tuple ys =>
      cases e
      obtain ⟨a, vs, h1, h2, _, h3⟩ := RVw.tup R h
      exact ⟨a, vs, h1, h2, h3⟩
    | _ => cases e
  | _ => cases e
theorem z_ixL (ha : ZE X a ta) (hb : ZE X b tb) (hs : PlainIx b := by exact fun _ _ => rfl) : ZE X (.Subscript a b pos) (bZ ta tb (rIxW lstW)) := pe_imp (pe_ix ix_list ha hb hs) fun σ H Q z => by
  refine lft_bin (fun P Hc H σ δ v u w x q Q R rv ru hr post => ?_) z
  obtain ⟨xs, i, d, e1, rfl, e2, hq⟩ := rIxW_inv hr
  obtain ⟨p, vs, rfl, h1, h2, _⟩ := rv.lst R e1
  obtain ⟨x, e3, r⟩ := RV.atI h2 e2
  exact ⟨p, vs, i, x, rfl, ru.int, SqL.of h1, e3, post.at R (w := .d d) r hq⟩
theorem z_ixT (ha : ZE X a ta) (hb : ZE X b tb) (hs : PlainIx b := by exact fun _ _ => rfl) : ZE X (.Subscript a b pos) (bZ ta tb (rIxW tupW)) := pe_imp (pe_ix ix_tup ha hb hs) fun σ H Q z => by
  refine lft_bin (fun P Hc H σ δ v u w x q Q R rv ru hr post => ?_) z
  obtain ⟨xs, i, d, e1, rfl, e2, hq⟩ := rIxW_inv hr
  obtain ⟨p, vs, rfl, h1, h2, _⟩ := RVw.tupW R rv e1
  obtain ⟨x, e3, r⟩ := RV.atI h2 e2
  exact ⟨p, vs, i, x, rfl, ru.int, SqT.of h1, e3, post.at R (w := .d d) r hq⟩
/-! ### slices -/
def cutD (xs : List D) (lo hi : Option Int) : List D := (xs.drop (HT.sIx xs.length 0 lo)).take (HT.sIx xs.length xs.length hi - HT.sIx xs.length 0 lo)
theorem cutD_len (xs : List D) (lo hi : Option Int) : (cutD xs lo hi).length ≤ xs.length := by
  unfold cutD
  rw [List.length_take, List.length_drop]
  omega
theorem RVs.cut {K : PySem.W.Frag} {H : Hp} {vs : List V} {xs : List D} (h : RVs K H vs xs) (lo hi : Option Int) : RVs K H (cutV vs lo hi) (cutD xs lo hi) := by
  unfold cutV cutD
  rw [h.len]
  exact (h.drop _).take _
abbrev TPo := List Sl → (Option Int → Prop) → Prop
def lftO (K : PySem.W.Frag) (t : TPo) : TO := fun σ H Q => ∃ P Hc δ q, RW K P Hc H σ δ ∧ t δ q ∧ ∀ Hc' H' o, Le Hc Hc' → Le (nb P.g H) (nb P.g H') → RW K P Hc' H' σ δ → q o → Q o H'
def ZO (X : Cx) (e : Option Expr) (t : TPo) : Prop := PO X e (lftO X.K t)
def zNoPart : TPo := fun _ q => q none
def zPart (t : TP) : TPo := fun δ q => t δ fun w => match w with
  | .d (.int i) => q (some i)
  | _ => False
theorem zo_none : ZO X none zNoPart := ⟨fun pins s σ H Q I h => po_none.run pins s σ H Q I (by
  obtain ⟨P, Hc, δ, q, R, ht, post⟩ := h
  exact post Hc H _ (Le.refl _) (Le.refl _) R ht)⟩
theorem zo_some (h : ZE X e ta) : ZO X (some e) (zPart ta) := ⟨fun pins s σ H Q I z => (po_some h).run pins s σ H Q I (by
  obtain ⟨P, Hc, δ, q, R, ht, post⟩ := z
  refine ⟨P, Hc, δ, _, R, ht, fun Hc' H' v w e f R' rv hq => ?_⟩
  cases w with
  | d x =>
    cases x with
    | int i => exact ⟨i, rv.int, post Hc' H' _ e f R' hq⟩
    | _ => exact hq.elim
  | _ => exact hq.elim)⟩
def zSl (r : W → Option Int → Option Int → (W → Prop) → Prop) (te : TP) (tl th : TPo) : TP := fun δ q => te δ fun w => tl δ fun lo => th δ fun hi => r (held w) lo hi q
theorem lft_sl {K : PySem.W.Frag} {te : TP} {tl th : TPo} {r : W → Option Int → Option Int → (W → Prop) → Prop} {R : V → Option Int → Option Int → Hp → VK → Prop} {σ : L2.St} {H : Hp} {Q : VK}
    (h : ∀ P Hc H σ δ v w lo hi q Q, RW K P Hc H σ δ → RVw K P Hc H σ δ v w → r w lo hi q → Post K P Hc H σ δ q Q → R v lo hi H Q) (z : lft K (zSl r te tl th) σ H Q) : tSl R (lft K te) (lftO K tl) (lftO K th) σ H Q := by
  obtain ⟨P, Hc, δ, q, R, ht, post⟩ := z
  refine ⟨P, Hc, δ, _, R, ht, fun Hc' H' v w e f R' rv hr => ⟨P, Hc', δ, _, R', hr, fun Hc2 H2 lo e2 f2 R2 hr2 => ⟨P, Hc2, δ, _, R2, hr2, fun Hc3 H3 hi e3 f3 R3 hr3 => ?_⟩⟩⟩
  exact h P Hc3 H3 σ δ v (held w) lo hi q Q R3 (rv.held (e2.trans e3) (f2.trans f3)) hr3 (post.mono ((e.trans e2).trans e3) ((f.trans f2).trans f3))
def rSlWL : W → Option Int → Option Int → (W → Prop) → Prop := fun x lo hi q => match lstW x with
  | some xs => q (.new (cutD xs lo hi))
  | none => False
def rSlWT : W → Option Int → Option Int → (W → Prop) → Prop := fun x lo hi q => match tupW x with
  | some xs => q (.d (.tuple (cutD xs lo hi)))
  | none => False
theorem z_slL {lo hi : Option Expr} {tl th : TPo} {p2 : Pos} (he : ZE X e ta) (hl : ZO X lo tl) (hu : ZO X hi th) : ZE X (.Subscript e (.Slice lo hi none p2) pos) (zSl rSlWL ta tl th) := pe_imp (pe_slice sl_list he hl hu) fun σ H Q z => by
  refine lft_sl (fun P Hc H σ δ v w lo hi q Q R rv hr post => ?_) z
  unfold rSlWL at hr
  split at hr
  · rename_i xs e
    obtain ⟨p, vs, rfl, h1, h2, hz⟩ := rv.lst R e
    exact ⟨p, vs, rfl, SqL.of h1, fun p hp => post.newL R hp (h2.cut lo hi) (Nat.le_trans (cutD_len _ _ _) hz) hr⟩
  · exact hr.elim
theorem cut_all {α : Type} (xs : List α) {n m : Nat} (h1 : n = 0) (h2 : m = xs.length) : (xs.drop n).take (m - n) = xs := by
  subst h1
  rw [List.drop_zero, h2, Nat.sub_zero, List.take_length]
theorem z_slT {lo hi : Option Expr} {tl th : TPo} {p2 : Pos} (hS : SlR X (rSlT X.K) → SlR X (fun x lo hi H Q => ∃ a xs, x = .ref a ∧ SqT X.K H a xs ∧
  (HT.sIx xs.length 0 lo = 0 ∧ HT.sIx xs.length xs.length hi = xs.length → Q (.ref a) H) ∧ (¬ (HT.sIx xs.length 0 lo = 0 ∧ HT.sIx xs.length xs.length hi = xs.length) → ∀ p, H p = none → Q (.ref p) (upd H p (.tup (cutV xs lo hi))))))
    (he : ZE X e ta) (hl : ZO X lo tl) (hu : ZO X hi th) : ZE X (.Subscript e (.Slice lo hi none p2) pos) (zSl rSlWT ta tl th) := pe_imp (pe_slice (hS sl_tup) he hl hu) fun σ H Q z => by
  refine lft_sl (fun P Hc H σ δ v w lo hi q Q R rv hr post => ?_) z
  unfold rSlWT at hr
  split at hr
  · rename_i xs e
    cases w with
    | d x =>
      cases x with
      | tuple ys =>
        cases e
        obtain ⟨p, vs, rfl, h1, h0, h2, hz⟩ := RVw.tup R rv
        refine ⟨p, vs, rfl, SqT.of h1, fun hw => ?_, fun _ p hp => post.newT R hp (h2.cut lo hi) (Nat.le_trans (cutD_len _ _ _) hz) hr⟩
        have e2 : cutD xs lo hi = xs := by
          unfold cutD
          rw [h2.len] at hw
          exact cut_all xs hw.1 hw.2
        rw [e2] at hr
        exact post.at R (w := .d (.tuple xs)) (RV.tup h0 hz h2) hr
      | _ => cases e
    | _ => cases e
  · exact hr.elim
/-! ### built-ins by their names -/
def bi (n : String) (r : List W → (W → Prop) → Prop) (X : Cx) : Prop := ∃ R, CallR X (.builtin n) R ∧ Ar1 X.K r R
def bt (n : String) (r : List W → (W → Prop) → Prop) (X : Cx) : Prop := ∃ R, CallR X (.type n) R ∧ Ar1 X.K r R
theorem z_b {id : String} {x : Str} {p : Pos} {r : List W → (W → Prop) → Prop} (hb : bi id r X) (hg : Gl X x) (hm : X.mg x = none) (hv : bootBuiltins x = some (.builtin id)) (ha : ZA X (e :: es) t) (hn : x ≠ "__name__" := by decide) (hdb : (x == ("__debug__" : Str)) = false := by decide)
    (he : starEach (e :: es) X.env = (false, eval e X.env) :: starEach es X.env := by rfl) (hpl : (backTo pos (starEach es X.env)).any (·.1) = false := by rfl) : ZE X (.Call (.Name x p) (e :: es) [] pos) (aZ t r) := by
  obtain ⟨R, hc, ar⟩ := hb
  exact pe_imp (pe_callB hc hg hm hv ha hn hdb he hpl) fun σ H Q z => lft_ar ar z
theorem z_ty {id : String} {x : Str} {p : Pos} {r : List W → (W → Prop) → Prop} (hb : bt id r X) (hg : Gl X x) (hm : X.mg x = none) (hv : bootBuiltins x = some (.type id)) (ha : ZA X (e :: es) t) (hn : x ≠ "__name__" := by decide) (hdb : (x == ("__debug__" : Str)) = false := by decide)
    (he : starEach (e :: es) X.env = (false, eval e X.env) :: starEach es X.env := by rfl) (hpl : (backTo pos (starEach es X.env)).any (·.1) = false := by rfl) : ZE X (.Call (.Name x p) (e :: es) [] pos) (aZ t r) := by
  obtain ⟨R, hc, ar⟩ := hb
  exact pe_imp (pe_callTy hc hg hm hv ha hn hdb he hpl) fun σ H Q z => lft_ar ar z
theorem RVa.one {K : PySem.W.Frag} {P : Pm} {Hc H : Hp} {σ : L2.St} {δ : List Sl} {vs : List V} {w : W} (h : RVa K P Hc H σ δ vs [w]) : ∃ v, vs = [v] ∧ RVw K P Hc H σ δ v w := by
  cases h with
  | cons h t =>
    cases t
    exact ⟨_, rfl, h⟩
theorem RVa.two {K : PySem.W.Frag} {P : Pm} {Hc H : Hp} {σ : L2.St} {δ : List Sl} {vs : List V} {w x : W} (h : RVa K P Hc H σ δ vs [w, x]) : ∃ v u, vs = [v, u] ∧ RVw K P Hc H σ δ v w ∧ RVw K P Hc H σ δ u x := by
  cases h with
  | cons h t =>
    obtain ⟨u, rfl, h2⟩ := RVa.one t
    exact ⟨_, _, rfl, h, h2⟩
def r1 (f : W → (W → Prop) → Prop) : List W → (W → Prop) → Prop := fun ws q => match ws with
  | [w] => f w q
  | _ => False
def r2 (f : W → W → (W → Prop) → Prop) : List W → (W → Prop) → Prop := fun ws q => match ws with
  | [w, x] => f w x q
  | _ => False
theorem ar1_of {K : PySem.W.Frag} {f : W → (W → Prop) → Prop} {R : List V → Hp → VK → Prop} (h : Un1 K f fun v H Q => R [v] H Q) : Ar1 K (r1 f) R := by
  intro P Hc H σ δ vs ws q Q Rw rv hr post
  unfold r1 at hr
  split at hr
  · obtain ⟨v, rfl, r⟩ := rv.one
    exact h P Hc H σ δ v _ q Q Rw r hr post
  · exact hr.elim
theorem ar2_of {K : PySem.W.Frag} {f : W → W → (W → Prop) → Prop} {R : List V → Hp → VK → Prop} (h : Bi2 K f fun v u H Q => R [v, u] H Q) : Ar1 K (r2 f) R := by
  intro P Hc H σ δ vs ws q Q Rw rv hr post
  unfold r2 at hr
  split at hr
  · obtain ⟨v, u, rfl, r, s⟩ := rv.two
    exact h P Hc H σ δ v u _ _ q Q Rw r s hr post
  · exact hr.elim
def rAbsW : W → (W → Prop) → Prop := fun w q => match w with
  | .d (.int i) => q (.d (.int (if i < 0 then -i else i)))
  | _ => False
theorem b_abs : bi "abs" (r1 rAbsW) X := ⟨_, call_abs, ar1_of fun P Hc H σ δ v w q Q R rv hr post => by
  unfold rAbsW at hr
  split at hr
  · exact ⟨_, by rw [rv.int], post.at R (w := .d (.int _)) (RV.int _) hr⟩
  · exact hr.elim⟩
def rLenW : W → (W → Prop) → Prop := fun w q => match seqW w with
  | some xs => q (.d (.int xs.length))
  | none => False
theorem b_len : bi "len" (r1 rLenW) X := ⟨_, call_len_seq, ar1_of fun P Hc H σ δ v w q Q R rv hr post => by
  unfold rLenW at hr
  split at hr
  · obtain ⟨a, vs, rfl, h1, h2, _⟩ := rv.seq R (by assumption)
    refine ⟨a, vs, rfl, h1, ?_⟩
    rw [h2.len]
    exact post.at R (w := .d (.int _)) (RV.int _) hr
  · exact hr.elim⟩
def rIntW : W → (W → Prop) → Prop := fun w q => match w with
  | .d (.int i) => q (.d (.int i))
  | .d (.bool k) => q (.d (.int (if k then 1 else 0)))
  | _ => False
theorem t_int : bt "int" (r1 rIntW) X := ⟨_, call_int1, ar1_of fun P Hc H σ δ v w q Q R rv hr post => by
  unfold rIntW at hr
  split at hr
  · exact .inl ⟨_, by rw [rv.int], post.at R (w := .d (.int _)) (RV.int _) hr⟩
  · exact .inr ⟨_, by rw [rv.bool], post.at R (w := .d (.int _)) (RV.int _) hr⟩
  · exact hr.elim⟩
def rTupOf : W → (W → Prop) → Prop := fun w q => match seqW w with
  | some xs => q (.d (.tuple xs))
  | none => False
theorem t_tuple : bt "tuple" (r1 rTupOf) X := ⟨_, call_tuple_of, ar1_of fun P Hc H σ δ v w q Q R rv hr post => by
  unfold rTupOf at hr
  split at hr
  · rename_i xs e
    have L : lstW w = some xs → ∃ p ys, [v] = [V.ref p] ∧ ((SqL X.K H p ys ∧ ∀ l, H l = none → Q (.ref l) (upd H l (.tup ys))) ∨ (SqT X.K H p ys ∧ Q (.ref p) H)) := fun e => by
      obtain ⟨a, vs, rfl, h1, h2, hz⟩ := rv.lst R e
      exact ⟨a, vs, rfl, .inl ⟨SqL.of h1, fun l hl => post.newT R hl h2 hz hr⟩⟩
    cases w with
    | d x =>
      cases x with
      | tuple ys =>
        cases e
        obtain ⟨a, vs, rfl, h1, h0, h2, hz⟩ := RVw.tup R rv
        exact ⟨a, vs, rfl, .inr ⟨SqT.of h1, post.at R (w := .d (.tuple xs)) (RV.tup h0 hz h2) hr⟩⟩
      | list ys => exact L e
      | _ => cases e
    | hot ys => exact L e
    | new ys => exact L e
    | _ => cases e
  · exact hr.elim⟩
def rLstOf : W → (W → Prop) → Prop := fun w q => match seqW w with
  | some xs => q (.new xs)
  | none => False
theorem t_list : bt "list" (r1 rLstOf) X := ⟨_, call_list_of, ar1_of fun P Hc H σ δ v w q Q R rv hr post => by
  unfold rLstOf at hr
  split at hr
  · obtain ⟨a, vs, rfl, h1, h2, hz⟩ := rv.seq R (by assumption)
    exact ⟨a, vs, rfl, h1, fun l hl => post.newL R hl h2 hz hr⟩
  · exact hr.elim⟩
def rMax2 : W → W → (W → Prop) → Prop := fun x y q => match x, y with
  | .d (.int i), .d (.int j) => q (.d (.int (if j > i then j else i)))
  | _, _ => False
def rMin2 : W → W → (W → Prop) → Prop := fun x y q => match x, y with
  | .d (.int i), .d (.int j) => q (.d (.int (if j < i then j else i)))
  | _, _ => False
theorem b_max2 (hc : X.calm = true) : bi "max" (r2 rMax2) X := ⟨_, call_max2 hc, ar2_of fun P Hc H σ δ v u w x q Q R rv ru hr post => by
  unfold rMax2 at hr
  split at hr
  · exact ⟨_, _, by rw [rv.int, ru.int], post.at R (w := .d (.int _)) (RV.int _) hr⟩
  · exact hr.elim⟩
theorem b_min2 (hc : X.calm = true) : bi "min" (r2 rMin2) X := ⟨_, call_min2 hc, ar2_of fun P Hc H σ δ v u w x q Q R rv ru hr post => by
  unfold rMin2 at hr
  split at hr
  · exact ⟨_, _, by rw [rv.int, ru.int], post.at R (w := .d (.int _)) (RV.int _) hr⟩
  · exact hr.elim⟩
/-- ints all -/
def intsD : List D → Option (List Int)
  | [] => some []
  | .int i :: xs => match intsD xs with
    | some r => some (i :: r)
    | none => none
  | _ :: _ => none
theorem intsD_map : ∀ ns : List Int, intsD (ns.map PyData.int) = some ns
  | [] => rfl
  | n :: ns => by
    show (match intsD (ns.map PyData.int) with | some r => some (n :: r) | none => none) = _
    rw [intsD_map ns]
theorem RVs.ints {K : PySem.W.Frag} {H : Hp} : ∀ {vs : List V} {xs : List D} {ns : List Int}, RVs K H vs xs → intsD xs = some ns → vs = ns.map V.int
  | _, _, _, .nil, e => by
    cases e
    rfl
  | _, _, ns, .cons (d := d) (ds := ds) h t, e => by
    cases d with
    | int i =>
      cases h
      unfold intsD at e
      cases q : intsD ds with
      | none => rw [q] at e; cases e
      | some r =>
        rw [q] at e
        cases e
        rw [t.ints q]
        rfl
    | _ => cases e
theorem RVs.ofInts {K : PySem.W.Frag} {H : Hp} : ∀ ns : List Int, RVs K H (ns.map V.int) (ns.map PyData.int)
  | [] => .nil
  | n :: ns => .cons (.int n) (RVs.ofInts ns)
def bsD : List D → Option (List Bool)
  | [] => some []
  | .bool i :: xs => match bsD xs with
    | some r => some (i :: r)
    | none => none
  | _ :: _ => none
theorem bsD_map : ∀ ns : List Bool, bsD (ns.map PyData.bool) = some ns
  | [] => rfl
  | n :: ns => by
    show (match bsD (ns.map PyData.bool) with | some r => some (n :: r) | none => none) = _
    rw [bsD_map ns]
theorem RVs.bs {K : PySem.W.Frag} {H : Hp} : ∀ {vs : List V} {xs : List D} {ns : List Bool}, RVs K H vs xs → bsD xs = some ns → vs = ns.map V.bl
  | _, _, _, .nil, e => by
    cases e
    rfl
  | _, _, ns, .cons (d := d) (ds := ds) h t, e => by
    cases d with
    | bool i =>
      cases h
      unfold bsD at e
      cases q : bsD ds with
      | none => rw [q] at e; cases e
      | some r =>
        rw [q] at e
        cases e
        rw [t.bs q]
        rfl
    | _ => cases e
def intsW (w : W) : Option (List Int) := match lstW w with
  | some xs => intsD xs
  | none => none
theorem RVw.ints {K : PySem.W.Frag} {P : Pm} {Hc H : Hp} {σ : L2.St} {δ : List Sl} {v : V} {w : W} {ns : List Int} (R : RW K P Hc H σ δ) (h : RVw K P Hc H σ δ v w) (e : intsW w = some ns) : ∃ a, v = .ref a ∧ SqL K H a (ns.map V.int) := by
  unfold intsW at e
  split at e
  · obtain ⟨a, vs, rfl, h1, h2, _⟩ := h.lst R (by assumption)
    exact ⟨a, rfl, SqL.of (by rw [← h2.ints e]; exact h1)⟩
  · cases e
def rSumW : W → (W → Prop) → Prop := fun w q => match intsW w with
  | some ns => q (.d (.int ns.sum))
  | none => False
/-- the greatest, the least: told by what they are -/
def rMaxW : W → (W → Prop) → Prop := fun w q => match intsW w with
  | some ns => 0 < ns.length ∧ ∀ m, m ∈ ns → (∀ y, y ∈ ns → y ≤ m) → q (.d (.int m))
  | none => False
def rMinW : W → (W → Prop) → Prop := fun w q => match intsW w with
  | some ns => 0 < ns.length ∧ ∀ m, m ∈ ns → (∀ y, y ∈ ns → m ≤ y) → q (.d (.int m))
  | none => False
def rAllW : W → (W → Prop) → Prop := fun w q => match lstW w with
  | some xs => (match bsD xs with
    | some bs => q (.d (.bool (bs.all id)))
    | none => False)
  | none => False
def rAnyW : W → (W → Prop) → Prop := fun w q => match lstW w with
  | some xs => (match bsD xs with
    | some bs => q (.d (.bool (bs.any id)))
    | none => False)
  | none => False
end
end Zl
end
section
set_option maxHeartbeats 1000000
namespace Zl
open PySem PySem.Spec PyProof.Rows L2
/-! ### slots stored -/
section
variable {K : PySem.W.Frag} {P : Pm} {Hc H Hc' H' : Hp} {σ : L2.St} {δ : List Sl}
theorem set_get {α : Type} {l : List α} {i j : Nat} {x y : α} (e : (l.set i x)[j]? = some y) : (i = j ∧ y = x ∧ i < l.length) ∨ (i ≠ j ∧ l[j]? = some y) := by
  by_cases h : i = j
  · subst h
    by_cases hl : i < l.length
    · rw [List.getElem?_set_self hl] at e
      cases e
      exact .inl ⟨rfl, rfl, hl⟩
    · rw [List.getElem?_eq_none (by rw [List.length_set]; omega)] at e
      cases e
  · rw [List.getElem?_set_ne h] at e
    exact .inr ⟨h, e⟩
theorem hotAt_set {i j : Nat} {s : Sl} (h : hotAt (δ.set i s) j) : (i = j ∧ s.hot = true) ∨ (i ≠ j ∧ hotAt δ j) := by
  obtain ⟨t, e, ht⟩ := h
  rcases set_get e with ⟨e1, rfl, _⟩ | ⟨e1, e2⟩
  · exact .inl ⟨e1, ht⟩
  · exact .inr ⟨e1, t, e2, ht⟩
theorem RW.setS {i : Nat} {v : V} {s : Sl} (R : RW K P Hc H σ δ) (r : RSl K P Hc H (some (some v)) s) (n : s.hot = true → ∀ a, v = .ref a → Apart P σ δ a) : RW K P Hc H (σ.set i (some v)) (δ.set i s) := by
  refine ⟨R.base, R.fresh, R.cold, R.old, R.bag, by rw [List.length_set, List.length_set]; exact R.len, fun j t e => ?_, fun j k a hj hk ej ek => ?_, fun q hq => ⟨(R.gst q hq).1, (R.gst q hq).2.1, fun j hj ej => ?_⟩⟩
  · rcases set_get e with ⟨rfl, rfl, hl⟩ | ⟨e1, e2⟩
    · rw [List.getElem?_set_self (by rw [← R.len]; exact hl)]
      exact r
    · rw [List.getElem?_set_ne e1]
      exact R.sl j t e2
  · rcases hotAt_set hj with ⟨rfl, sj⟩ | ⟨nj, sj⟩
    · rcases hotAt_set hk with ⟨rfl, sk⟩ | ⟨nk, sk⟩
      · rfl
      · rcases set_get ej with ⟨_, e3, _⟩ | ⟨z, _⟩
        · rw [List.getElem?_set_ne nk] at ek
          exact absurd ek ((n sj a (Option.some.inj e3).symm).1 k sk)
        · exact absurd rfl z
    · rw [List.getElem?_set_ne nj] at ej
      rcases hotAt_set hk with ⟨rfl, sk⟩ | ⟨nk, sk⟩
      · rcases set_get ek with ⟨_, e3, _⟩ | ⟨z, _⟩
        · exact absurd ej ((n sk a (Option.some.inj e3).symm).1 j sj)
        · exact absurd rfl z
      · rw [List.getElem?_set_ne nk] at ek
        exact R.apart j k a sj sk ej ek
  · rcases hotAt_set hj with ⟨rfl, sj⟩ | ⟨nj, sj⟩
    · rcases set_get ej with ⟨_, e3, _⟩ | ⟨z, _⟩
      · exact (n sj q.1 (Option.some.inj e3).symm).2 q hq rfl
      · exact absurd rfl z
    · rw [List.getElem?_set_ne nj] at ej
      exact (R.gst q hq).2.2 j sj ej
/-- what a name holds behind a store -/
def stW (w : W) (k : Sl → Prop) : Prop := match w with
  | .d x => k (.w (.d x))
  | .bag => k (.w .bag)
  | .op v => k (.w (.op v))
  | .new xs => k (.hl xs)
  | .newd xs => k (.hd xs)
  | _ => False
theorem RW.store {i : Nat} {v : V} {w : W} {k : Sl → Prop} (R : RW K P Hc H σ δ) (r : RVw K P Hc H σ δ v w) (h : stW w k) : ∃ s, k s ∧ RW K P Hc H (σ.set i (some v)) (δ.set i s) := by
  cases w with
  | d x => exact ⟨_, h, R.setS (s := .w (.d x)) ⟨v, rfl, r⟩ fun z => nomatch z⟩
  | bag =>
    obtain ⟨a, h1, rfl⟩ := r
    exact ⟨_, h, R.setS (s := .w .bag) ⟨a, h1, rfl⟩ fun z => nomatch z⟩
  | op u =>
    have r : v = u := r
    subst r
    exact ⟨_, h, R.setS (s := .w (.op v)) rfl fun z => nomatch z⟩
  | new xs =>
    obtain ⟨a, rfl, h1, h2, h3⟩ := r
    exact ⟨_, h, R.setS (s := .hl xs) ⟨a, rfl, h1, h2⟩ fun _ b eb => by
      cases eb
      exact h3⟩
  | newd xs =>
    obtain ⟨a, rfl, h1, h2, h3⟩ := r
    exact ⟨_, h, R.setS (s := .hd xs) ⟨a, rfl, h1, h2⟩ fun _ b eb => by
      cases eb
      exact h3⟩
  | hot xs => exact h.elim
  | hotd xs => exact h.elim
  | brw xs => exact h.elim
/-- a hot object is changed -/
theorem RW.mut {i : Nat} {a : Addr} {s t : Sl} {o : HO} (R : RW K P Hc H σ δ) (hi : δ[i]? = some s) (hs : s.hot = true) (ha : σ[i]? = some (some (.ref a))) (r : P.F a = none → P.g ≠ some a → Hc a = none → RSl K P Hc (upd H a o) (some (some (.ref a))) t) :
    RW K P Hc (upd H a o) σ (δ.set i t) := by
  obtain ⟨hc, _, hF, hg⟩ := (R.sl i s hi).hotH hs ha
  have nbu : ∀ b u, b ≠ a → nb P.g H b = some u → nb P.g (upd H a o) b = some u := fun b u hb e => by
    obtain ⟨e1, e2⟩ := nb_some e
    exact nb_of e1 (by rw [upd_ne hb]; exact e2)
  refine ⟨R.base, R.fresh, fun b u e => nbu b u (fun z => by rw [z, hc] at e; cases e) (R.cold b u e), fun b u e => nbu b u (fun z => by rw [z] at e; rw [(nb_some e).2] at hF; cases hF) (R.old b u e), fun g' hg' => ?_, by rw [List.length_set]; exact R.len, fun j u e => ?_, fun j k b hj hk ej ek => ?_, fun q hq => ?_⟩
  · obtain ⟨hb, u, hu⟩ := R.bag g' hg'
    refine ⟨hb.grow (fun o' h' => ?_) (fun o' h' => ?_), u, hu⟩
    · rw [upd_ne (fun z => by rw [z] at hg'; exact hg hg')]
      exact h'
    · rw [upd_ne (fun z => by rw [z, hc] at hu; cases hu)]
      exact h'
  · rcases set_get e with ⟨rfl, rfl, hl⟩ | ⟨e1, e2⟩
    · rw [ha]
      exact r hF hg hc
    · have z := R.sl j u e2
      have ap : ∀ b, u.hot = true → σ[j]? = some (some (.ref b)) → b ≠ a := fun b hu eb eq => by
        subst eq
        exact e1 (R.apart i j b ⟨s, hi, hs⟩ ⟨u, e2, hu⟩ ha eb)
      cases u with
      | un => trivial
      | w x => cases x <;> exact z
      | hl xs =>
        obtain ⟨b, z1, z2, vs, z3, z4⟩ := z
        exact ⟨b, z1, z2, vs, by rw [upd_ne (ap b rfl z1)]; exact z3, z4⟩
      | hd xs =>
        obtain ⟨b, z1, z2, vs, z3, z4⟩ := z
        exact ⟨b, z1, z2, vs, by rw [upd_ne (ap b rfl z1)]; exact z3, z4⟩
  · have hh : ∀ m, hotAt (δ.set i t) m → hotAt δ m := fun m hm => by
      rcases hotAt_set hm with ⟨rfl, _⟩ | ⟨_, q⟩
      · exact ⟨s, hi, hs⟩
      · exact q
    exact R.apart j k b (hh j hj) (hh k hk) ej ek
  · obtain ⟨z, h2, h3⟩ := R.gst q hq
    have ap : q.1 ≠ a := fun e => h3 i ⟨s, hi, hs⟩ (by rw [e]; exact ha)
    refine ⟨?_, h2, fun j hj ej => ?_⟩
    · obtain ⟨q1, q2⟩ := q
      cases q2 with
      | un => cases h2
      | w x => cases h2
      | hl xs =>
        obtain ⟨b, z1, z2, vs, z3, z4⟩ := z
        cases z1
        exact ⟨_, rfl, z2, vs, by rw [upd_ne ap]; exact z3, z4⟩
      | hd xs =>
        obtain ⟨b, z1, z2, vs, z3, z4⟩ := z
        cases z1
        exact ⟨_, rfl, z2, vs, by rw [upd_ne ap]; exact z3, z4⟩
    · rcases hotAt_set hj with ⟨rfl, _⟩ | ⟨_, qj⟩
      · exact h3 _ ⟨s, hi, hs⟩ ej
      · exact h3 j qj ej
/-- a hot slot becomes cold -/
def frzS : Sl → Sl
  | .hl xs => .w (.d (.list xs))
  | .hd xs => .w (.d (.dict (xs.map fun p => (keyD p.1, p.2))))
  | s => s
def frzAt (i : Nat) (δ : List Sl) : List Sl := match δ[i]? with
  | some s => δ.set i (frzS s)
  | none => δ
theorem RW.cool {a : Addr} {o : HO} {i : Nat} {s t : Sl} (R : RW K P Hc H σ δ) (hi : δ[i]? = some s) (hs : s.hot = true) (ht : t.hot = false) (ha : σ[i]? = some (some (.ref a))) (ho : H a = some o) (r : Le Hc (upd Hc a o) → RSl K P (upd Hc a o) H (some (some (.ref a))) t) :
    Le Hc (upd Hc a o) ∧ RW K P (upd Hc a o) H σ (δ.set i t) := by
  obtain ⟨hc, _, hF, hg⟩ := (R.sl i s hi).hotH hs ha
  have le : Le Hc (upd Hc a o) := le_new hc
  refine ⟨le, R.base.trans le, fun b u e => ?_, fun b u e => ?_, R.old, fun g' hg' => ?_, by rw [List.length_set]; exact R.len, fun j u e => ?_, fun j k b hj hk ej ek => ?_, fun q hq => ?_⟩
  · by_cases hb : b = a
    · rw [hb]
      exact .inr hF
    · rw [upd_ne hb] at e
      exact R.fresh b u e
  · by_cases hb : b = a
    · subst hb
      rw [upd_same] at e
      cases e
      exact nb_of hg ho
    · rw [upd_ne hb] at e
      exact R.cold b u e
  · obtain ⟨hb, u, hu⟩ := R.bag g' hg'
    exact ⟨hb, u, le _ _ hu⟩
  · rcases set_get e with ⟨rfl, rfl, hl⟩ | ⟨e1, e2⟩
    · rw [ha]
      exact r le
    · refine (R.sl j u e2).grow le (Le.refl _) fun b hu eb hb => ?_
      rw [upd_ne (fun z => e1 (R.apart i j a ⟨s, hi, hs⟩ ⟨u, e2, hu⟩ ha (by rw [eb, z])))]
      exact hb
  · have hh : ∀ m, hotAt (δ.set i t) m → hotAt δ m := fun m hm => by
      rcases hotAt_set hm with ⟨rfl, q⟩ | ⟨_, q⟩
      · rw [ht] at q; cases q
      · exact q
    exact R.apart j k b (hh j hj) (hh k hk) ej ek
  · obtain ⟨z, h2, h3⟩ := R.gst q hq
    have ap : q.1 ≠ a := fun e => h3 i ⟨s, hi, hs⟩ (by rw [e]; exact ha)
    refine ⟨z.grow le (Le.refl _) fun b hb eb hz => ?_, h2, fun j hj ej => ?_⟩
    · cases eb
      rw [upd_ne ap]
      exact hz
    · rcases hotAt_set hj with ⟨rfl, q⟩ | ⟨_, qj⟩
      · rw [ht] at q; cases q
      · exact h3 j qj ej
theorem RW.frzAt (R : RW K P Hc H σ δ) (i : Nat) : ∃ Hc', Le Hc Hc' ∧ RW K P Hc' H σ (frzAt i δ) := by
  unfold Zl.frzAt
  cases e : δ[i]? with
  | none => exact ⟨Hc, Le.refl _, R⟩
  | some s =>
    have z := R.sl i s e
    have same : frzS s = s → ∃ Hc', Le Hc Hc' ∧ RW K P Hc' H σ (δ.set i (frzS s)) := fun h => by
      have q : δ.set i (frzS s) = δ := by
        rw [h]
        obtain ⟨hl, rfl⟩ := List.getElem?_eq_some_iff.mp e
        exact List.set_getElem_self hl
      rw [q]
      exact ⟨Hc, Le.refl _, R⟩
    cases s with
    | un => exact same rfl
    | w x => exact same rfl
    | hl xs =>
      obtain ⟨a, z1, z2, vs, z3, z4, z5, z6, z7⟩ := z
      obtain ⟨h1, h2⟩ := R.cool e rfl (t := .w (.d (.list xs))) rfl z1 z3 fun le => ⟨_, rfl, .lst upd_same z7 (z6.mono le)⟩
      exact ⟨_, h1, h2⟩
    | hd xs =>
      obtain ⟨a, z1, z2, vs, z3, z4, z5, z6⟩ := z
      obtain ⟨h1, h2⟩ := R.cool e rfl (t := .w (.d (.dict (xs.map fun p => (keyD p.1, p.2))))) rfl z1 z3 fun le => ⟨_, rfl, .dct (.inl upd_same) (RKs.d (z6.mono le))⟩
      exact ⟨_, h1, h2⟩
end
/-! ### statements over data -/
structure Ez where
  nx : List Sl → Prop
  rt : W → Prop
  bk : List Sl → Prop := fun _ => False
  ct : List Sl → Prop := fun _ => False
abbrev TZ := Ez → List Sl → Prop
structure EOk (K : PySem.W.Frag) (P : Pm) (Hc : Hp) (N : Ez) (D : Ends) : Prop where
  nx : ∀ Hc' H' σ' δ', Le Hc Hc' → RW K P Hc' H' σ' δ' → N.nx δ' → D.nx σ' H'
  rt : ∀ Hc' H' σ' δ' v w, Le Hc Hc' → RW K P Hc' H' σ' δ' → RVw K P Hc' H' σ' δ' v w → N.rt w → D.rt v H'
  bk : ∀ Hc' H' σ' δ', Le Hc Hc' → RW K P Hc' H' σ' δ' → N.bk δ' → D.bk σ' H'
  ct : ∀ Hc' H' σ' δ', Le Hc Hc' → RW K P Hc' H' σ' δ' → N.ct δ' → D.ct σ' H'
def lftS (K : PySem.W.Frag) (t : TZ) : TS := fun D σ H => ∃ P Hc δ N, RW K P Hc H σ δ ∧ t N δ ∧ EOk K P Hc N D
def ZS (X : Cx) (st : Stmt) (t : TZ) : Prop := PS X st (lftS X.K t)
def ZB (X : Cx) (st : List Stmt) (t : TZ) : Prop := PSs X st (lftS X.K t)
theorem EOk.mono {K : PySem.W.Frag} {P : Pm} {Hc Hc' : Hp} {N : Ez} {D : Ends} (E : EOk K P Hc N D) (e : Le Hc Hc') : EOk K P Hc' N D :=
  ⟨fun a b c d l => E.nx a b c d (e.trans l), fun a b c d v w l => E.rt a b c d v w (e.trans l), fun a b c d l => E.bk a b c d (e.trans l), fun a b c d l => E.ct a b c d (e.trans l)⟩
theorem EOk.seq {K : PySem.W.Frag} {P : Pm} {Hc : Hp} {N : Ez} {D : Ends} {u : TZ} (E : EOk K P Hc N D) : EOk K P Hc { N with nx := u N } { D with nx := lftS K u D } :=
  ⟨fun Hc' H' σ' δ' l R h => ⟨P, Hc', δ', N, R, h, E.mono l⟩, E.rt, E.bk, E.ct⟩
section
variable {X : Cx} {st : Stmt} {rest : List Stmt} {t u : TZ} {e : Expr} {te : TP} {pos : Pos}
def zNext : TZ := fun N δ => N.nx δ
def zSeq (t u : TZ) : TZ := fun N δ => t { N with nx := u N } δ
theorem zb_nil : ZB X [] zNext := pss_imp pss_nil fun D σ H => by
  rintro ⟨P, Hc, δ, N, R, h, E⟩
  exact E.nx Hc H σ δ (Le.refl _) R h
theorem zb_cons (h1 : ZS X st t) (h2 : ZB X rest u) : ZB X (st :: rest) (zSeq t u) := pss_imp (pss_cons h1 h2) fun D σ H => by
  rintro ⟨P, Hc, δ, N, R, h, E⟩
  exact ⟨P, Hc, δ, { N with nx := u N }, R, h, E.seq⟩
theorem zb_one (h1 : ZS X st t) : ZB X [st] t := pss_one h1
theorem zs_pass : ZS X (.Pass pos) zNext := ps_imp ps_pass fun D σ H => by
  rintro ⟨P, Hc, δ, N, R, h, E⟩
  exact E.nx Hc H σ δ (Le.refl _) R h
theorem zs_doc {x j pos pos'} : ZS X (.Expr (.Constant (.str x) j pos) pos') zNext := ps_imp ps_doc fun D σ H => by
  rintro ⟨P, Hc, δ, N, R, h, E⟩
  exact E.nx Hc H σ δ (Le.refl _) R h
theorem zs_break : ZS X (.Break pos) (fun N δ => N.bk δ) := ps_imp ps_break fun D σ H => by
  rintro ⟨P, Hc, δ, N, R, h, E⟩
  exact E.bk Hc H σ δ (Le.refl _) R h
theorem zs_continue : ZS X (.Continue pos) (fun N δ => N.ct δ) := ps_imp ps_continue fun D σ H => by
  rintro ⟨P, Hc, δ, N, R, h, E⟩
  exact E.ct Hc H σ δ (Le.refl _) R h
def zRet (te : TP) : TZ := fun N δ => te δ N.rt
theorem zs_ret (he : ZE X e te) : ZS X (.Return (some e) pos) (zRet te) := ps_imp (ps_ret he) fun D σ H => by
  rintro ⟨P, Hc, δ, N, R, h, E⟩
  exact ⟨P, Hc, δ, _, R, h, fun Hc' H' v w l f R' rv hq => E.rt Hc' H' σ δ v w l R' rv hq⟩
theorem zs_retN : ZS X (.Return none pos) (fun N _ => N.rt (.d .none)) := ps_imp ps_retN fun D σ H => by
  rintro ⟨P, Hc, δ, N, R, h, E⟩
  exact E.rt Hc H σ δ _ (.d .none) (Le.refl _) R RV.non h
/-- a value that is dropped -/
def zDrop (te : TP) : TZ := fun N δ => te δ fun _ => N.nx δ
theorem zs_expr (he : ZE X e te) (hs : swapsWith e none pos.line X.env = pure false := by rfl) : ZS X (.Expr e pos) (zDrop te) := ps_imp (ps_expr he hs) fun D σ H => by
  rintro ⟨P, Hc, δ, N, R, h, E⟩
  exact ⟨P, Hc, δ, _, R, h, fun Hc' H' v w l f R' rv hq => E.nx Hc' H' σ δ l R' hq⟩
def zIfS (c : TPt) (t u : TZ) : TZ := fun N δ => c δ fun k => if k = true then t N δ else u N δ
theorem zs_if {c : Expr} {a b : List Stmt} {tc : TPt} (hc : ZT X c tc) (ha : ZB X a t) (hb : ZB X b u) : ZS X (.If c a b pos) (zIfS tc t u) := ps_imp (ps_if hc ha hb) fun D σ H => by
  rintro ⟨P, Hc, δ, N, R, h, E⟩
  refine ⟨P, Hc, δ, _, R, h, fun Hc' H' k l f R' hq => ?_⟩
  cases k with
  | true => exact ⟨P, Hc', δ, N, R', hq, E.mono l⟩
  | false => exact ⟨P, Hc', δ, N, R', hq, E.mono l⟩
/-- slot i is changed no more -/
theorem zs_frz (i : Nat) (h : ZS X st t) : ZS X st (fun N δ => t N (frzAt i δ)) := ps_imp h fun D σ H => by
  rintro ⟨P, Hc, δ, N, R, h, E⟩
  obtain ⟨Hc', l, R'⟩ := R.frzAt i
  exact ⟨P, Hc', _, N, R', h, E.mono l⟩
/-- the ways of an if come together -/
def zCut (t u : TZ) : TZ := fun N δ => ∃ Mid : List Sl → Prop, t { N with nx := Mid } δ ∧ ∀ δ', Mid δ' → u N δ'
theorem zb_cut (h1 : ZS X st t) (h2 : ZB X rest u) : ZB X (st :: rest) (zCut t u) := pss_imp (pss_cons h1 h2) fun D σ H => by
  rintro ⟨P, Hc, δ, N, R, ⟨Mid, h, hu⟩, E⟩
  exact ⟨P, Hc, δ, { N with nx := Mid }, R, h, ⟨fun Hc' H' σ' δ' l R' hm => ⟨P, Hc', δ', N, R', hu δ' hm, E.mono l⟩, E.rt, E.bk, E.ct⟩⟩
end
/-! ### targets -/
abbrev TGz := W → List Sl → (List Sl → Prop) → Prop
abbrev TGzs := List D → List Sl → (List Sl → Prop) → Prop
def GOk (K : PySem.W.Frag) (P : Pm) (Hc : Hp) (q : List Sl → Prop) (Q : L2.St → Hp → Prop) : Prop := ∀ Hc' H' σ' δ', Le Hc Hc' → RW K P Hc' H' σ' δ' → q δ' → Q σ' H'
def lftG (K : PySem.W.Frag) (t : TGz) : TG := fun v σ H Q => ∃ P Hc δ w q, RW K P Hc H σ δ ∧ RVw K P Hc H σ δ v w ∧ t w δ q ∧ GOk K P Hc q Q
def lftGs (K : PySem.W.Frag) (t : TGzs) : TGs := fun vs σ H Q => ∃ P Hc δ ds q, RW K P Hc H σ δ ∧ RVs K Hc vs ds ∧ t ds δ q ∧ GOk K P Hc q Q
def ZG (X : Cx) (e : Expr) (t : TGz) : Prop := PG X e (lftG X.K t)
def ZGs (X : Cx) (e : List Expr) (t : TGzs) : Prop := PGs X e (lftGs X.K t)
theorem pg_imp {X : Cx} {e : Expr} {t t' : TG} (h : PG X e t) (i : ∀ v σ H Q, t' v σ H Q → t v σ H Q) : PG X e t' := ⟨fun pins s σ H v u Q I r q => h.run pins s σ H v u Q I r (i v σ H Q q)⟩
theorem pgs_imp {X : Cx} {e : List Expr} {t t' : TGs} (h : PGs X e t) (i : ∀ v σ H Q, t' v σ H Q → t v σ H Q) : PGs X e t' := ⟨fun pins s σ H v u Q I r q => h.run pins s σ H v u Q I r (i v σ H Q q)⟩
section
variable {X : Cx} {pos : Pos}
def gzName (i : Nat) : TGz := fun w δ q => stW w fun s => q (δ.set i s)
theorem zg_name {i : Nat} {x : Str} (hN : X.N.Nodup) (hi : X.N[i]? = some x) (hx : Loc X.env.scope x) (hf : X.fn x = true ∨ X.env.scope.names.lookup x = some .local := by first | exact .inl rfl | exact .inr rfl | assumption) : ZG X (.Name x pos) (gzName i) := pg_imp (pg_name hN hi hx hf) fun v σ H Q => by
  rintro ⟨P, Hc, δ, w, q, R, rv, h, E⟩
  obtain ⟨s, hs, R'⟩ := R.store (i := i) (k := fun s => q (δ.set i s)) rv h
  exact E Hc H _ _ (Le.refl _) R' hs
def gzNil : TGzs := fun ds δ q => match ds with
  | [] => q δ
  | _ => False
def gzCons (t : TGz) (u : TGzs) : TGzs := fun ds δ q => match ds with
  | d :: r => t (.d d) δ fun δ' => u r δ' q
  | [] => False
theorem zgs_nil : ZGs X [] gzNil := pgs_imp pgs_nil fun vs σ H Q => by
  rintro ⟨P, Hc, δ, ds, q, R, rv, h, E⟩
  cases rv with
  | nil => exact ⟨rfl, E Hc H σ δ (Le.refl _) R h⟩
  | cons _ _ => exact h.elim
theorem zgs_cons {e : Expr} {es : List Expr} {t : TGz} {u : TGzs} (h1 : ZG X e t) (h2 : ZGs X es u)
    (hs : (assignEach (e :: es) X.env).map (·.2) = assign e X.env :: (assignEach es X.env).map (·.2) := by rfl) : ZGs X (e :: es) (gzCons t u) := pgs_imp (pgs_cons h1 h2 hs) fun vs σ H Q => by
  rintro ⟨P, Hc, δ, ds, q, R, rv, h, E⟩
  cases rv with
  | nil => exact h.elim
  | cons r rr =>
    refine ⟨_, _, rfl, P, Hc, δ, .d _, _, R, r, h, fun Hc' H' σ' δ' l R' hq => ?_⟩
    exact ⟨P, Hc', δ', _, q, R', rr.mono l, hq, fun Hc2 H2 σ2 δ2 l2 => E Hc2 H2 σ2 δ2 (l.trans l2)⟩
def lenIs : Nat → List D → Prop → Prop
  | 0, [], p => p
  | n + 1, _ :: ds, p => lenIs n ds p
  | _, _, _ => False
theorem lenIs_inv : ∀ {n : Nat} {ds : List D} {p : Prop}, lenIs n ds p → ds.length = n ∧ p
  | 0, [], _, h => ⟨rfl, h⟩
  | n + 1, _ :: ds, p, h => ⟨congrArg (· + 1) (lenIs_inv (n := n) (ds := ds) h).1, (lenIs_inv (n := n) (ds := ds) h).2⟩
  | 0, _ :: _, _, h => h.elim
  | _ + 1, [], _, h => h.elim
def gzTup (n : Nat) (t : TGzs) : TGz := fun w δ q => match tupW w with
  | some ds => lenIs n ds (t ds δ q)
  | none => False
theorem zg_tup {es : List Expr} {k : Nat} {t : TGzs} {n : Nat} (hc : X.calm = true) (h : ZGs X es t)
    (hn : (assignEach es X.env).length = n := by rfl) (hst : (assignEach es X.env).findIdx? (·.1) = none := by rfl) : ZG X (.Tuple es k pos) (gzTup n t) := pg_imp (pg_tup hc h hn hst) fun v σ H Q => by
  rintro ⟨P, Hc, δ, w, q, R, rv, h, E⟩
  unfold gzTup at h
  split at h
  · obtain ⟨hl, h⟩ := lenIs_inv h
    obtain ⟨a, vs, rfl, h1, h2, _⟩ := RVw.tupW R rv (by assumption)
    exact ⟨a, vs, rfl, SqT.of h1, by rw [h2.len]; exact hl, P, Hc, δ, _, q, R, h2, h, E⟩
  · exact h.elim
/-- in a comprehension's block: K said ahead -/
theorem zg_tupK {X : Cx} {pos : Pos} (K : PySem.W.Frag) (hK : X.K = K) {es : List Expr} {k : Nat} {t : TGzs} {n : Nat} (hc : X.calm = true) (h : ZGs X es t)
    (hn : (assignEach es X.env).length = n := by rfl) (hst : (assignEach es X.env).findIdx? (·.1) = none := by rfl) : PG X (.Tuple es k pos) (lftG K (gzTup n t)) := by
  subst hK
  exact zg_tup hc h hn hst
/-! ### assignments -/
variable {e : Expr} {te : TP} {t u : TZ}
def zAsg (te : TP) (g : TGz) : TZ := fun N δ => te δ fun w => g w δ N.nx
theorem EOk.g {K : PySem.W.Frag} {P : Pm} {Hc : Hp} {N : Ez} {D : Ends} (E : EOk K P Hc N D) : GOk K P Hc N.nx D.nx := fun Hc' H' σ' δ' l R h => E.nx Hc' H' σ' δ' l R h
theorem zs_asg {tg : Expr} {g : TGz} (he : ZE X e te) (hg : ZG X tg g) (hs : swapsWithSole [tg] e pos.line X.env = pure false := by rfl) (hw : swappedStores [tg] e X.env = pure none := by rfl)
    (h1 : (assignEach [tg] X.env).map (·.2) = [assign tg X.env] := by rfl) : ZS X (.Assign [tg] e pos) (zAsg te g) := ps_imp (ps_asg he hg hs hw h1) fun D σ H => by
  rintro ⟨P, Hc, δ, N, R, h, E⟩
  refine ⟨P, Hc, δ, _, R, h, fun Hc' H' v w l f R' rv hq => ?_⟩
  exact ⟨P, Hc', δ, w, N.nx, R', rv, hq, (E.mono l).g⟩
theorem zs_set {i : Nat} {x : Str} {pos' : Pos} (hN : X.N.Nodup) (hi : X.N[i]? = some x) (hx : Loc X.env.scope x) (he : ZE X e te) (hs : swapsWith e (some (.Name x pos')) pos.line X.env = pure false := by rfl) (hf : X.fn x = true ∨ X.env.scope.names.lookup x = some .local := by first | exact .inl rfl | exact .inr rfl | assumption) :
    ZS X (.Assign [.Name x pos'] e pos) (zAsg te (gzName i)) := ps_imp (ps_set hN hi hx he hs hf) fun D σ H => by
  rintro ⟨P, Hc, δ, N, R, h, E⟩
  refine ⟨P, Hc, δ, _, R, h, fun Hc' H' v w l f R' rv hq => ?_⟩
  obtain ⟨s, hs, R2⟩ := R'.store (i := i) (k := fun s => N.nx (δ.set i s)) rv hq
  exact E.nx Hc' H' _ _ l R2 hs
end
/-! ### values one after another, the new ones among them kept as such -/
section
variable {X : Cx} {K : PySem.W.Frag} {P : Pm} {Hc H Hc' H' : Hp} {σ : L2.St} {δ : List Sl} {pos : Pos}
def ghO (v : V) (w : W) : List (Addr × Sl) := match v, w with
  | .ref a, .new xs => [(a, .hl xs)]
  | .ref a, .newd xs => [(a, .hd xs)]
  | _, _ => []
def Pm.add (P : Pm) (l : List (Addr × Sl)) : Pm := { P with gh := l ++ P.gh }
/-- values, each one told with those behind it held -/
def RVn (K : PySem.W.Frag) (P : Pm) (Hc H : Hp) (σ : L2.St) (δ : List Sl) : List V → List W → Prop
  | [], [] => True
  | v :: vs, w :: ws => RVw K P Hc H σ δ v w ∧ RVn K (P.add (ghO v w)) Hc H σ δ vs ws
  | _, _ => False
theorem RW.hold (R : RW K P Hc H σ δ) {v : V} {w : W} (r : RVw K P Hc H σ δ v w) : RW K (P.add (ghO v w)) Hc H σ δ := by
  refine ⟨R.base, R.fresh, R.cold, R.old, R.bag, R.len, R.sl, R.apart, fun q hq => ?_⟩
  rcases List.mem_append.mp hq with hq | hq
  · cases w with
    | new xs =>
      obtain ⟨a, rfl, h1, h2, h3⟩ := r
      rcases List.mem_singleton.mp hq with rfl
      exact ⟨⟨a, rfl, h1, h2⟩, rfl, h3.1⟩
    | newd xs =>
      obtain ⟨a, rfl, h1, h2, h3⟩ := r
      rcases List.mem_singleton.mp hq with rfl
      exact ⟨⟨a, rfl, h1, h2⟩, rfl, h3.1⟩
    | _ => cases v <;> cases hq
  · exact R.gst q hq
theorem RW.drop {l : List (Addr × Sl)} (R : RW K (P.add l) Hc H σ δ) : RW K P Hc H σ δ :=
  ⟨R.base, R.fresh, R.cold, R.old, R.bag, R.len, R.sl, R.apart, fun q hq => R.gst q (List.mem_append_right _ hq)⟩
/-- what was told new is so still, if it was held -/
theorem RVw.kept {v : V} {w : W} {σ' : L2.St} {δ' : List Sl} (r : RVw K P Hc H σ δ v w) (e : Le Hc Hc') (f : Le (nb P.g H) (nb P.g H')) (R : RW K (P.add (ghO v w)) Hc' H' σ' δ') : RVw K P Hc' H' σ' δ' v w := by
  cases w with
  | d x => exact RV.mono e r
  | bag => exact r
  | op u => exact r
  | hot xs => obtain ⟨a, h1, h2⟩ := r; exact ⟨a, h1, h2.mono e f⟩
  | hotd xs => obtain ⟨a, h1, h2⟩ := r; exact ⟨a, h1, h2.mono e f⟩
  | brw x => exact RV.mono (allH_mono e f) r
  | new xs =>
    obtain ⟨a, rfl, h1, h2, h3⟩ := r
    obtain ⟨⟨b, eb, z1, z2⟩, _, z3⟩ := R.gst (a, .hl xs) List.mem_cons_self
    cases eb
    exact ⟨a, rfl, z1, z2, z3, h3.2⟩
  | newd xs =>
    obtain ⟨a, rfl, h1, h2, h3⟩ := r
    obtain ⟨⟨b, eb, z1, z2⟩, _, z3⟩ := R.gst (a, .hd xs) List.mem_cons_self
    cases eb
    exact ⟨a, rfl, z1, z2, z3, h3.2⟩
def lftN (K : PySem.W.Frag) (t : TPa) : TA := fun σ H Q => ∃ P Hc δ q, RW K P Hc H σ δ ∧ t δ q ∧
  ∀ Hc' H' vs ws, Le Hc Hc' → Le (nb P.g H) (nb P.g H') → RW K P Hc' H' σ δ → RVn K P Hc' H' σ δ vs ws → q ws → Q vs H'
def ZN (X : Cx) (es : List Expr) (t : TPa) : Prop := PA X es (lftN X.K t)
def zConsN (ta : TP) (t : TPa) : TPa := fun δ q => ta δ fun w => t δ fun ws => q (w :: ws)
theorem zn_nil : ZN X [] zNil := pa_imp pa_nil fun σ H Q => by
  rintro ⟨P, Hc, δ, q, R, ht, post⟩
  exact post Hc H [] [] (Le.refl _) (Le.refl _) R trivial ht
theorem zn_cons {e : Expr} {es : List Expr} {ta : TP} {t : TPa} (ha : ZE X e ta) (hr : ZN X es t) (hs : starEach (e :: es) X.env = (false, eval e X.env) :: starEach es X.env := by rfl) : ZN X (e :: es) (zConsN ta t) := pa_imp (pa_cons ha hr hs) fun σ H Q => by
  rintro ⟨P, Hc, δ, q, R, ht, post⟩
  refine ⟨P, Hc, δ, _, R, ht, fun Hc' H' v w e f R' rv hq => ⟨P.add (ghO v w), Hc', δ, _, R'.hold rv, hq, fun Hc2 H2 vs ws e2 f2 R2 rvs hq2 => ?_⟩⟩
  exact post Hc2 H2 _ (w :: ws) (e.trans e2) (f.trans f2) R2.drop ⟨rv.kept e2 f2 (R2), rvs⟩ hq2
end
end Zl
end
section
set_option maxHeartbeats 1000000
namespace Zl
open PySem PySem.Spec PyProof.Rows L2
/-! ### what is walked -/
structure Wk (K : PySem.W.Frag) (P : Pm) (Hc0 : Hp) (J : It) (ds : List D) : Prop where
  goes : ∀ i l Hc H σ δ, Le Hc0 Hc → RW K l Hc H σ δ → i < ds.length → J.go i H
  lim : ds.length ≤ sizeLine
  stops : ∀ l Hc H σ δ, Le Hc0 Hc → RW K l Hc H σ δ → J.stop ds.length H
  yields : ∀ i (l : Pm) Hc H σ δ x H' d, Le Hc0 Hc → RW K l Hc H σ δ → ds[i]? = some d → J.yld i H x H' → ∃ Hc', Le Hc Hc' ∧ Le (nb l.g H) (nb l.g H') ∧ RW K l Hc' H' σ δ ∧ RV K Hc' x d
abbrev TIz := List Sl → (List D → Prop) → Prop
def lftI (K : PySem.W.Frag) (t : TIz) : TI := fun σ H R => ∃ P Hc δ q, RW K P Hc H σ δ ∧ t δ q ∧
  ∀ Hc' H' ds J, Le Hc Hc' → Le (nb P.g H) (nb P.g H') → RW K P Hc' H' σ δ → Wk K P Hc' J ds → q ds → R J H'
def ZI (X : Cx) (tg it : Expr) (t : TIz) : Prop := PI X tg it (lftI X.K t)
theorem pi_imp {X : Cx} {tg it : Expr} {t t' : TI} (h : PI X tg it t) (i : ∀ σ H R, t' σ H R → t σ H R) : PI X tg it t' := ⟨fun pins s σ H R I q => h.run pins s σ H R I (i σ H R q)⟩
section
variable {K : PySem.W.Frag} {P : Pm} {Hc H : Hp} {σ : L2.St} {δ : List Sl}
theorem Wk.pure {J : It} {ds : List D} {G : Hp → Prop} (hG : ∀ l Hc' H σ δ, Le Hc Hc' → RW K l Hc' H σ δ → G H) (hz : ds.length ≤ sizeLine) (w : ∃ xs : List V, RVs K Hc xs ds ∧ Walk J xs.length G (YAt xs)) : Wk K P Hc J ds := by
  obtain ⟨xs, r, w⟩ := w
  have hl := r.len
  refine ⟨fun i l Hc' H σ δ le R hi => w.goes i H (by omega) (hG l Hc' H σ δ le R), hz, fun l Hc' H σ δ le R => hl ▸ w.stops H (hG l Hc' H σ δ le R), fun i l Hc' H σ δ x H' d le R e y => ?_⟩
  have hi : i < xs.length := by
    have := (List.getElem?_eq_some_iff.mp e).1
    omega
  obtain ⟨rfl, ex⟩ := w.yields i H x H' hi (hG l Hc' H σ δ le R) y
  obtain ⟨d', e2, r2⟩ := r.getV ex
  rw [e] at e2
  cases e2
  exact ⟨Hc', Le.refl _, Le.refl _, R, r2.mono le⟩
theorem Wk.list {a : Addr} {vs : List V} {ds : List D} (h : Hc a = some (.lst vs)) (hz : ds.length ≤ sizeLine) (r : RVs K Hc vs ds) : Wk K P Hc (Itl K a) ds :=
  .pure (G := fun H => SqL K H a vs) (fun l Hc' H σ δ le R => SqL.of (R.coldH _ _ (le _ _ h))) hz ⟨vs, r, walk_list⟩
theorem Wk.tup {a : Addr} {vs : List V} {ds : List D} (h : Hc a = some (.tup vs)) (hz : ds.length ≤ sizeLine) (r : RVs K Hc vs ds) : Wk K P Hc (Itt K a) ds :=
  .pure (G := fun H => SqT K H a vs) (fun l Hc' H σ δ le R => SqT.of (R.coldH _ _ (le _ _ h))) hz ⟨vs, r, walk_tup⟩
def rngD (lo : Int) (n : Nat) : List D := (List.range n).map fun (i : Nat) => PyData.int (lo + i)
theorem Wk.rng {lo : Int} {n : Nat} (hz : n ≤ sizeLine) : Wk K P Hc (Itr lo n) (rngD lo n) := by
  have hl : (rngD lo n).length = n := by
    unfold rngD
    rw [List.length_map, List.length_range]
  refine ⟨fun i l Hc' H σ δ le R hi => by rw [hl] at hi; exact hi, by rw [hl]; exact hz, fun l Hc' H σ δ le R => Nat.le_of_eq hl.symm, fun i l Hc' H σ δ x H' d le R e y => ?_⟩
  obtain ⟨rfl, rfl⟩ := y
  have hd : d = .int (lo + i) := by
    unfold rngD at e
    rw [List.getElem?_map] at e
    cases q : (List.range n)[i]? with
    | none => rw [q] at e; cases e
    | some j =>
      rw [q] at e
      obtain ⟨h1, h2⟩ := List.getElem?_eq_some_iff.mp q
      rw [List.getElem_range] at h2
      subst h2
      cases e
      rfl
  subst hd
  exact ⟨Hc', Le.refl _, Le.refl _, R, .int _⟩
end
section
variable {X : Cx} {a b e tg : Expr} {te : TP} {ta : TPa} {pos : Pos}
def iLst (t : TP) : TIz := fun δ q => t δ fun w => match w with
  | .d (.list ds) => q ds
  | _ => False
def iTpl (t : TP) : TIz := fun δ q => t δ fun w => match w with
  | .d (.tuple ds) => q ds
  | _ => False
theorem zi_list (h : ZE X e te) : ZI X tg e (iLst te) := pi_imp (pi_list h) fun σ H R => by
  rintro ⟨P, Hc, δ, q, Rw, ht, post⟩
  refine ⟨P, Hc, δ, _, Rw, ht, fun Hc' H' v w l f R' rv hq => ?_⟩
  split at hq
  · rename_i ds
    have z : RV X.K Hc' v (.list ds) := rv
    cases z with
    | lst h1 hz h2 => exact ⟨_, rfl, ⟨_, SqL.of (R'.coldH _ _ h1)⟩, post Hc' H' ds _ l f R' (Wk.list h1 hz h2) hq⟩
  · exact hq.elim
theorem zi_tup (h : ZE X e te) : ZI X tg e (iTpl te) := pi_imp (pi_tup h) fun σ H R => by
  rintro ⟨P, Hc, δ, q, Rw, ht, post⟩
  refine ⟨P, Hc, δ, _, Rw, ht, fun Hc' H' v w l f R' rv hq => ?_⟩
  split at hq
  · rename_i ds
    have z : RV X.K Hc' v (.tuple ds) := rv
    cases z with
    | tup h1 hz h2 => exact ⟨_, rfl, ⟨_, SqT.of (R'.coldH _ _ h1)⟩, post Hc' H' ds _ l f R' (Wk.tup h1 hz h2) hq⟩
  · exact hq.elim
def iRng1z (t : TPa) : TIz := fun δ q => t δ fun ws => match ws with
  | [.d (.int j)] => (-(2 ^ 62) ≤ j ∧ j < 2 ^ 15) ∧ q (rngD 0 j.toNat)
  | _ => False
def iRng2z (t : TPa) : TIz := fun δ q => t δ fun ws => match ws with
  | [.d (.int i), .d (.int j)] => (-(2 ^ 62) ≤ i ∧ i < 2 ^ 62 ∧ -(2 ^ 62) ≤ j ∧ j < 2 ^ 62 ∧ j - i < 2 ^ 15) ∧ q (rngD i (j - i).toNat)
  | _ => False
theorem zi_range1 {p : Pos} (hg : Gl X "range") (hm : X.mg "range" = none) (ha : ZA X [a] ta) (hs : starEach [a] X.env = [(false, eval a X.env)] := by rfl) : ZI X tg (.Call (.Name "range" p) [a] [] pos) (iRng1z ta) := pi_imp (pi_range1 hg hm ha hs) fun σ H R => by
  rintro ⟨P, Hc, δ, q, Rw, ht, post⟩
  refine ⟨P, Hc, δ, _, Rw, ht, fun Hc' H' vs ws l f R' rv hq => ?_⟩
  split at hq
  · obtain ⟨v, rfl, r⟩ := rv.one
    exact ⟨_, by rw [r.int], hq.1.1, by omega, post Hc' H' _ _ l f R' (Wk.rng (by rw [sizeLine_eq]; omega)) hq.2⟩
  · exact hq.elim
theorem zi_range2 {p : Pos} (hg : Gl X "range") (hm : X.mg "range" = none) (ha : ZA X [a, b] ta) (hs : starEach [a, b] X.env = [(false, eval a X.env), (false, eval b X.env)] := by rfl) (hs2 : starEach [b] X.env = [(false, eval b X.env)] := by rfl) :
    ZI X tg (.Call (.Name "range" p) [a, b] [] pos) (iRng2z ta) := pi_imp (pi_range2 hg hm ha hs hs2) fun σ H R => by
  rintro ⟨P, Hc, δ, q, Rw, ht, post⟩
  refine ⟨P, Hc, δ, _, Rw, ht, fun Hc' H' vs ws l f R' rv hq => ?_⟩
  split at hq
  · obtain ⟨v, u, rfl, r, s⟩ := rv.two
    exact ⟨_, _, by rw [r.int, s.int], ⟨hq.1.1, hq.1.2.1, hq.1.2.2.1, hq.1.2.2.2.1⟩, post Hc' H' _ _ l f R' (Wk.rng (by rw [sizeLine_eq]; omega)) hq.2⟩
  · exact hq.elim
/-! ### pairs: enumerate, zip -/
theorem Wk.pairs {K : PySem.W.Frag} {P : Pm} {Hc : Hp} {J : It} {n : Nat} {G : Hp → Prop} {xs ys : Nat → Option V} {ds : List D} (hG : ∀ l Hc' H σ δ, Le Hc Hc' → RW K l Hc' H σ δ → G H) (w : Walk J n G (YPair xs ys)) (hz : n ≤ sizeLine) (hl : ds.length = n)
    (hd : ∀ i d, ds[i]? = some d → ∃ x y p q, xs i = some x ∧ ys i = some y ∧ d = .tuple [p, q] ∧ RV K Hc x p ∧ RV K Hc y q) : Wk K P Hc J ds := by
  refine ⟨fun i l Hc' H σ δ le R hi => w.goes i H (by omega) (hG l Hc' H σ δ le R), by rw [hl]; exact hz, fun l Hc' H σ δ le R => hl ▸ w.stops H (hG l Hc' H σ δ le R), fun i l Hc' H σ δ v H' d le R e y => ?_⟩
  have hi : i < n := by
    have := (List.getElem?_eq_some_iff.mp e).1
    omega
  obtain ⟨T, x, z, rfl, hT, rfl, h1, h2⟩ := w.yields i H v H' hi (hG l Hc' H σ δ le R) y
  obtain ⟨x', z', p, q, e1, e2, rfl, r1, r2⟩ := hd i d e
  rw [h1] at e1
  rw [h2] at e2
  cases e1
  cases e2
  have ln : Le Hc' (upd Hc' T (.tup [x, z])) := le_new (R.free hT).1
  exact ⟨upd Hc' T (.tup [x, z]), ln, nb_new hT, R.newC hT, RV.tup upd_same (by show 2 ≤ sizeLine; decide) (.cons (r1.mono (le.trans ln)) (.one (r2.mono (le.trans ln))))⟩
def enumD (ds : List D) : List D := ds.mapIdx fun i d => .tuple [.int (i : Nat), d]
def zipD (xs ys : List D) : List D := (xs.zip ys).map fun p => .tuple [p.1, p.2]
def iEnumL (t : TPa) : TIz := fun δ q => t δ fun ws => match ws with
  | [.d (.list ds)] => q (enumD ds)
  | _ => False
theorem enumD_at {ds : List D} {i : Nat} {d : D} (e : (enumD ds)[i]? = some d) : ∃ y, ds[i]? = some y ∧ d = .tuple [.int (i : Nat), y] := by
  unfold enumD at e
  rw [List.getElem?_mapIdx] at e
  cases q : ds[i]? with
  | none => rw [q] at e; cases e
  | some y =>
    rw [q] at e
    cases e
    exact ⟨y, rfl, rfl⟩
theorem zi_enumL {p tpos : Pos} {elts : List Expr} {kk : Nat} (hg : Gl X "enumerate") (hm : X.mg "enumerate" = none) (ha : ZA X [e] ta) (hs : starEach [e] X.env = [(false, eval e X.env)] := by rfl) :
    ZI X (.Tuple elts kk tpos) (.Call (.Name "enumerate" p) [e] [] pos) (iEnumL ta) := pi_imp (pi_enum hg hm ha hs) fun σ H R => by
  rintro ⟨P, Hc, δ, q, Rw, ht, post⟩
  refine ⟨P, Hc, δ, _, Rw, ht, fun Hc' H' vs ws l f R' rv hq => ?_⟩
  split at hq
  · rename_i ds
    obtain ⟨v, rfl, r⟩ := rv.one
    have z : RV X.K Hc' v (.list ds) := r
    cases z with
    | lst h1 hz h2 =>
      rename_i a xs
      refine ⟨a, xs, rfl, SqL.of (R'.coldH _ _ h1), post Hc' H' _ _ l f R' (Wk.pairs (fun l Hc2 H2 σ2 δ2 le R2 => SqL.of (R2.coldH _ _ (le _ _ h1))) walk_enum (by rw [h2.len]; exact hz) (by unfold enumD; rw [List.length_mapIdx, h2.len]) fun i d e => ?_) hq⟩
      obtain ⟨y, e1, rfl⟩ := enumD_at e
      obtain ⟨x, e2, r2⟩ := h2.get e1
      exact ⟨_, x, _, y, rfl, e2, rfl, .int _, r2⟩
  · exact hq.elim
theorem zipD_at {xs ys : List D} {i : Nat} {d : D} (e : (zipD xs ys)[i]? = some d) : ∃ x y, xs[i]? = some x ∧ ys[i]? = some y ∧ d = .tuple [x, y] := by
  unfold zipD at e
  rw [List.getElem?_map] at e
  cases q : (xs.zip ys)[i]? with
  | none => rw [q] at e; cases e
  | some p =>
    rw [q] at e
    cases e
    obtain ⟨h1, h2⟩ := List.getElem?_zip_eq_some.mp q
    exact ⟨p.1, p.2, h1, h2, rfl⟩
def iZipW (t : TPa) : TIz := fun δ q => t δ fun ws => match ws with
  | [.d (.list xs), .d (.list ys)] => q (zipD xs ys)
  | [.d (.tuple xs), .d (.tuple ys)] => q (zipD xs ys)
  | _ => False
theorem walk_zipT {K : PySem.W.Frag} {a b : Addr} {xs ys : List V} {n : Nat} (hn : n = min xs.length ys.length) : Walk (RZ.ItzT K a b) n (fun H => SqT K H a xs ∧ SqT K H b ys) (YPair (fun i => xs[i]?) (fun i => ys[i]?)) := by
  subst hn
  refine ⟨fun i _ hi q => ?_, fun _ q => ⟨xs, ys, q.1, q.2, by omega⟩, fun i H v H' _ q y => ?_⟩
  · have h1 : i < xs.length := by omega
    have h2 : i < ys.length := by omega
    exact ⟨xs, ys, xs[i], ys[i], q.1, q.2, by simp [h1], by simp [h2]⟩
  · obtain ⟨T, x, z, h1, h2, h3, h4, h5⟩ := y
    exact ⟨T, x, z, h1, h2, h3, h4 xs q.1, h5 ys q.2⟩
theorem zi_zip {p tpos : Pos} {elts : List Expr} {kk : Nat} (hg : Gl X "zip") (hm : X.mg "zip" = none) (ha : ZA X [a, b] ta)
    (hs : starEach [a, b] X.env = (false, eval a X.env) :: starEach [b] X.env := by rfl) (hpl : (backTo pos (starEach [b] X.env)).any (·.1) = false := by rfl) :
    ZI X (.Tuple elts kk tpos) (.Call (.Name "zip" p) [a, b] [] pos) (iZipW ta) := pi_imp (RZ.pi_zipA hg hm ha hs hpl) fun σ H R => by
  rintro ⟨P, Hc, δ, q, Rw, ht, post⟩
  refine ⟨P, Hc, δ, _, Rw, ht, fun Hc' H' vs ws l f R' rv hq => ?_⟩
  split at hq
  · rename_i xs ys
    obtain ⟨v, u, rfl, r, s⟩ := rv.two
    have z : RV X.K Hc' v (.list xs) := r
    have z' : RV X.K Hc' u (.list ys) := s
    cases z with
    | lst h1 hz h2 =>
      cases z' with
      | lst h3 _ h4 =>
        refine ⟨_, _, _, _, rfl, .inl ⟨SqL.of (R'.coldH _ _ h1), SqL.of (R'.coldH _ _ h3), post Hc' H' _ _ l f R' (Wk.pairs (fun l Hc2 H2 σ2 δ2 le R2 => ⟨SqL.of (R2.coldH _ _ (le _ _ h1)), SqL.of (R2.coldH _ _ (le _ _ h3))⟩) (walk_zip rfl) (by rw [h2.len]; omega) ?_ fun i d e => ?_) hq⟩⟩
        · unfold zipD
          rw [List.length_map, List.length_zip, h2.len, h4.len]
        · obtain ⟨x, y, e1, e2, rfl⟩ := zipD_at e
          obtain ⟨x', e3, r2⟩ := h2.get e1
          obtain ⟨y', e4, r3⟩ := h4.get e2
          exact ⟨x', y', x, y, e3, e4, rfl, r2, r3⟩
  · rename_i xs ys
    obtain ⟨v, u, rfl, r, s⟩ := rv.two
    have z : RV X.K Hc' v (.tuple xs) := r
    have z' : RV X.K Hc' u (.tuple ys) := s
    cases z with
    | tup h1 hz h2 =>
      cases z' with
      | tup h3 _ h4 =>
        refine ⟨_, _, _, _, rfl, .inr ⟨SqT.of (R'.coldH _ _ h1), SqT.of (R'.coldH _ _ h3), post Hc' H' _ _ l f R' (Wk.pairs (fun l Hc2 H2 σ2 δ2 le R2 => ⟨SqT.of (R2.coldH _ _ (le _ _ h1)), SqT.of (R2.coldH _ _ (le _ _ h3))⟩) (walk_zipT rfl) (by rw [h2.len]; omega) ?_ fun i d e => ?_) hq⟩⟩
        · unfold zipD
          rw [List.length_map, List.length_zip, h2.len, h4.len]
        · obtain ⟨x, y, e1, e2, rfl⟩ := zipD_at e
          obtain ⟨x', e3, r2⟩ := h2.get e1
          obtain ⟨y', e4, r3⟩ := h4.get e2
          exact ⟨x', y', x, y, e3, e4, rfl, r2, r3⟩
  · exact hq.elim
/-! ### loops -/
def zLoop (g : TGz) (tb : TZ) (N : Ez) : List D → List Sl → Prop
  | [], δ => N.nx δ
  | d :: ds, δ => g (.d d) δ fun δ1 => tb { nx := zLoop g tb N ds, rt := N.rt, bk := N.nx, ct := zLoop g tb N ds } δ1
def zFor (it : TIz) (g : TGz) (tb : TZ) : TZ := fun N δ => it δ fun ds => zLoop g tb N ds δ
theorem zs_for {it : Expr} {body : List Stmt} {wi : TIz} {g : TGz} {tb : TZ} (hp : PassesOwn (model X.prog X.w) X.A X.env X.xe) (hc : X.calm = true) (hi : ZI X tg it wi) (hg : ZG X tg g) (hb : ZB X body tb)
    (hs : ∀ x, foldedSetIterable it X.env x = pure x := by intro _; rfl) : ZS X (.For tg it body [] pos) (zFor wi g tb) := ps_imp (ps_for hp hc hi hg hb hs) fun Dn σ H => by
  rintro ⟨P, Hc, δ, N, R, h, E⟩
  refine ⟨P, Hc, δ, _, R, h, fun Hc' H' ds J l f R' wk hq => ?_⟩
  refine ⟨fun i m σ H => ∃ Hc2 δ2, Le Hc' Hc2 ∧ RW X.K P Hc2 H σ δ2 ∧ m = ds.length - i ∧ i ≤ ds.length ∧ zLoop g tb N (ds.drop i) δ2, ⟨ds.length, Hc', δ, Le.refl _, R', by omega, Nat.zero_le _, hq⟩, ?_⟩
  rintro i m σ2 H2 ⟨Hc2, δ2, l2, R2, rfl, hi, hz⟩
  by_cases hlt : i < ds.length
  · refine .inr ⟨wk.goes i P Hc2 H2 σ2 δ2 l2 R2 hlt, fun σ3 H3 => ∃ Hc3 δ3, Le Hc' Hc3 ∧ RW X.K P Hc3 H3 σ3 δ3 ∧ zLoop g tb N (ds.drop (i + 1)) δ3, ?_, ?_⟩
    · rintro σ3 H3 ⟨Hc3, δ3, l3, R3, h3⟩
      exact ⟨ds.length - (i + 1), by omega, Hc3, δ3, l3, R3, rfl, hlt, h3⟩
    · intro x H3 y
      have e : ds[i]? = some ds[i] := by simp [hlt]
      obtain ⟨Hc3, l3, f3, R3, rv⟩ := wk.yields i P Hc2 H2 σ2 δ2 x H3 _ l2 R2 e y
      have hz : zLoop g tb N (ds[i] :: ds.drop (i + 1)) δ2 := by
        rw [List.drop_eq_getElem_cons hlt] at hz
        exact hz
      refine ⟨P, Hc3, δ2, .d ds[i], _, R3, rv, hz, fun Hc4 H4 σ4 δ4 l4 R4 h4 => ?_⟩
      refine ⟨P, Hc4, δ4, _, R4, h4, ?_, ?_, ?_, ?_⟩
      · exact fun Hc5 H5 σ5 δ5 l5 R5 h5 => ⟨Hc5, δ5, ((l2.trans l3).trans l4).trans l5, R5, h5⟩
      · exact fun Hc5 H5 σ5 δ5 v w l5 R5 rv5 h5 => E.rt Hc5 H5 σ5 δ5 v w ((((l.trans l2).trans l3).trans l4).trans l5) R5 rv5 h5
      · exact fun Hc5 H5 σ5 δ5 l5 R5 h5 => E.nx Hc5 H5 σ5 δ5 ((((l.trans l2).trans l3).trans l4).trans l5) R5 h5
      · exact fun Hc5 H5 σ5 δ5 l5 R5 h5 => ⟨Hc5, δ5, ((l2.trans l3).trans l4).trans l5, R5, h5⟩
  · have ei : i = ds.length := by omega
    subst ei
    rw [List.drop_length] at hz
    exact .inl ⟨wk.stops P Hc2 H2 σ2 δ2 l2 R2, E.nx Hc2 H2 σ2 δ2 (l.trans l2) R2 hz⟩
def zWhile (c : TPt) (tb : TZ) : TZ := fun N δ => ∃ W : Nat → List Sl → Prop, (∃ m, W m δ) ∧ ∀ m δ, W m δ →
  c δ fun k => if k = true then tb { nx := fun δ' => ∃ m', m' < m ∧ W m' δ', rt := N.rt, bk := N.nx, ct := fun δ' => ∃ m', m' < m ∧ W m' δ' } δ else N.nx δ
theorem zs_while {c : Expr} {body : List Stmt} {tc : TPt} {tb : TZ} (hp : PassesOwn (model X.prog X.w) X.A X.env X.xe) (hc : ZT X c tc) (hb : ZB X body tb) : ZS X (.While c body [] pos) (zWhile tc tb) := ps_imp (ps_while hp hc hb) fun Dn σ H => by
  rintro ⟨P, Hc, δ, N, R, ⟨W, ⟨m0, w0⟩, turn⟩, E⟩
  refine ⟨fun m σ H => ∃ Hc2 δ2, Le Hc Hc2 ∧ RW X.K P Hc2 H σ δ2 ∧ W m δ2, ⟨m0, Hc, δ, Le.refl _, R, w0⟩, ?_⟩
  rintro m σ2 H2 ⟨Hc2, δ2, l2, R2, w2⟩
  refine ⟨P, Hc2, δ2, _, R2, turn m δ2 w2, fun Hc3 H3 k l3 f3 R3 hq => ?_⟩
  cases k with
  | true =>
    refine ⟨fun σ4 H4 => ∃ Hc4 δ4, Le Hc Hc4 ∧ RW X.K P Hc4 H4 σ4 δ4 ∧ ∃ m', m' < m ∧ W m' δ4, ?_, ?_⟩
    · rintro σ4 H4 ⟨Hc4, δ4, l4, R4, m', hm, w4⟩
      exact ⟨m', hm, Hc4, δ4, l4, R4, w4⟩
    · refine ⟨P, Hc3, δ2, _, R3, hq, ?_, ?_, ?_, ?_⟩
      · exact fun Hc5 H5 σ5 δ5 l5 R5 h5 => ⟨Hc5, δ5, (l2.trans l3).trans l5, R5, h5⟩
      · exact fun Hc5 H5 σ5 δ5 v w l5 R5 rv5 h5 => E.rt Hc5 H5 σ5 δ5 v w ((l2.trans l3).trans l5) R5 rv5 h5
      · exact fun Hc5 H5 σ5 δ5 l5 R5 h5 => E.nx Hc5 H5 σ5 δ5 ((l2.trans l3).trans l5) R5 h5
      · exact fun Hc5 H5 σ5 δ5 l5 R5 h5 => ⟨Hc5, δ5, (l2.trans l3).trans l5, R5, h5⟩
  | false => exact E.nx Hc3 H3 σ2 δ2 (l2.trans l3) R3 hq
end
/-! ### lists and dicts that are changed -/
section
variable {X : Cx} {e k : Expr} {es : List Expr} {te tk : TP} {ta : TPa} {pos pos' apos cpos : Pos}
def zHotL (i : Nat) (ta : TPa) (rz : List D → List W → (List D → Prop) → Prop) : TZ := fun N δ => match δ[i]? with
  | some (.hl xs) => ta δ fun ws => rz xs ws fun ys => N.nx (δ.set i (.hl ys))
  | _ => False
/-- what a method of a list asks and does, over data -/
def HotM (K : PySem.W.Frag) (rz : List D → List W → (List D → Prop) → Prop) (r : V → List V → Hp → VK → Prop) : Prop :=
  ∀ P Hc H σ δ a vs xs us ws k Q, RW K P Hc H σ δ → H a = some (.lst vs) → Hc a = none → RVs K Hc vs xs → xs.length ≤ sizeLine → RVa K P Hc H σ δ us ws → rz xs ws k → (∀ vs' xs', RVs K Hc vs' xs' → xs'.length ≤ sizeLine → k xs' → Q .non (upd H a (.lst vs'))) → r (.ref a) us H Q
theorem RW.slL {K : PySem.W.Frag} {P : Pm} {Hc H : Hp} {σ : L2.St} {δ : List Sl} {i : Nat} {xs : List D} (R : RW K P Hc H σ δ) (e : δ[i]? = some (.hl xs)) : ∃ a vs, σ[i]? = some (some (.ref a)) ∧ Hc a = none ∧ H a = some (.lst vs) ∧ P.F a = none ∧ P.g ≠ some a ∧ RVs K Hc vs xs ∧ xs.length ≤ sizeLine := by
  obtain ⟨a, h1, h2, vs, h3, h4, h5, h6⟩ := R.sl i _ e
  exact ⟨a, vs, h1, h2, h3, h4, h5, h6⟩
theorem RW.slD {K : PySem.W.Frag} {P : Pm} {Hc H : Hp} {σ : L2.St} {δ : List Sl} {i : Nat} {xs : List (Key × D)} (R : RW K P Hc H σ δ) (e : δ[i]? = some (.hd xs)) : ∃ a vs, σ[i]? = some (some (.ref a)) ∧ Hc a = none ∧ H a = some (.dK vs) ∧ P.F a = none ∧ P.g ≠ some a ∧ RKs K Hc vs xs := by
  obtain ⟨a, h1, h2, vs, h3, h4, h5, h6⟩ := R.sl i _ e
  exact ⟨a, vs, h1, h2, h3, h4, h5, h6⟩
theorem RW.putL {K : PySem.W.Frag} {P : Pm} {Hc H : Hp} {σ : L2.St} {δ : List Sl} {i : Nat} {xs ys : List D} {a : Addr} {vs : List V} (R : RW K P Hc H σ δ) (e : δ[i]? = some (.hl xs)) (ha : σ[i]? = some (some (.ref a))) (r : RVs K Hc vs ys) (hz : ys.length ≤ sizeLine) : RW K P Hc (upd H a (.lst vs)) σ (δ.set i (.hl ys)) :=
  R.mut e rfl ha fun hF hg hc => ⟨a, rfl, hc, vs, upd_same, hF, hg, r, hz⟩
theorem RW.putD {K : PySem.W.Frag} {P : Pm} {Hc H : Hp} {σ : L2.St} {δ : List Sl} {i : Nat} {xs ys : List (Key × D)} {a : Addr} {vs : List (Key × V)} (R : RW K P Hc H σ δ) (e : δ[i]? = some (.hd xs)) (ha : σ[i]? = some (some (.ref a))) (r : RKs K Hc vs ys) : RW K P Hc (upd H a (.dK vs)) σ (δ.set i (.hd ys)) :=
  R.mut e rfl ha fun hF hg hc => ⟨a, rfl, hc, vs, upd_same, hF, hg, r⟩
theorem zs_hotL {name x : Str} {np : Pos} {i : Nat} {r : V → List V → Hp → VK → Prop} {rz : List D → List W → (List D → Prop) → Prop} (hz : HotM X.K rz r)
    (hP : ∀ {t : TA}, PA X (e :: es) t → PS X (.Expr (.Call (.Attribute (.Name x np) name apos) (e :: es) [] cpos) pos) (tDrop (tBM X.K "list" r (tVar i) t))) (ha : ZA X (e :: es) ta) :
    ZS X (.Expr (.Call (.Attribute (.Name x np) name apos) (e :: es) [] cpos) pos) (zHotL i ta rz) := ps_imp (hP ha) fun Dn σ H => by
  rintro ⟨P, Hc, δ, N, R, h, E⟩
  unfold zHotL at h
  split at h
  · rename_i xs e1
    obtain ⟨a, vs, h1, h2, h3, h4, h5, h6, _⟩ := R.slL e1
    refine ⟨.ref a, h1, .inl ⟨rfl, vs, SqL.of h3⟩, P, Hc, δ, _, R, h, fun Hc' H' us ws l f R' rv hq => ?_⟩
    obtain ⟨a', vs', z1, z2, z3, z4, z5, z6, z7⟩ := R'.slL e1
    rw [h1] at z1
    cases z1
    exact hz P Hc' H' σ δ a vs' xs us ws _ _ R' z3 z2 z6 z7 rv hq fun vs2 xs2 r2 l2 hk => E.nx Hc' _ σ _ l (R'.putL e1 h1 r2 l2) hk
  · exact h.elim
def rAppZ : List D → List W → (List D → Prop) → Prop := fun xs ws k => match ws with
  | [.d d] => xs.length < sizeLine ∧ k (xs ++ [d])
  | _ => False
theorem m_append {K : PySem.W.Frag} : HotM K rAppZ rAppend := by
  intro P Hc H σ δ a vs xs us ws k Q R ha hn r rz rv hr fin
  unfold rAppZ at hr
  split at hr
  · obtain ⟨v, rfl, r1⟩ := rv.one
    exact ⟨a, vs, v, rfl, rfl, ha, by rw [r.len]; exact hr.1, fin _ _ (r.append (.one r1)) (by rw [List.length_append]; exact hr.1) hr.2⟩
  · exact hr.elim
def rExtZ : List D → List W → (List D → Prop) → Prop := fun xs ws k => match ws with
  | [w] => (match lstW w with
    | some ys => xs.length + ys.length ≤ sizeLine ∧ k (xs ++ ys)
    | none => False)
  | _ => False
theorem m_extend {K : PySem.W.Frag} : HotM K rExtZ rExtend := by
  intro P Hc H σ δ a vs xs us ws k Q R ha hn r rz rv hr fin
  unfold rExtZ at hr
  split at hr
  · rename_i w
    split at hr
    · rename_i ys e
      obtain ⟨v, rfl, r1⟩ := rv.one
      obtain ⟨b, zs, rfl, h1, h2, _⟩ := r1.lst R e
      exact ⟨a, b, vs, zs, rfl, rfl, ha, h1, by rw [r.len, h2.len]; exact hr.1, fin _ _ (r.append h2) (by rw [List.length_append]; exact hr.1) hr.2⟩
    · exact hr.elim
  · exact hr.elim
def rExtTZ : List D → List W → (List D → Prop) → Prop := fun xs ws k => match ws with
  | [.d (.tuple ys)] => xs.length + ys.length ≤ sizeLine ∧ k (xs ++ ys)
  | _ => False
theorem m_extT {K : PySem.W.Frag} (hT : ∀ {a b : Addr} {vs zs : List V} {H : Hp} {Q : VK}, H a = some (.lst vs) → H b = some (.tup zs) → vs.length + zs.length ≤ sizeLine → Q .non (upd H a (.lst (vs ++ zs))) → rT (.ref a) [.ref b] H Q) : HotM K rExtTZ rT := by
  intro P Hc H σ δ a vs xs us ws k Q R ha hn r rz rv hr fin
  unfold rExtTZ at hr
  split at hr
  · obtain ⟨v, rfl, r1⟩ := rv.one
    obtain ⟨b, zs, rfl, h1, _, h2, _⟩ := RVw.tup R r1
    exact hT ha h1 (by rw [r.len, h2.len]; exact hr.1) (fin _ _ (r.append h2) (by rw [List.length_append]; exact hr.1) hr.2)
  · exact hr.elim
def rInsZ : List D → List W → (List D → Prop) → Prop := fun xs ws k => match ws with
  | [.d (.int i), .d d] => xs.length < sizeLine ∧ 0 ≤ i ∧ i < 2 ^ 63 ∧ k (xs.take i.toNat ++ [d] ++ xs.drop i.toNat)
  | _ => False
theorem m_insert {K : PySem.W.Frag} : HotM K rInsZ (fun x vs H Q => ∃ (l : Addr) (xs : List V) (i : Int) (y : V), x = .ref l ∧ vs = [.int i, y] ∧ H l = some (.lst xs) ∧ xs.length < sizeLine ∧ 0 ≤ i ∧ i < 2 ^ 63 ∧
    Q .non (upd H l (.lst (xs.take i.toNat ++ [y] ++ xs.drop i.toNat)))) := by
  intro P Hc H σ δ a vs xs us ws k Q R ha hn r rz rv hr fin
  unfold rInsZ at hr
  split at hr
  · obtain ⟨v, u, rfl, r1, r2⟩ := rv.two
    exact ⟨a, vs, _, u, rfl, by rw [r1.int], ha, by rw [r.len]; exact hr.1, hr.2.1, hr.2.2.1, fin _ _ (((r.take _).append (.one r2)).append (r.drop _)) (by simp only [List.length_append, List.length_take, List.length_drop, List.length_cons, List.length_nil]; have := hr.1; omega) hr.2.2.2⟩
  · exact hr.elim
/-- xs[i] = e -/
def zSetL (j : Nat) (te ti : TP) : TZ := fun N δ => te δ fun w => match δ[j]?, held w with
  | some (.hl xs), .d d => ti δ fun z => (match z with
    | .d (.int i) => (match ixN xs.length i with
      | some m => N.nx (δ.set j (.hl (xs.set m d)))
      | none => False)
    | _ => False)
  | _, _ => False
theorem held_d {w : W} {d : D} (h : held w = .d d) : w = .d d := by
  cases w <;> first | exact h | cases h
theorem zs_setL {x : Str} {np : Pos} {j : Nat} (he : ZE X e te) (hi : ZE X k tk)
    (hP : ∀ {t u : TE}, PE X e t → PE X k u → PS X (.Assign [.Subscript (.Name x np) k pos'] e pos) (tAsg t (gSub (tVar j) u rSetL))) : ZS X (.Assign [.Subscript (.Name x np) k pos'] e pos) (zSetL j te tk) := ps_imp (hP he hi) fun Dn σ H => by
  rintro ⟨P, Hc, δ, N, R, h, E⟩
  refine ⟨P, Hc, δ, _, R, h, fun Hc' H' v w l f R' rv hq => ?_⟩
  split at hq
  · rename_i xs d e1 e2
    cases held_d e2
    obtain ⟨a, vs, h1, h2, h3, h4, h5, h6, _⟩ := R'.slL e1
    refine ⟨.ref a, h1, P, Hc', δ, _, R', hq, fun Hc2 H2 u z l2 f2 R2 ru hq2 => ?_⟩
    split at hq2
    · rename_i i
      split at hq2
      · rename_i m em
        obtain ⟨a', vs', z1, z2, z3, z4, z5, z6, z7⟩ := R2.slL e1
        rw [h1] at z1
        cases z1
        exact ⟨a, vs', i, m, rfl, ru.int, z3, by rw [z6.len]; exact em, E.nx Hc2 _ σ _ (l.trans l2) (R2.putL e1 h1 (z6.set (RV.mono l2 rv) m) (by rw [List.length_set]; exact z7)) hq2⟩
      · exact hq2.elim
    · exact hq2.elim
  · exact hq.elim
/-! ### dicts that are changed -/
def keyW : W → Option Key
  | .d (.int i) => some (.inl i)
  | .d (.str x) => some (.inr x)
  | _ => none
theorem keyW_ok {K : PySem.W.Frag} {P : Pm} {Hc H : Hp} {σ : L2.St} {δ : List Sl} {v : V} {w : W} {k : Key} (h : RVw K P Hc H σ δ v w) (e : keyW w = some k) : v = kV k := by
  unfold keyW at e
  split at e
  · cases e
    exact h.int
  · cases e
    exact h.str
  · cases e
def lookD (kvs : List (Key × D)) (k : Key) : Option D := (kvs.find? fun kv => decide (kv.1 = k)).map (·.2)
def putKD (kvs : List (Key × D)) (k : Key) (v : D) : List (Key × D) :=
  if (kvs.any fun kv => decide (kv.1 = k)) = true then kvs.map (fun kv => if kv.1 = k then (kv.1, v) else kv) else kvs ++ [(k, v)]
section
variable {K : PySem.W.Frag} {H : Hp}
theorem RKs.len : ∀ {v : List (Key × V)} {d : List (Key × D)}, RKs K H v d → v.length = d.length
  | _, _, .nil => rfl
  | _, _, .cons _ t => congrArg (· + 1) (RKs.len t)
theorem RKs.find : ∀ {v : List (Key × V)} {d : List (Key × D)} (k : Key), RKs K H v d → (∀ y, lookD d k = some y → ∃ x, valV v k = some x ∧ RV K H x y) ∧ (lookD d k = none → valV v k = none)
  | _, _, k, .nil => ⟨fun y e => (by cases e), fun _ => rfl⟩
  | p :: ps, q :: qs, k, .cons ⟨h1, h2⟩ t => by
    obtain ⟨i1, i2⟩ := RKs.find k t
    obtain ⟨pk, pv⟩ := p
    obtain ⟨qk, qv⟩ := q
    have h1 : pk = qk := h1
    subst h1
    unfold lookD valV at *
    rw [List.find?_cons, List.find?_cons]
    by_cases e : pk = k
    · rw [decide_eq_true e]
      refine ⟨fun y ey => ?_, fun ey => ?_⟩
      · have ey : some qv = some y := ey
        cases ey
        exact ⟨pv, rfl, h2⟩
      · have ey : some qv = none := ey
        cases ey
    · rw [decide_eq_false e]
      exact ⟨i1, i2⟩
theorem RKs.any : ∀ {v : List (Key × V)} {d : List (Key × D)} (k : Key), RKs K H v d → (v.any fun kv => decide (kv.1 = k)) = (d.any fun kv => decide (kv.1 = k))
  | _, _, _, .nil => rfl
  | p :: ps, q :: qs, k, .cons ⟨h1, _⟩ t => by
    have h1 : p.1 = q.1 := h1
    rw [List.any_cons, List.any_cons, h1, RKs.any k t]
theorem RKs.map : ∀ {v : List (Key × V)} {d : List (Key × D)} (k : Key) {x : V} {y : D}, RV K H x y → RKs K H v d → RKs K H (v.map fun kv => if kv.1 = k then (kv.1, x) else kv) (d.map fun kv => if kv.1 = k then (kv.1, y) else kv)
  | _, _, _, _, _, _, .nil => .nil
  | p :: ps, q :: qs, k, x, y, r, .cons ⟨h1, h2⟩ t => by
    have h1 : p.1 = q.1 := h1
    refine .cons ?_ (RKs.map k r t)
    show (if p.1 = k then (p.1, x) else p).1 = (if q.1 = k then (q.1, y) else q).1 ∧ RV K H (if p.1 = k then (p.1, x) else p).2 (if q.1 = k then (q.1, y) else q).2
    rw [h1]
    by_cases e : q.1 = k
    · rw [if_pos e, if_pos e]
      exact ⟨rfl, r⟩
    · rw [if_neg e, if_neg e]
      exact ⟨h1, h2⟩
theorem RKs.snoc : ∀ {v : List (Key × V)} {d : List (Key × D)} {k : Key} {x : V} {y : D}, RV K H x y → RKs K H v d → RKs K H (v ++ [(k, x)]) (d ++ [(k, y)])
  | _, _, _, _, _, r, .nil => .cons ⟨rfl, r⟩ .nil
  | _, _, _, _, _, r, .cons h t => .cons h (RKs.snoc r t)
theorem RKs.put {v : List (Key × V)} {d : List (Key × D)} {k : Key} {x : V} {y : D} (r : RV K H x y) (h : RKs K H v d) : RKs K H (putK v k x) (putKD d k y) := by
  unfold putK putKD
  rw [h.any k]
  split
  · exact h.map k r
  · exact h.snoc r
end
/-- d[k] = e -/
def zPutD (j : Nat) (te ti : TP) : TZ := fun N δ => te δ fun w => match δ[j]?, held w with
  | some (.hd xs), .d d => ti δ fun z => (match keyW z with
    | some k => xs.length < sizeLine ∧ N.nx (δ.set j (.hd (putKD xs k d)))
    | none => False)
  | _, _ => False
theorem zs_putD {x : Str} {np : Pos} {j : Nat} (he : ZE X e te) (hi : ZE X k tk)
    (hP : ∀ {t u : TE}, PE X e t → PE X k u → PS X (.Assign [.Subscript (.Name x np) k pos'] e pos) (sDPut (tVar j) u t)) : ZS X (.Assign [.Subscript (.Name x np) k pos'] e pos) (zPutD j te tk) := ps_imp (hP he hi) fun Dn σ H => by
  rintro ⟨P, Hc, δ, N, R, h, E⟩
  refine ⟨P, Hc, δ, _, R, h, fun Hc' H' v w l f R' rv hq => ?_⟩
  split at hq
  · rename_i xs d e1 e2
    cases held_d e2
    obtain ⟨a, vs, h1, h2, h3, h4, h5, h6⟩ := R'.slD e1
    refine ⟨.ref a, h1, P, Hc', δ, _, R', hq, fun Hc2 H2 u z l2 f2 R2 ru hq2 => ?_⟩
    split at hq2
    · rename_i k ek
      obtain ⟨a', vs', z1, z2, z3, z4, z5, z6⟩ := R2.slD e1
      rw [h1] at z1
      cases z1
      have hk := keyW_ok ru ek
      subst hk
      exact ⟨a, _, rfl, DPut.k z3 (by rw [z6.len]; exact hq2.1), E.nx Hc2 _ σ _ (l.trans l2) (R2.putD e1 h1 (z6.put (RV.mono l2 rv))) hq2.2⟩
    · exact hq2.elim
  · exact hq.elim
/-- the pairs of a dict, whoever has it -/
def dctW : W → Option (List (Key × D))
  | .hotd xs => some xs
  | .newd xs => some xs
  | .d (.dict xs) => xs.mapM fun p => match p.1 with
    | .int i => some (.inl i, p.2)
    | .str x => some (.inr x, p.2)
    | _ => none
  | _ => none
theorem RVd.ks {K : PySem.W.Frag} {H : Hp} : ∀ {v : List (Key × V)} {d : List (D × D)}, RVd K H v d → ∃ ks : List (Key × D), (d.mapM fun p => match p.1 with
    | PyData.int i => some ((Sum.inl i : Key), p.2)
    | PyData.str x => some (Sum.inr x, p.2)
    | _ => none) = some ks ∧ RKs K H v ks
  | _, _, .nil => ⟨[], rfl, .nil⟩
  | _, _, .cons (k := k) (d := d) (ds := ds) h t => by
    obtain ⟨ks, e, r⟩ := t.ks
    refine ⟨(k, d) :: ks, ?_, .cons ⟨rfl, h⟩ r⟩
    rw [List.mapM_cons, e]
    cases k <;> rfl
theorem RVw.dctW {K : PySem.W.Frag} {P : Pm} {Hc H : Hp} {σ : L2.St} {δ : List Sl} {v : V} {w : W} {xs : List (Key × D)} (R : RW K P Hc H σ δ) (h : RVw K P Hc H σ δ v w) (e : Zl.dctW w = some xs) : ∃ a vs, v = .ref a ∧ Rd H a (.dK vs) ∧ RKs K Hc vs xs := by
  cases w with
  | d x =>
    cases x with
    | dict ys =>
      have z : RV K Hc v (.dict ys) := h
      cases z with
      | dct h1 h2 =>
        obtain ⟨ks, e2, r⟩ := h2.ks
        have e3 : some ks = some xs := e2.symm.trans e
        cases e3
        exact ⟨_, _, rfl, rd_le R.coldH h1, r⟩
    | _ => cases e
  | hotd ys =>
    cases e
    obtain ⟨a, h1, vs, h2, _, _, h3⟩ := h
    exact ⟨a, vs, h1, .inl h2, h3⟩
  | newd ys =>
    cases e
    obtain ⟨a, h1, _, ⟨vs, h2, _, _, h3⟩, _⟩ := h
    exact ⟨a, vs, h1, .inl h2, h3⟩
  | _ => cases e
def rDGet : W → W → (W → Prop) → Prop := fun x y q => match dctW x, keyW y with
  | some xs, some k => (match lookD xs k with
    | some d => q (.d d)
    | none => False)
  | _, _ => False
theorem z_dget (hu : X.A.units + 1 < cLine) (ha : ZE X e te) (hb : ZE X k tk) (hs : NoSl k := by exact fun _ _ => rfl) : ZE X (.Subscript e k pos) (bZ te tk rDGet) := pe_imp (pe_dget hu ha hb hs) fun σ H Q z => by
  refine lft_bin (R := fun x y H2 Q => ∃ a v, x = .ref a ∧ DGet H2 a y (some v) ∧ Q v H2) (fun P Hc H σ δ v u w x q Q R rv ru hr post => ?_) z
  unfold rDGet at hr
  split at hr
  · rename_i xs k e1 e2
    split at hr
    · rename_i d e3
      obtain ⟨a, vs, rfl, h1, h2⟩ := RVw.dctW R rv e1
      have hk := keyW_ok ru e2
      subst hk
      obtain ⟨x, e4, r⟩ := (h2.find k).1 d e3
      exact ⟨a, x, rfl, by rw [← e4]; exact .inl ⟨_, _, h1, rfl, rfl⟩, post.at R (w := .d d) r hr⟩
    · exact hr.elim
  · exact hr.elim
/-- d.get(k, x) -/
def zDGet2 (td ty tx : TP) : TP := fun δ q => td δ fun w => match dctW w with
  | some _ => ty δ fun y => tx δ fun z => (match dctW (held w), keyW (held y), z with
    | some xs, some k, .d d => q (.d ((lookD xs k).getD d))
    | _, _, _ => False)
  | none => False
/-- k in d -/
def rDIn (neg : Bool) : W → W → (W → Prop) → Prop := fun y x q => match keyW y, dctW x with
  | some k, some xs => q (.d (.bool (neg ^^ (lookD xs k).isSome)))
  | _, _ => False
theorem rDIn_ok {K : PySem.W.Frag} {P : Pm} {Hc H : Hp} {σ : L2.St} {δ : List Sl} {v u : V} {w x : W} {neg : Bool} {q : W → Prop} (R : RW K P Hc H σ δ) (rv : RVw K P Hc H σ δ v w) (ru : RVw K P Hc H σ δ u x) (hr : rDIn neg w x q) :
    ∃ a o, u = .ref a ∧ DGet H a v o ∧ q (.d (.bool (neg ^^ o.isSome))) := by
  unfold rDIn at hr
  split at hr
  · rename_i k xs e1 e2
    obtain ⟨a, vs, rfl, h1, h2⟩ := RVw.dctW R ru e2
    have hk := keyW_ok rv e1
    subst hk
    refine ⟨a, _, rfl, .inl ⟨_, _, h1, rfl, rfl⟩, ?_⟩
    have e : (valV vs k).isSome = (lookD xs k).isSome := by
      cases q : lookD xs k with
      | none => rw [(h2.find k).2 q]; rfl
      | some y =>
        obtain ⟨x, e4, _⟩ := (h2.find k).1 y q
        rw [e4]
        rfl
    rw [e]
    exact hr
  · exact hr.elim
theorem z_in (hu : X.A.units + 1 < cLine) (ha : ZE X k tk) (hb : ZE X e te) (hm : behindInMarks .In e = false) : ZE X (.Compare k [.In] [e] pos) (bZ tk te (rDIn false)) := pe_imp (pe_cmp (pc_din hu ha hb) hm) fun σ H Q z => by
  refine lft_bin (R := fun y x H2 Q => ∃ a o, x = .ref a ∧ DGet H2 a y o ∧ Q (.bl o.isSome) H2) (fun P Hc H σ δ v u w x q Q R rv ru hr post => ?_) z
  obtain ⟨a, o, h1, h2, h3⟩ := rDIn_ok R rv ru hr
  exact ⟨a, o, h1, h2, post.at R (w := .d (.bool _)) (RV.bl _) (by simpa using h3)⟩
theorem z_notIn (hu : X.A.units + 1 < cLine) (ha : ZE X k tk) (hb : ZE X e te) (hm : behindInMarks .NotIn e = false) : ZE X (.Compare k [.NotIn] [e] pos) (bZ tk te (rDIn true)) := pe_imp (pe_cmp (pc_dnotin hu ha hb) hm) fun σ H Q z => by
  refine lft_bin (R := fun y x H2 Q => ∃ a o, x = .ref a ∧ DGet H2 a y o ∧ Q (.bl (!o.isSome)) H2) (fun P Hc H σ δ v u w x q Q R rv ru hr post => ?_) z
  obtain ⟨a, o, h1, h2, h3⟩ := rDIn_ok R rv ru hr
  exact ⟨a, o, h1, h2, post.at R (w := .d (.bool _)) (RV.bl _) (by simpa using h3)⟩
theorem zt_in (hu : X.A.units + 1 < cLine) (ha : ZE X k tk) (hb : ZE X e te) (hm : behindInMarks .In e = false) : ZT X (.Compare k [.In] [e] pos) (tbZ (bZ tk te (rDIn false))) := zt_cmp (pc_din hu ha hb) hm fun σ H Q z => by
  refine lft_bin (R := fun y x H2 Q => ∃ a o, x = .ref a ∧ DGet H2 a y o ∧ Q (.bl o.isSome) H2) (fun P Hc H σ δ v u w x q Q R rv ru hr post => ?_) z
  obtain ⟨a, o, h1, h2, h3⟩ := rDIn_ok R rv ru hr
  exact ⟨a, o, h1, h2, post.at R (w := .d (.bool _)) (RV.bl _) (by simpa using h3)⟩
theorem zt_notIn (hu : X.A.units + 1 < cLine) (ha : ZE X k tk) (hb : ZE X e te) (hm : behindInMarks .NotIn e = false) : ZT X (.Compare k [.NotIn] [e] pos) (tbZ (bZ tk te (rDIn true))) := zt_cmp (pc_dnotin hu ha hb) hm fun σ H Q z => by
  refine lft_bin (R := fun y x H2 Q => ∃ a o, x = .ref a ∧ DGet H2 a y o ∧ Q (.bl (!o.isSome)) H2) (fun P Hc H σ δ v u w x q Q R rv ru hr post => ?_) z
  obtain ⟨a, o, h1, h2, h3⟩ := rDIn_ok R rv ru hr
  exact ⟨a, o, h1, h2, post.at R (w := .d (.bool _)) (RV.bl _) (by simpa using h3)⟩
theorem z_dget2 {f : Expr} {tx : TP} (hu : X.A.units + 1 < cLine) (ho : ZE X e te) (hk : ZE X k tk) (hf : ZE X f tx) (m : M2 X e "get" apos k f cpos) : ZE X (.Call (.Attribute e "get" apos) [k, f] [] cpos) (zDGet2 te tk tx) := pe_imp (pe_dget2 hu ho hk hf m) fun σ H Q => by
  rintro ⟨P, Hc, δ, q, R, ht, post⟩
  refine ⟨P, Hc, δ, _, R, ht, fun Hc' H' v w l f' R' rv hq => ?_⟩
  split at hq
  · rename_i xs0 e0
    obtain ⟨a, vs, rfl, h1, h2⟩ := RVw.dctW R' rv e0
    refine ⟨a, rfl, .inl ⟨vs, h1⟩, P, Hc', δ, _, R', hq, fun Hc2 H2 u y l2 f2 R2 ru hq2 => ⟨P, Hc2, δ, _, R2, hq2, fun Hc3 H3 t z l3 f3 R3 rt hq3 => ?_⟩⟩
    split at hq3
    · rename_i xs k d e1 e2
      obtain ⟨a', vs', ea, h3, h4⟩ := RVw.dctW R3 (rv.held (l2.trans l3) (f2.trans f3)) e1
      cases ea
      have hk := keyW_ok (ru.held (σ' := σ) (δ' := δ) l3 f3) e2
      subst hk
      refine ⟨_, .inl ⟨_, _, h3, rfl, rfl⟩, ?_⟩
      cases q3 : lookD xs k with
      | none =>
        rw [(h4.find k).2 q3]
        rw [q3] at hq3
        exact post Hc3 H3 _ _ ((l.trans l2).trans l3) ((f'.trans f2).trans f3) R3 rt hq3
      | some y0 =>
        obtain ⟨x0, e4, r⟩ := (h4.find k).1 y0 q3
        rw [e4]
        rw [q3] at hq3
        exact post Hc3 H3 _ (.d y0) ((l.trans l2).trans l3) ((f'.trans f2).trans f3) R3 r hq3
    · exact hq3.elim
  · exact hq.elim
def zDNew : TP := fun _ q => q (.newd [])
theorem RW.hotNewD {K : PySem.W.Frag} {P : Pm} {Hc H : Hp} {σ : L2.St} {δ : List Sl} {p : Addr} {vs : List (Key × V)} {ds : List (Key × D)} (R : RW K P Hc H σ δ) (hp : H p = none) (r : RKs K Hc vs ds) : RVw K P Hc (upd H p (.dK vs)) σ δ (.ref p) (.newd ds) := by
  obtain ⟨h1, h2, h3⟩ := R.free hp
  exact ⟨p, rfl, h1, ⟨vs, upd_same, h2, h3, r⟩, R.new_apart hp⟩
theorem z_dnew : ZE X (.Dict [] [] pos) zDNew := pe_imp pe_dnewK fun σ H Q => by
  rintro ⟨P, Hc, δ, q, R, ht, post⟩
  exact fun p hp => post Hc _ _ (.newd []) (Le.refl _) (nb_new hp) (R.newO hp) (R.hotNewD hp .nil) ht
/-- x += e -/
def zAug (i : Nat) (g : Int → Int → Int) (te : TP) : TZ := fun N δ => match δ[i]? with
  | some (.w (.d (.int a))) => te δ fun w => (match w with
    | .d (.int b) => N.nx (δ.set i (.w (.d (.int (g a b)))))
    | _ => False)
  | _ => False
theorem zs_aug {i : Nat} {x : Str} {op : Operator} {g : Int → Int → Int} (hN : X.N.Nodup) (hi : X.N[i]? = some x) (hx : Loc X.env.scope x) (he : ZE X e te) (ho : PIp X op (ipI g)) (hf : X.fn x = true ∨ X.env.scope.names.lookup x = some .local := by first | exact .inl rfl | exact .inr rfl | assumption) :
    ZS X (.AugAssign (.Name x pos') op e pos) (zAug i g te) := ps_imp (ps_aug hN hi hx he ho hf) fun Dn σ H => by
  rintro ⟨P, Hc, δ, N, R, h, E⟩
  unfold zAug at h
  split at h
  · rename_i a e1
    obtain ⟨v, h1, h2⟩ := R.sl i _ e1
    cases h2
    refine ⟨_, h1, P, Hc, δ, _, R, h, fun Hc' H' u w l f R' ru hq => ?_⟩
    split at hq
    · rename_i b
      exact ⟨a, b, rfl, ru.int, E.nx Hc' H' _ _ l (R'.setS (s := .w (.d (.int (g a b)))) ⟨_, rfl, .int _⟩ fun z => nomatch z) hq⟩
    · exact hq.elim
  · exact h.elim
end
end Zl
end
section
namespace Vq
open PySem PySem.Spec PyProof.Rows L2

/-! ### data: its depth, its parts, the size of its ints -/
mutual
inductive Gd : Nat → Nat → PyData → Prop
  | non (k n : Nat) : Gd k n .none
  | bl (k n : Nat) (b : Bool) : Gd k n (.bool b)
  | int (k n : Nat) {i : Int} : i.natAbs < 2 ^ 1900 → Gd k n (.int i)
  | tup {k n : Nat} {xs : List PyData} : GdA k n xs → Gd (k + 1) n (.tuple xs)
  | lst {k n : Nat} {xs : List PyData} : GdA k n xs → Gd (k + 1) n (.list xs)
inductive GdA : Nat → Nat → List PyData → Prop
  | nil (k n : Nat) : GdA k n []
  | cons {k n m : Nat} {d : PyData} {ds : List PyData} : Gd k n d → GdA k m ds → GdA k (n + 1 + m) (d :: ds)
end
theorem int_short {i : Int} (h : i.natAbs < 2 ^ 1900) : (PyData.shown (.int i)).length ≤ 600 := by
  have e := int_text_length_le10 (a := i) (k := 599) (by decide) (Nat.lt_trans h (by decide +kernel))
  show (Str.ofString (toString i)).length ≤ 600
  rw [PySem.ofString_length]
  omega
theorem int_log {i : Int} (h : i.natAbs < 2 ^ 1900) : i.natAbs.log2 < 1920 := Nat.lt_trans (PySem.Flt.log2_lt_of (by decide) h) (by decide)
structure GdF (k n : Nat) (d : PyData) : Prop where
  sh : d.showable = true
  nd : d.hasDict = false
  cl : d.canLay0 = true
  dp : d.depth ≤ k
  bk : d.bulk ≤ n
  ls : d.leavesShort 600 = true
structure GdFA (k n : Nat) (d : List PyData) : Prop where
  sh : PyData.showableAll d = true
  nd : PyData.hasDictAll d = false
  cl : PyData.canLayAll0 d = true
  dp : PyData.depthAll d ≤ k
  bk : PyData.bulkAll d ≤ n
  ls : PyData.leavesShortAll 600 d = true
mutual
theorem Gd.f : ∀ {k n : Nat} {d : PyData}, Gd k n d → GdF k n d
  | _, _, _, .non k n => ⟨rfl, by simp only [PyData.hasDict], by simp [PyData.canLay0], by simp [PyData.depth], by simp [PyData.bulk], by simp [PyData.leavesShort]⟩
  | _, _, _, .bl k n b => ⟨by simp [PyData.showable], by simp only [PyData.hasDict], by simp [PyData.canLay0], by simp [PyData.depth], by simp [PyData.bulk], by simp [PyData.leavesShort]⟩
  | _, _, _, .int k n h => ⟨by simp [PyData.showable, int_log h], by simp only [PyData.hasDict], by simp [PyData.canLay0], by simp [PyData.depth], by simp [PyData.bulk], by simp only [PyData.leavesShort]; exact decide_eq_true (int_short h)⟩
  | _, _, _, .tup h => by
    have q := GdA.f h
    exact ⟨by simpa [PyData.showable] using q.sh, by simpa [PyData.hasDict] using q.nd, by simpa [PyData.canLay0] using q.cl, by simpa [PyData.depth] using q.dp, by simpa [PyData.bulk] using q.bk, by simpa [PyData.leavesShort] using q.ls⟩
  | _, _, _, .lst h => by
    have q := GdA.f h
    exact ⟨by simpa [PyData.showable] using q.sh, by simpa [PyData.hasDict] using q.nd, by simpa [PyData.canLay0] using q.cl, by simpa [PyData.depth] using q.dp, by simpa [PyData.bulk] using q.bk, by simpa [PyData.leavesShort] using q.ls⟩
theorem GdA.f : ∀ {k n : Nat} {d : List PyData}, GdA k n d → GdFA k n d
  | _, _, _, .nil k n => ⟨by simp [PyData.showableAll], by simp [PyData.hasDictAll], by simp [PyData.canLayAll0], by simp [PyData.depthAll], by simp [PyData.bulkAll], by simp [PyData.leavesShortAll]⟩
  | _, _, _, .cons h t => by
    have a := Gd.f h
    have b := GdA.f t
    exact ⟨by simp [PyData.showableAll, a.sh, b.sh], by simp [PyData.hasDictAll, a.nd, b.nd], by simp [PyData.canLayAll0, a.cl, b.cl], by simp only [PyData.depthAll]; exact Nat.max_le.mpr ⟨a.dp, b.dp⟩, by
      simp only [PyData.bulkAll]
      have h1 := a.bk
      have h2 := b.bk
      omega, by simp [PyData.leavesShortAll, a.ls, b.ls]⟩
end
theorem Gd.fits {k n : Nat} {d : PyData} (h : Gd k n d) (hn : n ≤ 20000) : d.shown.length ≤ sizeLine := by
  have e := PyData.shown_le_bulk 600 (by decide) d h.f.ls
  have b := h.f.bk
  rw [sizeLine_eq]
  omega
theorem Gd.shaped {k n : Nat} {d : PyData} (h : Gd k n d) (hk : k ≤ 64) : SeqAt.shaped d = true := by
  unfold SeqAt.shaped
  rw [h.f.cl, decide_eq_true (Nat.le_trans h.f.dp hk)]
  rfl
theorem Gd.refl {k n : Nat} {d : PyData} (h : Gd k n d) : PyData.eqv d d = true := SeqAt.eqv_refl d h.f.cl
/-- repr of data, where no repr is under way -/
def rShow (K : PySem.W.Frag) : List V → Hp → VK → Prop := fun xs H Q => ∃ v d k n, xs = [v] ∧ Dp K H v d ∧ Gd k n d ∧ k ≤ 60 ∧ n ≤ 20000 ∧ (∃ a, v = .ref a) ∧ Q (.str d.shown) H
theorem cr_show {X : Cx} (hg : X.A.guards = some []) (hu : X.A.units + 64 < cLine) : CallR X (.builtin "repr") (rShow X.K) := by
  intro pins s σ H xs us Q I r h
  obtain ⟨v, d, k, n, rfl, hd, g, hk, hn, ⟨a, rfl⟩, q⟩ := h
  obtain ⟨u, rfl, ru⟩ := vals1 r
  obtain ⟨as, hr⟩ := Dp.reads I d _ u hd ru
  cases ru
  refine repr_of_reads' hr g.f.sh (PyData.noDict_hsm g.f.nd) hg (by have := g.f.dp; omega) (fun _ _ e => e) (fun h' u tk hk' => ?_) (g.fits hn)
  exact ⟨.str d.shown, H, I.kept hk', ⟨u, rfl⟩, q⟩
end Vq
end
section
namespace Vq
open PySem PySem.Spec PyProof.Rows L2

/-! ### xs.extend(t), t a tuple that stands in H -/
theorem ext_tup_meets (l : Addr) (items : Array Value) (n : Nat) (b : Addr) (items2 : Array Value) (n2 : Nat) (dd : Option Addr) (sl : Array (Option Value))
    (h0 : ¬(!items.isEmpty && Builtin.List.listTooLong (items.size + items2.size)) = true) (h1 : items.size ≤ sizeLine) (h2 : items.size + items2.size ≤ sizeLine + 1) :
    Meets (Builtin.«list.extend» ⟨[.ref l, .ref b], []⟩) (fun _ R s => s.heap.get? l = some { cls := .type "list", dict := none, data := .seq items n, slots := #[] } ∧
      s.heap.get? b = some { cls := .type "tuple", dict := dd, data := .seq items2 n2, slots := sl } ∧ R (.ok (.ret Value.none)) { s with heap := s.heap.update l (Obj.mapSeq fun x => x ++ items2), toks := s.toks }) := .of_wp fun prog w A R s h => by
  obtain ⟨hp, g, d, tk, os⟩ := s
  obtain ⟨hl, hb, h⟩ := h
  have f1 := AutoSeq1.idx_int
  have f2 := AutoSeq1.sub_tuple_tuple
  have f3 := AutoSeq1.sub_list_list
  have f4 := AutoSeq1.sub_tuple_list
  have f5 := AutoSeq1.sub_list_tuple
  have hz' : (items ++ items2).size ≤ sizeLine + 1 := by
    rw [Array.size_append]
    exact h2
  wp_walk using (wpAny_updateSeq hl rfl (hz := h1) (_hz' := hz')), wpAny_loadPart' hl, wpAny_loadPart' hb
  exact ⟨_, rfl, h⟩
def rExtT : V → List V → Hp → VK → Prop := fun x vs H Q => ∃ l b xs zs, x = .ref l ∧ vs = [.ref b] ∧ H l = some (.lst xs) ∧ H b = some (.tup zs) ∧ xs.length + zs.length ≤ sizeLine ∧ Q .non (upd H l (.lst (xs ++ zs)))
theorem mt_extT {X : Cx} : MtM X "list.extend" rExtT := by
  intro pins s σ H x vs v us Q I rx rv h
  obtain ⟨l, b, xs, zs, rfl, rfl, hH, hB, hz, q⟩ := h
  cases rx
  obtain ⟨u, rfl, ru⟩ := rv.one
  cases ru
  obtain ⟨z, its, n, r, hl, e⟩ := I.lstM hH
  obtain ⟨z2, its2, r2, ⟨⟨c2, d2, dt2, s2⟩, ho2, hc2, n2, hd2⟩⟩ := I.hok b _ hB
  cases hc2
  cases hd2
  have e1 := hl
  have e2 := r2.length
  have hsz : its.toArray.size + its2.toArray.size ≤ sizeLine := by
    rw [List.size_toArray, List.size_toArray]
    omega
  have hno : ¬ (!its.toArray.isEmpty && Builtin.List.listTooLong (its.toArray.size + its2.toArray.size)) = true := by
    rw [notLongL hsz, Bool.and_false]
    exact Bool.false_ne_true
  have hz1 : its.toArray.size ≤ sizeLine := by omega
  have hz2 : its.toArray.size + its2.toArray.size ≤ sizeLine + 1 := by omega
  refine call_meets F.slot_list_extend ⟨_, e, rfl⟩ F.entry_list_extend (F.args_list_extend_2 _ _) (ext_tup_meets l its.toArray n b its2.toArray n2 d2 s2 hno hz1 hz2) ⟨e, ho2, ?_⟩
  refine ⟨.non, _, I.lset (its' := its ++ its2) hH e (by simp) (r.append r2) ?_, rfl, q⟩
  rw [List.length_append]
  exact hz

/-! ### sorted(d), int keys, any number of them -/
def rSrtD : List V → Hp → VK → Prop := fun xs H Q => ∃ (a : Addr) (kvs : List (L2.Key × V)) (ks : List Int), xs = [.ref a] ∧ Rd H a (.dK kvs) ∧ kvs.map (·.1) = ks.map Sum.inl ∧
  ∀ (ys : List Int) (p : Addr), ys.Perm ks → ys.Pairwise (· ≤ ·) → H p = none → Q (.ref p) (upd H p (.lst (ys.map V.int)))
theorem cr_srtD {X : Cx} (hcalm : X.calm = true) : CallR X (.builtin "sorted") rSrtD := by
  intro pins s σ H xs us Q I r q
  obtain ⟨a, kvs, ks, rfl, hd, hks, q⟩ := q
  obtain ⟨u, rfl, rx⟩ := vals1 r
  cases rx
  obtain ⟨z, lo, vs, rel, dd⟩ := dk_rd I.hok hd
  obtain ⟨ep, hat⟩ := dd.dictAt
  have hkeys : vs.map (·.1) = ks.map Sum.inl := rel.keys.symm.trans hks
  have hl : vs.length = ks.length := by
    have e := congrArg List.length hkeys
    rwa [List.length_map, List.length_map] at e
  have h16 : vs.length ≤ sizeLine := by
    have e := congrArg List.length rel.keys
    rw [List.length_map, List.length_map] at e
    omega
  refine Calls.call_function_entry PyProof.Rows.kind_sorted PyProof.Rows.plain_sorted PyProof.Rows.entry_sorted (PyProof.Rows.args_sorted1 _) ?_
  unfold Builtin.«sorted»
  refine wpAny_bind (m := checkCount "sorted" 1 1 _) (wpAny_pure ?_)
  have hat' := PySem.W.kdl_dict (knd := mixKind X.prog X.w) (kvs := vs) (ep := ep) lo
  refine wpAny_bind (PySem.W.kdu_collect (A := X.A.in1) hat' (I.ok.hd hcalm) hat h16 fun h' tk acc hk hacc => ?_)
  have hal : acc.toList.length = ks.length := by
    rw [Array.length_toList]
    exact hacc.1.trans hl
  have hS : IntsAre acc.toList ks := ints_each hal fun j v e => by
    rw [Array.getElem?_toList] at e
    obtain ⟨k, x, e1, e2⟩ := hacc.2 j v e
    have e3 : (vs.map (·.1))[j]? = some k := by
      rw [List.getElem?_map, e1]
      rfl
    rw [hkeys, List.getElem?_map] at e3
    cases e4 : ks[j]? with
    | none =>
      rw [e4] at e3
      cases e3
    | some y =>
      rw [e4] at e3
      cases e3
      obtain ⟨t, ev⟩ := Value.isInt_shape (k := y) (v := v) e2
      exact ⟨y, t, rfl, ev⟩
  have I1 : Inv X pins σ H { s with heap := h', toks := tk } := I.kept hk
  have hz : acc.toList.length ≤ sizeLine := by
    rw [hal, ← hl]
    exact h16
  refine wpAny_bind (wpAny_newList ?_ hz)
  have hoL : (h'.push (seqObj "list" acc.toList.toArray 0)).get? h'.objs.size = some (seqObj "list" acc.toList.toArray 0) := Heap.get?_push_size _ rfl
  show wpAny _ _ _ _ _ { s with heap := h'.push (seqObj "list" acc.toList.toArray 0), toks := tk }
  refine wpAny_bind (wpAny_holding (wpAny_call_entry PyProof.Rows.slot_list_sort ⟨_, hoL, rfl⟩ PyProof.Rows.entry_list_sort
    (SrtO.list_sort_ord (s := { s with heap := h'.push (seqObj "list" acc.toList.toArray 0), toks := tk }) SrtO.swo_int hoL hz (fun h2 => SrtO.ints_sortable hS h2) fun out h1 h2 => ⟨_, rfl, ?_⟩) (PyProof.Rows.args_list_sort _)))
  obtain ⟨g1, g2, g3⟩ := SrtO.ints_out hS h1 h2
  obtain ⟨e', he'⟩ := PyProof.Rows.sortedHeap_at (vs := acc.toList) (out := out.toArray) hoL
  have hlen : ((out.map SrtO.iv).map V.int).length ≤ sizeLine := by
    rw [List.length_map, g2.length_eq, ← hal]
    exact hz
  have kp : ∀ b u, h'.get? b = some u → (sortedHeap (h'.push (seqObj "list" acc.toList.toArray 0)) h'.objs.size acc.toList out.toArray).get? b = some u := fun b u e => by
    have hb : b < h'.objs.size := Heap.lt_size e
    rw [PyProof.Rows.sortedHeap_old (Nat.ne_of_lt hb) (by rw [size_push']; exact Nat.lt_succ_of_lt hb)]
    exact Heap.get?_push_of_some _ e
  exact wpAny_pure ⟨_, rfl, .ref h'.objs.size, upd H h'.objs.size (.lst ((out.map SrtO.iv).map V.int)), I1.laid (t' := tk) kp (Nat.le_refl _) ⟨hlen, out, e', vals_of_ints g1, he'⟩, rfl, q _ _ g2 g3 (I1.hok.fresh (Nat.le_refl _))⟩
end Vq
end
section
namespace Vq
open PySem PySem.Spec PyProof.Rows L2
/-! ### min(xs, default=d) of a list of ints -/
theorem args_minD (a d : Value) : argsOk "min" ⟨[a], [(Str.ofString "default", d)]⟩ := by unfold argsOk; kernel_rfl
theorem min_name : (toString "min" ++ toString ".loop" : String) = "min.loop" := by decide
section
variable {prog : Program} {w : World} {A : Around} {R : Result → Shared → Prop} {I : Addr} {fp wr : List Addr} {n : Nat} {P : Nat → Value → Prop} {St : Nat → Heap → Prop} {dv : Value}
/-- the loop's box: a list of this -/
abbrev boxO (xs : Array Value) (c : Nat) : Obj := { cls := .type "list", dict := none, data := .seq xs c, slots := #[] }
abbrev minCode (I S : Addr) (dv : Value) : Code := .builtin "min.loop" ⟨[.ref I, .none, .ref S], [("default", dv)]⟩
theorem minD_rest (W : Walks prog w A.in1 I fp wr n P St) (bt : Nat → Nat → Bool) (hcmp : CmpOf prog w A.in1 .Lt P bt) (S : Addr) (hSf : S ∉ fp) :
    ∀ (k j : Nat) (s : Shared) (vb : Value) (c : Nat), n - (j + 1) = k → j + 1 ≤ n → St (j + 1) s.heap → P (argBest bt j) vb → s.heap.get? S = some (boxO #[vb, vb] c) →
    (∀ v h' tk, P (argBest bt (n - 1)) v → (∀ b o, b ∉ wr → b ≠ S → s.heap.get? b = some o → h'.get? b = some o) → R (.ok (.ret v)) { s with heap := h', toks := tk }) →
    codeAny (model prog w) A (minCode I S dv) R s := by
  have hSw : S ∉ wr := fun z => hSf (W.sub _ z)
  intro k
  induction k with
  | zero =>
    intro j s vb c hk hj hst hP hS hR
    have hin : j + 1 = n := by omega
    refine codeAny_builtin F.entry_min_loop ?_
    rw [Around.under_plainId F.plain_min_loop _]
    show wpAny _ A.in1 (seqItems? (.ref S) >>= _) _ _ s; refine wpAny_bind (wpAny_seqItems hS rfl ?_)
    show wpAny _ A.in1 (tryCatch (pyNext (.ref I)) _ >>= _) _ _ s; refine wpAny_bind (wpAny_tryCatch (W.done s _ _ (hin ▸ hst) fun h' tk kp => ?_))
    have hS2 := kp S _ hSw hS
    show wpAny _ A.in1 (updateSeq S (fun _ => #[]) >>= _) _ _ _; refine wpAny_bind ?_
    refine wpAny_updateSeq hS2 rfl (wpAny_bind (wpAny_letGo (wpAny_pure ?_)))
    refine hR vb _ tk (hin ▸ hP) fun b o h1 h2 e => ?_
    exact (Heap.get?_update_other _ _ h2.symm).trans (kp b o h1 e)
  | succ k ih =>
    intro j s vb c hk hj hst hP hS hR
    have hlt : j + 1 < n := by omega
    refine codeAny_builtin F.entry_min_loop ?_
    rw [Around.under_plainId F.plain_min_loop _]
    show wpAny _ A.in1 (seqItems? (.ref S) >>= _) _ _ s; refine wpAny_bind (wpAny_seqItems hS rfl ?_)
    show wpAny _ A.in1 (tryCatch (pyNext (.ref I)) _ >>= _) _ _ s; refine wpAny_bind (wpAny_tryCatch (W.item (j + 1) s _ _ hlt hst fun v h' tk hv hst2 kp => ?_))
    have hS2 := kp S _ hSw hS
    show wpAny _ A.in1 (tryCatch (holding [v, v] (richCompare .Lt v vb >>= _)) _ >>= _) _ _ _
    refine wpAny_bind (wpAny_tryCatch (wpAny_holding (wpAny_bind (hcmp (j + 1) (argBest bt j) v vb _ _ _ hv hP ?_)))); refine wpAny_bind (wpAny_holding (wpAny_truthy_bool ?_))
    refine wpAny_bind (wpAny_letGo (wpAny_pure ?_)); cases hb : bt (j + 1) (argBest bt j) with
    | true =>
      simp only [if_true]; refine wpAny_bind ?_; refine wpAny_updateSeq hS2 rfl (wpAny_bind (wpAny_letGo ?_))
      rw [min_name]
      have st3 := W.frame (j + 1 + 1) _ (h'.update S (Obj.mapSeq fun _ => #[v, v])) hst2 fun b hbf o e => (Heap.get?_update_other _ _ (fun z : S = b => hSf (z ▸ hbf))).trans e
      have pb : P (argBest bt (j + 1)) v := by
        simp only [argBest, hb, if_true]
        exact hv
      refine wpAny_pure ⟨plainId_quiet F.plain_min_loop _, ih (j + 1) _ v _ (by omega) hlt st3 pb (Heap.get?_update_self _ hS2 rfl) fun v2 h2 tk2 hv2 kp2 => ?_⟩
      exact hR v2 h2 tk2 hv2 fun b o h1 h3 e => kp2 b o h1 h3 ((Heap.get?_update_other _ _ h3.symm).trans (kp b o h1 e))
    | false =>
      simp only [Bool.false_eq_true, if_false]; refine wpAny_bind (wpAny_letGo ?_)
      rw [min_name]
      have pb : P (argBest bt (j + 1)) vb := by
        simp only [argBest, hb, Bool.false_eq_true, if_false]
        exact hP
      refine wpAny_pure ⟨plainId_quiet F.plain_min_loop _, ih (j + 1) _ vb c (by omega) hlt hst2 pb hS2 fun v2 h2 tk2 hv2 kp2 => ?_⟩
      exact hR v2 h2 tk2 hv2 fun b o h1 h3 e => kp2 b o h1 h3 (kp b o h1 e)
theorem minD_first (W : Walks prog w A.in1 I fp wr n P St) (bt : Nat → Nat → Bool) (hcmp : CmpOf prog w A.in1 .Lt P bt) (S : Addr) (hSf : S ∉ fp) {s : Shared} {c : Nat} (hst : St 0 s.heap) (hS : s.heap.get? S = some (boxO #[] c))
    (hR : ∀ v h' tk, (n = 0 → v = dv) → (0 < n → P (argBest bt (n - 1)) v) → (∀ b o, b ∉ wr → b ≠ S → s.heap.get? b = some o → h'.get? b = some o) → R (.ok (.ret v)) { s with heap := h', toks := tk }) :
    codeAny (model prog w) A (minCode I S dv) R s := by
  have hSw : S ∉ wr := fun z => hSf (W.sub _ z)
  refine codeAny_builtin F.entry_min_loop ?_
  rw [Around.under_plainId F.plain_min_loop _]
  show wpAny _ A.in1 (seqItems? (.ref S) >>= _) _ _ s; refine wpAny_bind (wpAny_seqItems hS rfl ?_)
  rcases Nat.eq_zero_or_pos n with h0 | hn
  · show wpAny _ A.in1 (tryCatch (pyNext (.ref I)) _ >>= _) _ _ s; refine wpAny_bind (wpAny_tryCatch (W.done s _ _ (h0 ▸ hst) fun h' tk kp => ?_))
    refine wpAny_bind (wpAny_rule ?_)
    exact wpAny_pure (hR dv h' tk (fun _ => rfl) (fun z => by omega) fun b o h1 _ e => kp b o h1 e)
  · show wpAny _ A.in1 (tryCatch (pyNext (.ref I)) _ >>= _) _ _ s; refine wpAny_bind (wpAny_tryCatch (W.item 0 s _ _ hn hst fun v h' tk hv hst2 kp => ?_))
    have hS2 := kp S _ hSw hS
    show wpAny _ A.in1 (updateSeq S (fun _ => #[v, v]) >>= _) _ _ _; refine wpAny_bind ?_
    refine wpAny_updateSeq hS2 rfl ?_
    rw [min_name]
    have st3 := W.frame (0 + 1) _ (h'.update S (Obj.mapSeq fun _ => #[v, v])) hst2 fun b hbf o e => (Heap.get?_update_other _ _ (fun z : S = b => hSf (z ▸ hbf))).trans e
    refine wpAny_pure ⟨plainId_quiet F.plain_min_loop _, minD_rest W bt hcmp S hSf _ 0 _ v _ rfl hn st3 hv (Heap.get?_update_self _ hS2 rfl) fun v2 h2 tk2 hv2 kp2 => ?_⟩
    exact hR v2 h2 tk2 (fun z => by omega) (fun _ => hv2) fun b o h1 h3 e => kp2 b o h1 h3 ((Heap.get?_update_other _ _ h3.symm).trans (kp b o h1 e))
end
section
variable {prog : Program} {w : World} {A : Around} {E : Value → Shared → Prop} {s : Shared}
theorem minD_list {l : Addr} {xs : Array (Int × Tok)} {dv : Value} {Q : Value → Shared → Prop} (hh : A.handled = none) (hl : s.heap.IsList l (intItems xs))
    (h : ∀ v h' tk, (xs.size = 0 → v = dv) → (0 < xs.size → (intItems xs)[argBest (fun i j => decide (numAt xs i < numAt xs j)) (xs.size - 1)]? = some v) → (∀ b o, s.heap.get? b = some o → h'.get? b = some o) → Q v { s with heap := h', toks := tk }) :
    wpAny (model prog w) A (call (.builtin "min") [.ref l] [("default", dv)]) Q E s := by
  refine wpAny_call (codeAny_call_builtin F.plain_min F.entry_min ?_)
  have hc : checkBuiltinCall "min" ⟨[.ref l], [("default", dv)]⟩ = pure () := by
    have ha := args_minD (.ref l) dv
    simp only [checkBuiltinCall, F.kind_min]
    cases hsig : Manifest.signature? "min" with
    | none => rfl
    | some sig =>
      simp only [argsOk, hsig] at ha
      exact ha
  rw [hc]
  refine wpAny_pure ?_
  show wpAny _ A.in1 (Builtin.Builtins.bindParams "min" ["key", "default"] 0 ⟨[], [("default", dv)]⟩ >>= _) _ _ s
  refine wpAny_bind (wpAny_of_eq (show Builtin.Builtins.bindParams "min" ["key", "default"] 0 ⟨[], [("default", dv)]⟩ = pure [none, some dv] from rfl) ?_)
  refine wpAny_bind (wpAny_pure ?_)
  refine wpAny_bind (iter_intList hl fun s₂ e st hfp hlI => ?_)
  subst e
  refine wpAny_bind (wpAny_newObj_type ?_)
  have W := Walks.list (prog := prog) (w := w) (A := A.in1) hh s.heap.objs.size l hlI (intItems xs)
  have hsz : (intItems xs).size = xs.size := by simp [intItems]
  rw [min_name]
  refine wpAny_pure ⟨plainId_quiet F.plain_min_loop _, minD_first W _ (CmpOf.ints_lt (numAt xs) fun _ _ => intItems_at) _ (fun hm => Nat.lt_irrefl _ (hfp _ hm)) (W.frame _ _ _ st fun b _ o e => Heap.get?_push_of_some _ e) (Heap.get?_push_size _ rfl) fun v h' tk h0 hv kp => ?_⟩
  rw [hsz] at h0 hv
  refine h v h' tk h0 hv fun b o e => ?_
  have hb := Heap.lt_size e
  refine kp b o (fun hm => ?_) (fun z => ?_) (Heap.get?_push_of_some _ (Heap.get?_push_of_some _ e))
  · rcases List.mem_cons.mp hm with e1 | hm
    · exact absurd (e1 ▸ hb) (Nat.lt_irrefl _)
    · cases hm
  · have q : (s.heap.push { cls := .type "list_iterator", data := .fields #[.ref l, .int 0 0] }).objs.size = s.heap.objs.size + 1 := Heap.size_push ..
    have z2 : b = s.heap.objs.size + 1 := Eq.trans z q
    rw [z2] at hb
    exact absurd hb (Nat.lt_asymm (Nat.lt_succ_self _))
end
/-- the least of ints, none of none -/
def minO : List Int → Option Int
  | [] => none
  | x :: r => some (r.foldl min x)
theorem foldl_min_spec : ∀ (l : List Int) (x : Int), (l.foldl min x = x ∨ l.foldl min x ∈ l) ∧ l.foldl min x ≤ x ∧ ∀ y ∈ l, l.foldl min x ≤ y
  | [], x => ⟨.inl rfl, Int.le_refl _, fun y h => by cases h⟩
  | a :: l, x => by
    obtain ⟨h1, h2, h3⟩ := foldl_min_spec l (min x a)
    show (l.foldl min (min x a) = x ∨ l.foldl min (min x a) ∈ a :: l) ∧ l.foldl min (min x a) ≤ x ∧ ∀ y ∈ a :: l, l.foldl min (min x a) ≤ y
    refine ⟨?_, by omega, fun y hy => ?_⟩
    · rcases h1 with h1 | h1
      · rcases Int.le_total x a with q | q
        · rw [Int.min_eq_left q] at h1 ⊢
          exact .inl h1
        · rw [Int.min_eq_right q] at h1 ⊢
          exact .inr (by rw [h1]; exact List.mem_cons_self)
      · exact .inr (List.mem_cons_of_mem _ h1)
    · rcases List.mem_cons.mp hy with rfl | hy
      · omega
      · exact h3 y hy
theorem minO_eq {l : List Int} {m : Int} (h1 : m ∈ l) (h2 : ∀ y ∈ l, m ≤ y) : minO l = some m := by
  cases l with
  | nil => cases h1
  | cons x r =>
    obtain ⟨a, b, c⟩ := foldl_min_spec r x
    show some (r.foldl min x) = some m
    have q1 : m ≤ r.foldl min x := by
      rcases a with a | a
      · rw [a]; exact h2 x List.mem_cons_self
      · exact h2 _ (List.mem_cons_of_mem _ a)
    have q2 : r.foldl min x ≤ m := by
      rcases List.mem_cons.mp h1 with rfl | h1
      · exact b
      · exact c m h1
    rw [show r.foldl min x = m by omega]
def ordV : Option Int → V
  | none => .non
  | some i => .int i
def rMinD (K : PySem.W.Frag) : List V → List V → Hp → VK → Prop := fun xs zs H Q => ∃ (a : Addr) (ns : List Int), xs = [.ref a] ∧ zs = [.non] ∧ SqL K H a (ns.map V.int) ∧ Q (ordV (minO ns)) H
theorem cr_minD {X : Cx} (hc : X.calm = true) : CallRK X (.builtin "min") [Str.ofString "default"] (rMinD X.K) := by
  intro pins s σ H xs zs us ws Q I r rz h
  obtain ⟨a, ns, rfl, rfl, hs, q⟩ := h
  obtain ⟨its, rv, hl, _⟩ := I.list hs
  obtain rfl := Vals.ref1 r
  obtain ⟨w1, rfl, e1⟩ := vals1 rz
  obtain rfl : w1 = Value.none := e1
  have hi := rv.ints
  obtain ⟨ys, e⟩ := hi.allInts.items
  have hn : numsOf (intItems ys).toList = ns := by rw [← e]; exact hi.numsOf
  rw [nums_intItems] at hn
  have hl2 := hl.isList
  rw [e] at hl2
  refine minD_list (I.ok.hd hc) hl2 fun v h' tk h0 hv kp => ?_
  cases hz : ys.size with
  | zero =>
    have e1 : ns = [] := by
      rw [← hn, List.map_eq_nil_iff]
      exact List.eq_nil_of_length_eq_zero (by rw [Array.length_toList]; exact hz)
    subst e1
    exact ⟨.non, H, I.kept kp, h0 hz, q⟩
  | succ k =>
    have hp : 0 < ys.size := by omega
    obtain ⟨t, rfl⟩ := intItems_at (hv hp)
    obtain ⟨g1, g2⟩ := argBest_lt (numAt ys) (ys.size - 1)
    refine ⟨ordV (minO ns), H, I.kept kp, ?_, q⟩
    have e2 : minO ns = some (numAt ys (argBest (fun i j => decide (numAt ys i < numAt ys j)) (ys.size - 1))) := by
      refine minO_eq ?_ fun y hy => ?_
      · rw [← hn, numAt_eq]
        exact PySem.getD_mem (by rw [List.length_map, Array.length_toList]; omega)
      · rw [← hn] at hy
        obtain ⟨j, hj, rfl⟩ := mem_getD hy
        rw [List.length_map, Array.length_toList] at hj
        rw [← numAt_eq]
        exact g2 j (by omega)
    rw [e2]
    exact ⟨t, rfl⟩
end Vq
end
section
set_option maxHeartbeats 1000000
namespace Vq
open PySem PySem.Spec PyProof.Rows L2
/-! ### defs that are called where no repr is under way -/
/-- as FnOk, where the callers' guards are none -/
structure GFn (P : Program) (w : World) (K : PySem.W.Frag) (mg : Str → Option Value) (base : Heap) (k : Nat) (f : Addr) (fd : FuncData) (ps : List Str) (sp : Sp) : Prop where
  len : ∀ vs H Q E, sp vs H Q E → vs.length = ps.length
  run : ∀ (A : Around), A.guards = some [] → Room k A → ∀ (outer : List Env) (s : Shared) (H : Hp), Env0 P w K mg base A outer s H → ∀ (args : Args) (us : List Value), BindsTo s fd args (ps.zip us) →
    ∀ (vs : List V) (Q : VK) (E : XK), Vals vs us → sp vs H Q E → codeAny (model P w) A (.call (.ref f) args) (CR CX0 outer P w H s Q E) s
section
variable {X : Cx} {k : Nat} {f : Addr} {fd : FuncData} {ps : List Str} {sp : Sp} {x : Str} {p pos : Pos} {e : Expr} {es : List Expr} {t : TA}
theorem pe_gcall (hG : X.A.guards = some []) (F : GFn X.prog X.w X.K X.mg X.base k f fd ps sp) (hr : Room k X.A) (hg : Gl X x) (hm : X.mg x = some (.ref f)) (hk : PySem.W.keepIn X.K (.ref f) = true) (hb : Binds X.K fd ps []) (ha : PA X (e :: es) t)
    (hdb : (x == ("__debug__" : Str)) = false := by decide) (he : starEach (e :: es) X.env = (false, eval e X.env) :: starEach es X.env := by rfl) (hpl : (backTo pos (starEach es X.env)).any (·.1) = false := by rfl) :
    PE X (.Call (.Name x p) (e :: es) [] pos) (tCall sp [] E0 t) := by
  constructor
  intro pins s σ H Q I h
  refine wpAny_Call_Name_kw (ld_glob I hg hm ?_ hdb)
  refine PySem.W.callWith_K (h₀ := X.base) I.ok.mod.kin hk (thn (ha.run pos pins s σ H _ I h) ?_) he hpl
  rintro us s1 ⟨vs, H1, I1, r, q⟩
  have q' : sp vs H1 Q E0 := by
    have z : sp (vs ++ []) H1 Q E0 := q
    rwa [List.append_nil] at z
  have hl : (us ++ []).length = ps.length := by
    rw [List.append_nil, ← r.length]
    exact F.len _ _ _ _ q'
  have b := hb s1 us I1.kIn hl
  rw [List.append_nil] at b
  refine ⟨I1.kIn, wpAny_call (codeAny_mono (F.run X.A hG hr X.stack s1 H1 I1.env0 _ us b vs Q E0 r q') fun rr s2 hq => ?_)⟩
  cases rr with
  | error z => exact hq.elim
  | ok fl =>
    cases fl with
    | ret u => exact I1.after hq
    | next => exact hq.elim
    | brk => exact hq.elim
    | cont => exact hq.elim
end
section
variable {P : Program} {w : World} {K : PySem.W.Frag} {mg : Str → Option Value} {base : Heap}
theorem gfn_of {x qual : Str} {st : Stmt} {f : Addr} {fd : FuncData} {N ps : List Str} {k : Nat} {sp : Sp} (F : Fun K x qual st f fd) (S : FnScope N ps (defScope st)) (len : ∀ vs H Q E, sp vs H Q E → vs.length = ps.length)
    (hbody : ∀ (cdv : Value) (A : Around) (outer : List Env) (s : Shared) (H : Hp) (vs : List V) (Q : VK) (E : XK), A.guards = some [] → Room k (A.deeper (envOfC qual (defScope st) s.heap.objs.size f cdv)) → sp vs H Q E →
      ∃ t, PSs (cxOf CX0 P w K mg base N qual (defScope st) f cdv A outer s H E).nox (defBody st) t ∧ t { nx := fun _ H' => Q .non H', rt := Q } (start N vs) H) : GFn P w K mg base (k + 1) f fd ps sp := by
  obtain ⟨oc, od, kV, doc, pm, an, cdv, ct, osl, rfl, lk, hcd⟩ := F.ex
  refine ⟨len, fun A hG hr outer s H e0 args us hb vs Q E r hsp => ?_⟩
  have hl := len _ _ _ _ hsp
  have KX : K.In s.heap := e0.mod.kin.keeps fun b o e => (e0.bs b o e).1
  have kinds : ∀ y ∈ ps.zip us, (defScope st).names.lookup y.1 = some .local ∨ ((defScope st).names.lookup y.1 = some .cell ∧ ((cellsFrom (s.heap.objs.size + 1) (defScope st).names []).lookup y.1).isSome = true) := by
    rintro ⟨n, v⟩ hy
    have hn := (List.of_mem_zip hy).1
    rcases S.par n hn with q | q
    · exact .inl q
    · exact .inr ⟨q, PySem.W.cellsFrom_some _ _ _ (.inl q)⟩
  refine codeAny_call_function hr.depth (KX _ _ lk) rfl S.co S.gen rfl (PySem.W.codeRec_of KX hcd) (hb _ _ _ _ ?_)
  refine wpAny_newFunctionEnv_cells S.kind kinds ?_
  rintro env rfl s1 x
  have lim : s.heap.NoLimit := e0.mod.nolimit.keeps fun b o e => (e0.bs b o e).1
  refine ⟨lim.keeps x.toInCall.keep, codeAny_func ?_⟩
  obtain ⟨t, ht, hq⟩ := hbody cdv A outer s H vs Q E hG (hr.deeper _) hsp
  have I := inv_start (CX := CX0) (E := E) S hr.hd e0 hl r x
  have W := ht.nox.run [] s1 (start N vs) H { nx := fun _ H' => Q .non H', rt := Q } I hq
  refine wpAny_mono W (fun fl s' hs => ?_) fun e s' hs => hs
  cases fl with
  | ret u => obtain ⟨v, σ', H', J, rv, q⟩ := hs; exact ⟨v, H', J.os, J.bare, J.base, J.hok, rv, q⟩
  | next => obtain ⟨σ', H', J, q⟩ := hs; exact ⟨V.non, H', J.os, J.bare, J.base, J.hok, rfl, q⟩
  | brk => obtain ⟨_, _, _, q⟩ := hs; cases q
  | cont => obtain ⟨_, _, _, q⟩ := hs; cases q
end
end Vq
end
section
set_option maxHeartbeats 1000000
namespace Vq
open PySem PySem.Spec PyProof.Rows L2
/-! ### the law's own call -/
/-- at the start the script alone is tracked, or nothing if it is an object of the module -/
def scH (K : PySem.W.Frag) (a : Addr) (o : Obj) (xs : List V) : Hp := fun b => if b = a ∧ (K.lookup a).isNone = true then some (.frz o (.lst xs)) else none
theorem scH_some {K : PySem.W.Frag} {a b : Addr} {o : Obj} {xs : List V} {u : HO} (h : scH K a o xs b = some u) : b = a ∧ K.lookup a = none ∧ u = .frz o (.lst xs) := by
  unfold scH at h
  by_cases c : b = a ∧ (K.lookup a).isNone = true
  · rw [if_pos c] at h
    cases h
    exact ⟨c.1, Option.isNone_iff_eq_none.mp c.2, rfl⟩
  · rw [if_neg c] at h
    cases h
theorem gcall {P : Program} {w : World} {K : PySem.W.Frag} {mg mb : Str → Option Value} {k : Nat} {fa a : Addr} {fd : FuncData} {x : Str} {sp : Sp} {s₁ : Shared} {vs : List Value} {ns : List Int}
    (KX : K.In s₁.heap) (hns : s₁.heap.Ns mainGlobals mg) (hb : s₁.heap.Ns builtinsNs mb) (hbb : ∀ x : Str, x ≠ "__name__" → mb x = bootBuiltins x) (hlim : s₁.heap.NoLimit) (hg : s₁.gens = #[])
    (ha : s₁.heap.get? a = some { cls := .type "list", data := .seq vs.toArray }) (hi : IntsAre vs ns) (hl : ns.length ≤ sizeLine) (hr : Room k callerA)
    (F : ∀ base : Heap, K.In base → base.Ns mainGlobals mg → GFn P w K mg base k fa fd [x] sp) (hbind : ∀ (s : Shared) (u : Value), BindsTo s fd ⟨[u], []⟩ [(x, u)])
    (hsp : ∀ H : Hp, SqL K H a (ns.map V.int) → (∀ b u, H b = some u → b = a) → sp [.ref a] H (fun v _ => v = .bl true) fun _ _ _ => False) :
    codeAny (model P w) callerA (.call (.ref fa) ⟨[.ref a], []⟩) (fun r s' => r = .ok (.ret (.bool true)) ∧ OldK s₁.heap s'.heap ∧ s'.os = s₁.os ∧ AllBare s'.gens) s₁ := by
  have rv := vals_ints hi
  have lv : vs.length = ns.length := hi.length
  let ob : Obj := { cls := .type "list", data := .seq vs.toArray }
  let H : Hp := scH K a ob (ns.map V.int)
  have hz : (ns.map V.int).length ≤ sizeLine := by rw [List.length_map]; exact hl
  have atA : ∀ b u, H b = some u → b = a := fun b u z => (scH_some z).1
  have hS : SqL K H a (ns.map V.int) := by
    cases hk : K.lookup a with
    | none => exact .inl (.inr ⟨ob, if_pos ⟨rfl, by rw [hk]; rfl⟩⟩)
    | some o =>
      have e := (KX a o hk).symm.trans ha
      cases e
      exact .inr ⟨_, vs.toArray, _, hk, rfl, rfl, rfl, by rw [List.size_toArray, lv]; exact hl, rv⟩
  have hok : HOk P w H s₁.heap := fun b u z => by
    obtain ⟨rfl, _, rfl⟩ := scH_some z
    exact ⟨ha, hz, vs, _, rv, ha⟩
  have free : ∀ {b : Addr} {o : Obj}, s₁.heap.get? b = some o → (∀ v, o.data ≠ .seq vs.toArray v) → H b = none := fun {b o} e d => by
    cases q : H b with
    | none => rfl
    | some u =>
      have e1 := atA b u q
      rw [e1, ha] at e
      cases e
      exact absurd rfl (d _)
  have ns2 : ∀ {b : Addr} {m : Str → Option Value}, s₁.heap.Ns b m → (hidT s₁.heap H).Ns b m := fun {b m} z => by
    obtain ⟨o, es, ep, e, d, r⟩ := z
    exact ⟨o, es, ep, hidT_get e (free e fun v q => by rw [d] at q; cases q), d, r⟩
  have KB : K.In (hidT s₁.heap H) := fun b o e => hidT_get (KX b o e) (by
    cases q : H b with
    | none => rfl
    | some u =>
      obtain ⟨e1, e2, _⟩ := scH_some q
      rw [e1, e2] at e
      cases e)
  obtain ⟨mc, c1, c2⟩ := hlim
  have e0 : Env0 P w K mg (hidT s₁.heap H) callerA [] s₁ H :=
    { frames := rfl, mod := ⟨KB, ns2 hns, ⟨mb, ns2 hb, hbb⟩, ⟨mc, ns2 c1, c2⟩⟩, bs := fun b o e => of_hidT e, bsz := Nat.le_of_eq (hidT_size _ _), funs := trivial, frf := (fun b z => by cases z), hok := hok, bare := .of_eq hg }
  have run := (F _ KB (ns2 hns)).run callerA rfl hr [] s₁ H e0 ⟨[.ref a], []⟩ [.ref a] (hbind s₁ (.ref a)) [.ref a] _ _ (.cons rfl .nil) (hsp H hS atA)
  refine codeAny_mono run fun r s2 q => ?_
  cases r with
  | error e => exact q.elim
  | ok fl =>
    cases fl with
    | next => exact q.elim
    | brk => exact q.elim
    | cont => exact q.elim
    | ret u =>
      obtain ⟨v, H', os, bare, un, hok', r', rfl⟩ := q
      cases r'
      refine ⟨rfl, OldK.of_keep fun b o e => ?_, os, bare⟩
      cases q : H b with
      | none => exact un.keep b o e q (fun z => by cases z) (fun z => by cases z)
      | some u =>
        obtain ⟨rfl, _, rfl⟩ := scH_some q
        have z3 := (hok' _ _ (un.frzs _ _ _ q)).1
        rw [ha] at e
        cases e
        exact z3
/-- the goal that k_head leaves -/
theorem gwalk {l : PySem.W.OpenLaw} {n k : Nat} {q : Program} {loose : List Str} {XP : (Str → Option Value) → Heap → Prop} {YP : World → Heap → Prop} {d : DefRec} {K : Params → PySem.W.Frag} {sp : World → Sp} {x : Str}
    (hn : l.most = some n) (hn2 : n ≤ sizeLine) (hdf : d.params.defaults = []) (hr : Room k callerA) (hY : ∀ (w : World) (h : Heap), YP w h → (K w.params).In h)
    (F : ∀ (w : World) (mg : Str → Option Value) (fa : Addr) (h : Heap), (K w.params).In h → h.Ns mainGlobals mg → mg d.name = some (.ref fa) →
      ∃ fd : FuncData, (∀ (s : Shared) (u : Value), BindsTo s fd ⟨[u], []⟩ [(x, u)]) ∧ ∀ base : Heap, (K w.params).In base → base.Ns mainGlobals mg → GFn l.prog w (K w.params) mg base k fa fd [x] (sp w))
    (hsp : ∀ (w : World) (H : Hp) (a : Addr) (ns : List Int), ns.length ≤ n → SqL (K w.params) H a (ns.map V.int) → (∀ b u, H b = some u → b = a) → sp w [.ref a] H (fun v _ => v = .bl true) fun _ _ _ => False) :
    PySem.W.WalkO q loose XP YP l.row.toRowW d [] (fun f vs => PySem.call f vs) := by
  refine Att.attach_call hn hdf ?_
  intro w s₀ s₁ mg mb fa o pm cd doc a vs ns G Y ho hd hcd hmg hobj hints hlen hg
  obtain ⟨fd, hb, hF⟩ := F w mg fa _ (hY w _ Y) G.T.g hmg
  exact gcall (hY w _ Y) G.T.g G.T.b G.T.builtins G.T.nolimit hg hobj hints (Nat.le_trans hlen hn2) hr hF hb fun H h1 h2 => hsp w H a ns hlen h1 h2
end Vq
end
section
set_option maxHeartbeats 1000000
namespace Zl
open PySem PySem.Spec PyProof.Rows L2
/-! ### a comprehension's own names -/
def wipeZ (δ : List Sl) : List Nat → List Sl
  | [] => δ
  | v :: vs => (wipeZ δ vs).set v .un
section
variable {K : PySem.W.Frag} {P : Pm} {Hc H Hc' H' : Hp} {σ : L2.St} {δ : List Sl}
theorem RW.clr (R : RW K P Hc H σ δ) (v : Nat) : RW K P Hc H (σ.set v none) (δ.set v .un) := by
  have hh : ∀ m, hotAt (δ.set v .un) m → v ≠ m ∧ hotAt δ m := fun m hm => by
    rcases hotAt_set hm with ⟨_, q⟩ | ⟨n, q⟩
    · cases q
    · exact ⟨n, q⟩
  refine ⟨R.base, R.fresh, R.cold, R.old, R.bag, by rw [List.length_set, List.length_set]; exact R.len, fun j t e => ?_, fun j k a hj hk ej ek => ?_, fun q hq => ⟨(R.gst q hq).1, (R.gst q hq).2.1, fun j hj ej => ?_⟩⟩
  · rcases set_get e with ⟨rfl, rfl, hl⟩ | ⟨e1, e2⟩
    · trivial
    · rw [List.getElem?_set_ne e1]
      exact R.sl j t e2
  · obtain ⟨nj, hj⟩ := hh j hj
    obtain ⟨nk, hk⟩ := hh k hk
    rw [List.getElem?_set_ne nj] at ej
    rw [List.getElem?_set_ne nk] at ek
    exact R.apart j k a hj hk ej ek
  · obtain ⟨nj, hj⟩ := hh j hj
    rw [List.getElem?_set_ne nj] at ej
    exact (R.gst q hq).2.2 j hj ej
theorem RW.wipe (R : RW K P Hc H σ δ) : ∀ vs : List Nat, RW K P Hc H (L2.wipe σ vs) (wipeZ δ vs)
  | [] => R
  | v :: vs => (RW.wipe R vs).clr v
theorem wipeZ_out {i : Nat} : ∀ {vs : List Nat}, i ∉ vs → (wipeZ δ vs)[i]? = δ[i]?
  | [], _ => rfl
  | v :: vs, h => by
    have h1 : v ≠ i := fun e => h (by rw [e]; exact List.mem_cons_self)
    have h2 : i ∉ vs := fun m => h (List.mem_cons_of_mem _ m)
    unfold wipeZ
    rw [List.getElem?_set_ne h1]
    exact wipeZ_out h2
/-- none of these slots is changed -/
def coldAll (δ : List Sl) : List Nat → Bool
  | [] => true
  | v :: vs => (match δ[v]? with
    | some s => !s.hot
    | none => true) && coldAll δ vs
theorem coldAll_at {i : Nat} {s : Sl} : ∀ {vs : List Nat}, coldAll δ vs = true → i ∈ vs → δ[i]? = some s → s.hot = false
  | v :: vs, h, hi, e => by
    unfold coldAll at h
    rw [Bool.and_eq_true] at h
    rcases List.mem_cons.mp hi with rfl | hi
    · have z := h.1
      rw [e] at z
      simpa using z
    · exact coldAll_at h.2 hi e
theorem RW.unwipe {vs : List Nat} (R : RW K P Hc H σ δ) (R' : RW K P Hc' H' (L2.wipe σ vs) (wipeZ δ vs)) (le : Le Hc Hc') (f : Le (nb P.g H) (nb P.g H')) (hc : coldAll δ vs = true) : RW K P Hc' H' σ δ := by
  have hot : ∀ i, hotAt δ i → i ∉ vs := fun i ⟨s, e, hs⟩ hi => by
    rw [coldAll_at hc hi e] at hs
    cases hs
  have hotW : ∀ i, hotAt δ i → hotAt (wipeZ δ vs) i := fun i h => by
    obtain ⟨s, e, hs⟩ := id h
    exact ⟨s, by rw [wipeZ_out (hot i h)]; exact e, hs⟩
  refine ⟨R'.base, R'.fresh, R'.cold, R'.old, R'.bag, R.len, fun i s e => ?_, fun i j a hi hj ei ej => ?_, fun q hq => ⟨(R'.gst q hq).1, (R'.gst q hq).2.1, fun j hj ej => ?_⟩⟩
  · by_cases hi : i ∈ vs
    · have hs := coldAll_at hc hi e
      exact (R.sl i s e).grow le f fun a z => by rw [hs] at z; cases z
    · have z := R'.sl i s (by rw [wipeZ_out hi]; exact e)
      rw [L2.wipe_out hi] at z
      exact z
  · refine R'.apart i j a (hotW i hi) (hotW j hj) ?_ ?_
    · rw [L2.wipe_out (hot i hi)]
      exact ei
    · rw [L2.wipe_out (hot j hj)]
      exact ej
  · refine (R'.gst q hq).2.2 j (hotW j hj) ?_
    rw [L2.wipe_out (hot j hj)]
    exact ej
theorem wipe_set {i : Nat} {x : Option V} : ∀ (vs : List Nat) (σ : L2.St), L2.wipe (σ.set i x) vs = if i ∈ vs then L2.wipe σ vs else (L2.wipe σ vs).set i x
  | [], σ => by simp [L2.wipe]
  | v :: vs, σ => by
    unfold L2.wipe
    rw [wipe_set vs σ]
    by_cases h : i ∈ vs
    · rw [if_pos h, if_pos (List.mem_cons_of_mem _ h)]
    · rw [if_neg h]
      by_cases e : v = i
      · subst e
        rw [if_pos List.mem_cons_self, List.set_set]
      · rw [if_neg (fun z => by rcases List.mem_cons.mp z with z | z; exact e z.symm; exact h z), List.set_comm _ _ (fun z => e z.symm)]
theorem wipeZ_set {i : Nat} {x : Sl} : ∀ (vs : List Nat) (δ : List Sl), wipeZ (δ.set i x) vs = if i ∈ vs then wipeZ δ vs else (wipeZ δ vs).set i x
  | [], δ => by simp [wipeZ]
  | v :: vs, δ => by
    unfold wipeZ
    rw [wipeZ_set vs δ]
    by_cases h : i ∈ vs
    · rw [if_pos h, if_pos (List.mem_cons_of_mem _ h)]
    · rw [if_neg h]
      by_cases e : v = i
      · subst e
        rw [if_pos List.mem_cons_self, List.set_set]
      · rw [if_neg (fun z => by rcases List.mem_cons.mp z with z | z; exact e z.symm; exact h z), List.set_comm _ _ (fun z => e z.symm)]
theorem wipe_sub : ∀ (us vs : List Nat) (σ : L2.St), (∀ v ∈ us, v ∈ vs) → L2.wipe (L2.wipe σ us) vs = L2.wipe σ vs
  | [], _, _, _ => rfl
  | u :: us, vs, σ, h => by
    show L2.wipe ((L2.wipe σ us).set u none) vs = _
    rw [wipe_set, if_pos (h u List.mem_cons_self), wipe_sub us vs σ fun v hv => h v (List.mem_cons_of_mem _ hv)]
theorem wipe_wipe (vs : List Nat) (σ : L2.St) : L2.wipe (L2.wipe σ vs) vs = L2.wipe σ vs := wipe_sub vs vs σ fun _ h => h
theorem wipeZ_sub : ∀ (us vs : List Nat) (δ : List Sl), (∀ v ∈ us, v ∈ vs) → wipeZ (wipeZ δ us) vs = wipeZ δ vs
  | [], _, _, _ => rfl
  | u :: us, vs, δ, h => by
    show wipeZ ((wipeZ δ us).set u .un) vs = _
    rw [wipeZ_set, if_pos (h u List.mem_cons_self), wipeZ_sub us vs δ fun v hv => h v (List.mem_cons_of_mem _ hv)]
theorem wipeZ_wipe (vs : List Nat) (δ : List Sl) : wipeZ (wipeZ δ vs) vs = wipeZ δ vs := wipeZ_sub vs vs δ fun _ h => h
/-- targets within a comprehension -/
def GRel (K : PySem.W.Frag) (vs : List Nat) (g : TG) (gz : TGz) : Prop := ∀ P Hc H σ δ v w q Q, RW K P Hc H σ δ → RVw K P Hc H σ δ v w → gz w δ q → (∀ σ' δ', L2.wipe σ' vs = L2.wipe σ vs → wipeZ δ' vs = wipeZ δ vs → RW K P Hc H σ' δ' → q δ' → Q σ' H) → g v σ H Q
def GRels (K : PySem.W.Frag) (vs : List Nat) (g : TGs) (gz : TGzs) : Prop := ∀ P Hc H σ δ v w q Q, RW K P Hc H σ δ → RVs K Hc v w → gz w δ q → (∀ σ' δ', L2.wipe σ' vs = L2.wipe σ vs → wipeZ δ' vs = wipeZ δ vs → RW K P Hc H σ' δ' → q δ' → Q σ' H) → g v σ H Q
theorem gr_name {vs : List Nat} {i : Nat} (hi : i ∈ vs) : GRel K vs (gName i) (gzName i) := fun P Hc H σ δ v w q Q R rv h k => by
  obtain ⟨s, hs, R'⟩ := R.store (i := i) (k := fun s => q (δ.set i s)) rv h
  exact k _ _ (by rw [wipe_set, if_pos hi]) (by rw [wipeZ_set, if_pos hi]) R' hs
theorem gr_nil {vs : List Nat} : GRels K vs gNil gzNil := fun P Hc H σ δ v w q Q R rv h k => by
  cases rv with
  | nil => exact ⟨rfl, k σ δ rfl rfl R h⟩
  | cons _ _ => exact h.elim
theorem gr_cons {vs : List Nat} {g : TG} {gz : TGz} {gs : TGs} {gzs : TGzs} (h1 : GRel K vs g gz) (h2 : GRels K vs gs gzs) : GRels K vs (gCons g gs) (gzCons gz gzs) := fun P Hc H σ δ v w q Q R rv h k => by
  cases rv with
  | nil => exact h.elim
  | cons r rr =>
    refine ⟨_, _, rfl, h1 P Hc H σ δ _ (.d _) _ _ R r h fun σ' δ' e ez R' hq => h2 P Hc H σ' δ' _ _ _ _ R' rr hq fun σ2 δ2 e2 ez2 R2 hq2 => ?_⟩
    exact k σ2 δ2 (e2.trans e) (ez2.trans ez) R2 hq2
theorem gr_tup {vs : List Nat} {n : Nat} {gs : TGs} {gzs : TGzs} (h : GRels K vs gs gzs) : GRel K vs (gTup K n gs) (gzTup n gzs) := fun P Hc H σ δ v w q Q R rv hz k => by
  unfold gzTup at hz
  split at hz
  · obtain ⟨hl, hz⟩ := lenIs_inv hz
    obtain ⟨a, us, rfl, h1, h2, _⟩ := RVw.tupW R rv (by assumption)
    exact ⟨a, us, rfl, SqT.of h1, by rw [h2.len]; exact hl, h P Hc H σ δ us _ q Q R h2 hz k⟩
  · exact hz.elim
end
/-! ### list comprehensions -/
def zComp (g : TGz) (tt : TPt) (te : TP) (q : W → Prop) (δ : List Sl) : List D → List D → Prop
  | [], acc => q (.new acc)
  | d :: ds, acc => g (.d d) δ fun δ1 => tt δ1 fun k => if k = true then te δ1 fun w => (match w with
    | .d y => zComp g tt te q δ ds (acc ++ [y])
    | _ => False) else zComp g tt te q δ ds acc
def zLc (it : TIz) (g : TGz) (tt : TPt) (te : TP) (vs : List Nat) : TP := fun δ q => match coldAll δ vs with
  | true => it δ fun ds => zComp g tt te q (wipeZ δ vs) ds []
  | false => False
def zYes : TPt := fun _ q => q true
theorem zyes_ok {K : PySem.W.Frag} {σ : L2.St} {H : Hp} {Q : Bool → Hp → Prop} (h : lftT K zYes σ H Q) : tYes σ H Q := by
  obtain ⟨P, Hc, δ, q, R, ht, post⟩ := h
  exact post Hc H true (Le.refl _) (Le.refl _) R ht
section
variable {K : PySem.W.Frag} {P : Pm} {Hc H Hc' H' : Hp} {σ : L2.St} {δ : List Sl}
theorem RW.ghost {a : Addr} {vs : List V} {ds : List D} (R : RW K P Hc H σ δ) (h : H a = none) (r : RVs K Hc vs ds) (hz : ds.length ≤ sizeLine) : RW K (P.add [(a, .hl ds)]) Hc (upd H a (.lst vs)) σ δ :=
  (R.newO h).hold (v := .ref a) (w := .new ds) (R.hotNew h r hz)
theorem RW.ghostPut {a : Addr} {ws : List V} {ds es : List D} (R : RW K (P.add [(a, .hl ds)]) Hc H σ δ) (r : RVs K Hc ws es) (hz : es.length ≤ sizeLine) (ng : ∀ q ∈ P.gh, q.1 ≠ a) : RW K (P.add [(a, .hl es)]) Hc (upd H a (.lst ws)) σ δ := by
  obtain ⟨⟨b, eb, hc, us, h1, hF, hg, h2⟩, _, h3⟩ := R.gst (a, .hl ds) List.mem_cons_self
  cases eb
  have nbu : ∀ b u, b ≠ a → nb P.g H b = some u → nb P.g (upd H a (.lst ws)) b = some u := fun b u hb e => by
    obtain ⟨e1, e2⟩ := nb_some e
    exact nb_of e1 (by rw [upd_ne hb]; exact e2)
  refine ⟨R.base, R.fresh, fun b u e => nbu b u (fun z => by rw [z, hc] at e; cases e) (R.cold b u e), fun b u e => nbu b u (fun z => by
    rw [z] at e
    have q := (nb_some e).2
    have hF : P.F a = none := hF
    have q : P.F a = some u := q
    rw [hF] at q
    cases q) (R.old b u e), fun g' hg' => ?_, R.len, fun j u e => ?_, R.apart, fun q hq => ?_⟩
  · obtain ⟨hb, u, hu⟩ := R.bag g' hg'
    refine ⟨hb.grow (fun o' h' => ?_) (fun o' h' => ?_), u, hu⟩
    · rw [upd_ne (fun z => by rw [z] at hg'; exact hg hg')]
      exact h'
    · rw [upd_ne (fun z => by rw [z, hc] at hu; cases hu)]
      exact h'
  · have z := R.sl j u e
    have ap : ∀ b, u.hot = true → σ[j]? = some (some (.ref b)) → b ≠ a := fun b hu eb eq => h3 j ⟨u, e, hu⟩ (by rw [eb, eq])
    cases u with
    | un => trivial
    | w x => cases x <;> exact z
    | hl xs =>
      obtain ⟨b, z1, z2, vs, z3, z4⟩ := z
      exact ⟨b, z1, z2, vs, by rw [upd_ne (ap b rfl z1)]; exact z3, z4⟩
    | hd xs =>
      obtain ⟨b, z1, z2, vs, z3, z4⟩ := z
      exact ⟨b, z1, z2, vs, by rw [upd_ne (ap b rfl z1)]; exact z3, z4⟩
  · rcases List.mem_append.mp hq with hq | hq
    · rcases List.mem_singleton.mp hq with rfl
      exact ⟨⟨a, rfl, hc, ws, upd_same, hF, hg, r, hz⟩, rfl, h3⟩
    · obtain ⟨z, z1, z2⟩ := R.gst q (List.mem_append_right _ hq)
      have ap := ng q hq
      refine ⟨?_, z1, z2⟩
      obtain ⟨q1, q2⟩ := q
      cases q2 with
      | un => cases z1
      | w x => cases z1
      | hl xs =>
        obtain ⟨b, y1, y2, vs, y3, y4⟩ := z
        cases y1
        exact ⟨_, rfl, y2, vs, by rw [upd_ne ap]; exact y3, y4⟩
      | hd xs =>
        obtain ⟨b, y1, y2, vs, y3, y4⟩ := z
        cases y1
        exact ⟨_, rfl, y2, vs, by rw [upd_ne ap]; exact y3, y4⟩
end
theorem lft_lc {K : PySem.W.Frag} {it : TIz} {g : TG} {gz : TGz} {tt : TT} {ttz : TPt} {te : TP} {vs : List Nat} {σ : L2.St} {H : Hp} {Q : VK} (hg : GRel K vs g gz) (ht : ∀ σ H Q, lftT K ttz σ H Q → tt σ H Q) (h : lft K (zLc it gz ttz te vs) σ H Q) :
    tLc (lftI K it) g tt (lft K te) vs σ H Q := by
  obtain ⟨P, Hc, δ, q, R, h, post⟩ := h
  unfold zLc at h
  cases hcold : coldAll δ vs with
  | false =>
    rw [hcold] at h
    exact h.elim
  | true =>
  rw [hcold] at h
  refine ⟨P, Hc, δ, _, R, h, fun Hc1 H1 ds J l1 f1 R1 wk hq Dn hD => ?_⟩
  have free := R1.free hD
  have ap := R1.new_apart hD
  refine ⟨fun i m H => ∃ Hc2 acc accV, Le Hc1 Hc2 ∧ Le (nb P.g H1) (nb P.g H) ∧ RW K (P.add [(Dn, .hl acc)]) Hc2 H (L2.wipe σ vs) (wipeZ δ vs) ∧ H Dn = some (.lst accV) ∧ RVs K Hc2 accV acc ∧ acc.length ≤ i ∧ m = ds.length - i ∧ i ≤ ds.length ∧ zComp gz ttz te q (wipeZ δ vs) (ds.drop i) acc, ⟨ds.length, Hc1, [], [], Le.refl _, nb_new hD, ?_, upd_same, .nil, Nat.le_refl _, by omega, Nat.zero_le _, hq⟩, ?_⟩
  · exact (R1.wipe vs).ghost hD .nil (Nat.zero_le _)
  rintro i m H2 ⟨Hc2, acc, accV, l2, f2, R2, hDn, hacc, hle, rfl, hi, hz⟩
  have lim := wk.lim
  by_cases hlt : i < ds.length
  · refine .inr ⟨wk.goes i (P.add [(Dn, .hl acc)]) Hc2 H2 _ _ l2 R2 hlt, fun H => ∃ Hc2 acc accV, Le Hc1 Hc2 ∧ Le (nb P.g H1) (nb P.g H) ∧ RW K (P.add [(Dn, .hl acc)]) Hc2 H (L2.wipe σ vs) (wipeZ δ vs) ∧ H Dn = some (.lst accV) ∧ RVs K Hc2 accV acc ∧ acc.length ≤ i + 1 ∧ zComp gz ttz te q (wipeZ δ vs) (ds.drop (i + 1)) acc, ?_, ?_⟩
    · rintro H3 ⟨Hc3, acc3, accV3, l3, f3, R3, a3, b3, c3, z3⟩
      exact ⟨ds.length - (i + 1), by omega, Hc3, acc3, accV3, l3, f3, R3, a3, b3, c3, rfl, hlt, z3⟩
    · intro x H3 y
      have e : ds[i]? = some ds[i] := by simp [hlt]
      obtain ⟨Hc3, l3, f3, R3, rv⟩ := wk.yields i (P.add [(Dn, .hl acc)]) Hc2 H2 _ _ x H3 _ l2 R2 e y
      have hz : zComp gz ttz te q (wipeZ δ vs) (ds[i] :: ds.drop (i + 1)) acc := by
        rw [List.drop_eq_getElem_cons hlt] at hz
        exact hz
      have f3 : Le (nb P.g H2) (nb P.g H3) := f3
      refine hg (P.add [(Dn, .hl acc)]) Hc3 H3 _ _ x (.d ds[i]) _ _ R3 rv hz fun σ4 δ4 e4 ez4 R4 hq4 => ⟨by rw [e4]; exact wipe_wipe vs σ, ht _ _ _ ⟨P.add [(Dn, .hl acc)], Hc3, δ4, _, R4, hq4, fun Hc5 H5 k l5 f5 R5 hq5 => ?_⟩⟩
      have f5 : Le (nb P.g H3) (nb P.g H5) := f5
      -- back to the slots as they were
      have back : ∀ {Hc6 H6}, RW K (P.add [(Dn, .hl acc)]) Hc6 H6 σ4 δ4 → RW K (P.add [(Dn, .hl acc)]) Hc6 H6 (L2.wipe σ vs) (wipeZ δ vs) := fun {Hc6 H6} R6 => by
        have z := R6.wipe vs
        rw [e4, ez4, wipe_wipe, wipeZ_wipe] at z
        exact z
      have here : ∀ {Hc6 H6}, RW K (P.add [(Dn, .hl acc)]) Hc6 H6 σ4 δ4 → ∃ us, H6 Dn = some (.lst us) ∧ RVs K Hc6 us acc := fun {Hc6 H6} R6 => by
        obtain ⟨⟨b, eb, _, us, h1, _, _, h2, _⟩, _, _⟩ := R6.gst (Dn, .hl acc) List.mem_cons_self
        cases eb
        exact ⟨us, h1, h2⟩
      cases k with
      | false =>
        obtain ⟨us, h1, h2⟩ := here R5
        exact ⟨Hc5, acc, us, ((l2.trans l3).trans l5), ((f2.trans f3).trans f5), back R5, h1, h2, by omega, hq5⟩
      | true =>
        refine ⟨P.add [(Dn, .hl acc)], Hc5, δ4, _, R5, hq5, fun Hc6 H6 v w l6 f6 R6 rv6 hq6 => ?_⟩
        have f6 : Le (nb P.g H5) (nb P.g H6) := f6
        obtain ⟨us, h1, h2⟩ := here R6
        cases w with
        | d y =>
          have hus := h2.len
          have ng : ∀ q ∈ P.gh, q.1 ≠ Dn := ap.2
          have r2 : RVs K Hc6 (us ++ [v]) (acc ++ [y]) := h2.append (.one rv6)
          have hl2 : (acc ++ [y]).length ≤ sizeLine := by
            rw [List.length_append]
            show acc.length + 1 ≤ _
            omega
          refine ⟨us, h1, by omega, Hc6, acc ++ [y], us ++ [v], ((l2.trans l3).trans l5).trans l6, ?_, (back R6).ghostPut r2 hl2 ng, upd_same, r2, ?_, hq6⟩
          · intro b o eb
            have zz := ((f2.trans f3).trans f5).trans f6 b o eb
            obtain ⟨n1, n2⟩ := nb_some zz
            refine nb_of n1 ?_
            rw [upd_ne (fun z => ?_)]
            · exact n2
            · rw [z] at eb
              have := (nb_some eb).2
              rw [hD] at this
              cases this
          · rw [List.length_append]
            show acc.length + 1 ≤ _
            omega
        | _ => exact hq6.elim
  · have ei : i = ds.length := by omega
    subst ei
    rw [List.drop_length] at hz
    refine .inl ⟨wk.stops (P.add [(Dn, .hl acc)]) Hc2 H2 _ _ l2 R2, ?_⟩
    have R5 : RW K P Hc2 H2 σ δ := R1.unwipe R2.drop l2 f2 hcold
    obtain ⟨⟨b, eb, hc, us, h1, hF, hg', h2⟩, _, h3⟩ := R2.gst (Dn, .hl acc) List.mem_cons_self
    cases eb
    exact post Hc2 H2 _ (.new acc) (l1.trans l2) (f1.trans f2) R5 ⟨Dn, rfl, hc, ⟨us, h1, hF, hg', h2⟩, ap.1, ap.2⟩ hz
end Zl
end
section
set_option maxHeartbeats 1000000
namespace Vq
open PySem PySem.Spec PyProof.Rows L2
structure D1 (K : PySem.W.Frag) (mg : Str → Option Value) (x : Str) (st : Stmt) (ps : List Str) : Prop where
  ex : ∃ f fd, L2.Fun K x x st f fd ∧ mg x = some (.ref f) ∧ Binds K fd ps []
structure GCal (P : Program) (w : World) (K : PySem.W.Frag) (mg : Str → Option Value) (base : Heap) (k : Nat) (x : Str) (sp : Sp) : Prop where
  ex : ∃ f fd ps, GFn P w K mg base k f fd ps sp ∧ mg x = some (.ref f) ∧ PySem.W.keepIn K (.ref f) = true ∧ Binds K fd ps []
section
variable {P : Program} {w : World} {K : PySem.W.Frag} {mg : Str → Option Value} {base : Heap}
theorem GFn.mono {j k : Nat} {f : Addr} {fd : FuncData} {ps : List Str} {sp : Sp} (F : GFn P w K mg base j f fd ps sp) (h : j ≤ k) : GFn P w K mg base k f fd ps sp :=
  ⟨F.len, fun A hG hr => F.run A hG (hr.mono h)⟩
theorem cal_of {x : Str} {st : Stmt} {N ps : List Str} {k : Nat} {sp : Sp} (D : D1 K mg x st ps) (S : FnScope N ps (defScope st)) (len : ∀ vs H Q E, sp vs H Q E → vs.length = ps.length)
    (hbody : ∀ (f : Addr) (cdv : Value) (A : Around) (outer : List Env) (s : Shared) (H : Hp) (vs : List V) (Q : VK) (E : XK), Room k (A.deeper (envOfC x (defScope st) s.heap.objs.size f cdv)) → sp vs H Q E →
      ∃ t, PSs (cxOf CX0 P w K mg base N x (defScope st) f cdv A outer s H E).nox (defBody st) t ∧ t { nx := fun _ H' => Q .non H', rt := Q } (start N vs) H) : C8.Cal P w K mg base (k + 1) x sp [] := by
  obtain ⟨f, fd, F, m, b⟩ := D.ex
  exact ⟨f, fd, ps, [], F.ok S len fun cdv A outer s H vs Q E hr h => hbody f cdv A outer s H vs Q E hr h, m, F.kp, b, .nil⟩
theorem gcal_of {x : Str} {st : Stmt} {N ps : List Str} {k : Nat} {sp : Sp} (D : D1 K mg x st ps) (S : FnScope N ps (defScope st)) (len : ∀ vs H Q E, sp vs H Q E → vs.length = ps.length)
    (hbody : ∀ (f : Addr) (cdv : Value) (A : Around) (outer : List Env) (s : Shared) (H : Hp) (vs : List V) (Q : VK) (E : XK), A.guards = some [] → Room k (A.deeper (envOfC x (defScope st) s.heap.objs.size f cdv)) → sp vs H Q E →
      ∃ t, PSs (cxOf CX0 P w K mg base N x (defScope st) f cdv A outer s H E).nox (defBody st) t ∧ t { nx := fun _ H' => Q .non H', rt := Q } (start N vs) H) : GCal P w K mg base (k + 1) x sp := by
  obtain ⟨f, fd, F, m, b⟩ := D.ex
  exact ⟨f, fd, ps, gfn_of F S len fun cdv A outer s H vs Q E hg hr h => hbody f cdv A outer s H vs Q E hg hr h, m, F.kp, b⟩
end
theorem pe_gc {X : Cx} {j k : Nat} {sp : Sp} {x : Str} {p pos : Pos} {e : Expr} {es : List Expr} {t : TA} (hG : X.A.guards = some []) (c : GCal X.prog X.w X.K X.mg X.base k x sp) (hr : Room j X.A) (hk : k ≤ j) (hg : Gl X x) (ha : PA X (e :: es) t)
    (hdb : (x == ("__debug__" : Str)) = false := by decide) (he : starEach (e :: es) X.env = (false, eval e X.env) :: starEach es X.env := by rfl) (hpl : (backTo pos (starEach es X.env)).any (·.1) = false := by rfl) :
    PE X (.Call (.Name x p) (e :: es) [] pos) (tCall sp [] E0 t) := by
  obtain ⟨f, fd, ps, F, hm, kp, b⟩ := c.ex
  exact pe_gcall hG (F.mono hk) hr hg hm kp b ha hdb he hpl
end Vq
end
section
set_option maxHeartbeats 1000000
namespace Zl
open PySem PySem.Spec PyProof.Rows L2
section
variable {X : Cx}
theorem pts_imp {X : Cx} {ifs : List Expr} {t t' : TT} (h : PTs X ifs t) (i : ∀ σ H Q, t' σ H Q → t σ H Q) : PTs X ifs t' := ⟨fun pins s σ H Q I q => h.run pins s σ H Q I (i σ H Q q)⟩
/-- [elt for tg in iter] -/
theorem z_lc {elt tg iter : Expr} {scope : Scope} {own : List (Str × Nat)} {pos : Pos} {wi : TIz} {g : TG} {gz : TGz} {te : TP} (hc : X.calm = true) (hN : X.N.Nodup) (hi : ZI X tg iter wi) (ok : BlkOk X.N X.env.scope scope own)
    (hg : ∀ (s : Shared) (H : Hp) (C : Addr) (cl : List (Str × Addr)) (fp : List Addr), PG (X.blk s H scope (compEnvC scope cl C X.env) fp) tg g) (gr : GRel X.K (own.map (·.2)) g gz)
    (he : ∀ (s : Shared) (H : Hp) (C : Addr) (cl : List (Str × Addr)) (fp : List Addr), ZE (X.blk s H scope (compEnvC scope cl C X.env) fp) elt te) (hs : ∀ x, foldedSetIterable iter X.env x = pure x := by intro _; rfl) :
    ZE X (.ListComp elt [⟨tg, iter, [], 0⟩] scope pos) (zLc wi gz zYes te (own.map (·.2))) :=
  pe_imp (pe_lc (te := lft X.K te) hc hN hi ok hg (fun _ _ _ _ _ => pts_nil) he hs) fun _ _ _ h => lft_lc gr (fun _ _ _ => zyes_ok) h
/-- [elt for tg in iter if c] -/
theorem z_lci {elt tg iter c : Expr} {scope : Scope} {own : List (Str × Nat)} {pos : Pos} {wi : TIz} {g : TG} {gz : TGz} {tc : TPt} {te : TP} (hc : X.calm = true) (hN : X.N.Nodup) (hi : ZI X tg iter wi) (ok : BlkOk X.N X.env.scope scope own)
    (hg : ∀ (s : Shared) (H : Hp) (C : Addr) (cl : List (Str × Addr)) (fp : List Addr), PG (X.blk s H scope (compEnvC scope cl C X.env) fp) tg g) (gr : GRel X.K (own.map (·.2)) g gz)
    (ht : ∀ (s : Shared) (H : Hp) (C : Addr) (cl : List (Str × Addr)) (fp : List Addr), ZT (X.blk s H scope (compEnvC scope cl C X.env) fp) c tc)
    (he : ∀ (s : Shared) (H : Hp) (C : Addr) (cl : List (Str × Addr)) (fp : List Addr), ZE (X.blk s H scope (compEnvC scope cl C X.env) fp) elt te) (hs : ∀ x, foldedSetIterable iter X.env x = pure x := by intro _; rfl) :
    ZE X (.ListComp elt [⟨tg, iter, [c], 0⟩] scope pos) (zLc wi gz tc te (own.map (·.2))) :=
  pe_imp (pe_lc (tt := lftT X.K tc) (te := lft X.K te) hc hN hi ok hg (fun s H C cl fp => pts_one (ht s H C cl fp)) he hs) fun _ _ _ h => lft_lc gr (fun _ _ _ z => z) h
end
/-! ### defs over data -/
def RVc (K : PySem.W.Frag) (g : Option Addr) (B : Hp) (v : V) : W → Prop
  | .d x => RV K B v x
  | .bag => ∃ a, g = some a ∧ v = .ref a
  | .op u => v = u
  | _ => False
inductive RVcs (K : PySem.W.Frag) (g : Option Addr) (B : Hp) : List V → List W → Prop
  | nil : RVcs K g B [] []
  | cons {v : V} {w : W} {vs : List V} {ws : List W} : RVc K g B v w → RVcs K g B vs ws → RVcs K g B (v :: vs) (w :: ws)
/-- what a call gives: as an argument, or a new list -/
def RVr (K : PySem.W.Frag) (g : Option Addr) (B H H' : Hp) (v : V) : W → Prop
  | .new xs => ∃ a vs, v = .ref a ∧ B a = none ∧ H a = none ∧ H' a = some (.lst vs) ∧ RVs K B vs xs ∧ xs.length ≤ sizeLine
  | .newd xs => ∃ a vs, v = .ref a ∧ B a = none ∧ H a = none ∧ H' a = some (.dK vs) ∧ RKs K B vs xs
  | w => RVc K g B v w
abbrev Spz := List W → (W → Prop) → Prop
def zsp (K : PySem.W.Frag) (sp : Spz) : Sp := fun vs H Q _ => ∃ g r B ws q, Le B (nb g H) ∧ BagOk g r B H ∧ RVcs K g B vs ws ∧ sp ws q ∧
  ∀ B' H' v w, Le B B' → (∀ b o, B' b = some o → B b = some o ∨ H b = none) → Le B' (nb g H') → Le (nb g H) (nb g H') → BagOk g r B' H' → RVr K g B' H H' v w → q w → Q v H'
/-- a def keeps this promise over data -/
def ZCal (P : Program) (w : World) (K : PySem.W.Frag) (mg : Str → Option Value) (base : Heap) (k : Nat) (x : Str) (sp : Spz) : Prop := Vq.GCal P w K mg base k x (zsp K sp)
def cOk : List W → Prop → Prop
  | [], p => p
  | .d _ :: ws, p => cOk ws p
  | .bag :: ws, p => cOk ws p
  | .op _ :: ws, p => cOk ws p
  | _, _ => False
section
variable {K : PySem.W.Frag} {P : Pm} {Hc H Hc' H' : Hp} {σ : L2.St} {δ : List Sl}
theorem cOk_inv : ∀ {vs : List V} {ws : List W} {p : Prop}, RVa K P Hc H σ δ vs ws → cOk ws p → RVcs K P.g Hc vs ws ∧ p
  | _, _, _, .nil, h => ⟨.nil, h⟩
  | _, _, _, .cons (w := w) r t, h => by
    cases w with
    | d x => exact ⟨.cons r (cOk_inv t h).1, (cOk_inv t h).2⟩
    | bag => exact ⟨.cons r (cOk_inv t h).1, (cOk_inv t h).2⟩
    | op x => exact ⟨.cons r (cOk_inv t h).1, (cOk_inv t h).2⟩
    | _ => exact h.elim
theorem RVcs.len : ∀ {g : Option Addr} {B : Hp} {vs : List V} {ws : List W}, RVcs K g B vs ws → vs.length = ws.length
  | _, _, _, _, .nil => rfl
  | _, _, _, _, .cons _ t => congrArg (· + 1) t.len
theorem RVc.w {v : V} {w : W} (h : RVc K P.g Hc v w) : RVw K P Hc H σ δ v w := by
  cases w with
  | d x => exact h
  | bag => exact h
  | op x => exact h
  | _ => exact h.elim
/-- behind a call: what the callee leaves -/
theorem RW.called {B' : Hp} (R : RW K P Hc H σ δ) (l : Le Hc B') (fr : ∀ b o, B' b = some o → Hc b = some o ∨ H b = none) (c : Le B' (nb P.g H')) (f : Le (nb P.g H) (nb P.g H')) (bk : BagOk P.g P.r B' H') : RW K P B' H' σ δ := by
  have keep : ∀ a, Hc a = none → (∃ u, H a = some u) → B' a = none := fun a h1 ⟨u, h2⟩ => by
    cases q : B' a with
    | none => rfl
    | some o =>
      rcases fr a o q with z | z
      · rw [h1] at z; cases z
      · rw [h2] at z; cases z
  refine ⟨R.base.trans l, fun b o e => ?_, c, R.old.trans f, bk, R.len, fun i s e => (R.sl i s e).grow l f fun a hs ea hc => ?_, R.apart, fun q hq => ⟨(R.gst q hq).1.grow l f fun a hs ea hc => ?_, (R.gst q hq).2⟩⟩
  · rcases fr b o e with z | z
    · exact R.fresh b o z
    · exact .inr (R.free z).2.1
  · obtain ⟨_, h2, _⟩ := (R.sl i s e).hotH hs ea
    exact keep a hc h2
  · obtain ⟨_, h2, _⟩ := (R.gst q hq).1.hotH hs ea
    exact keep a hc h2
end
section
variable {X : Cx} {j k : Nat} {sp : Spz} {x : Str} {p pos : Pos} {e : Expr} {es : List Expr} {t : TPa}
def zCall (sp : Spz) (t : TPa) : TP := fun δ q => t δ fun ws => cOk ws (sp ws q)
theorem z_call (hG : X.A.guards = some []) (c : ZCal X.prog X.w X.K X.mg X.base k x sp) (hr : Room j X.A) (hk : k ≤ j) (hg : Gl X x) (ha : ZA X (e :: es) t)
    (hdb : (x == ("__debug__" : Str)) = false := by decide) (he : starEach (e :: es) X.env = (false, eval e X.env) :: starEach es X.env := by rfl) (hpl : (backTo pos (starEach es X.env)).any (·.1) = false := by rfl) :
    ZE X (.Call (.Name x p) (e :: es) [] pos) (zCall sp t) := pe_imp (Vq.pe_gc hG c hr hk hg ha hdb he hpl) fun σ H Q => by
  rintro ⟨P, Hc, δ, q, R, ht, post⟩
  refine ⟨P, Hc, δ, _, R, ht, fun Hc' H' vs ws l f R' rv hq => ?_⟩
  obtain ⟨rc, hq⟩ := cOk_inv rv hq
  rw [List.append_nil]
  refine ⟨P.g, P.r, Hc', ws, q, R'.cold, R'.bag, rc, hq, fun B' H2 v w l2 fr c2 f2 bk rv2 hq2 => ?_⟩
  have R3 := R'.called l2 fr c2 f2 bk
  refine post B' H2 v w (l.trans l2) (f.trans f2) R3 ?_ hq2
  cases w with
  | new xs =>
    obtain ⟨a, us, rfl, h1, h2, h3, h4, h5⟩ := rv2
    obtain ⟨z1, z2, z3⟩ := R'.free h2
    exact ⟨a, rfl, h1, ⟨us, h3, z2, z3, h4, h5⟩, R'.new_apart h2⟩
  | d x => exact RVc.w (w := .d x) rv2
  | bag => exact RVc.w (w := .bag) rv2
  | op x => exact RVc.w (w := .op x) rv2
  | hot x => exact RVc.w (w := .hot x) rv2
  | hotd x => exact RVc.w (w := .hotd x) rv2
  | newd xs =>
    obtain ⟨a, us, rfl, h1, h2, h3, h4⟩ := rv2
    obtain ⟨z1, z2, z3⟩ := R'.free h2
    exact ⟨a, rfl, h1, ⟨us, h3, z2, z3, h4⟩, R'.new_apart h2⟩
  | brw x => exact RVc.w (w := .brw x) rv2
/-- a call with lists that are still changed, its answer no object -/
def chillW : W → W
  | .hot xs => .d (.list xs)
  | .hotd xs => .d (.dict (xs.map fun p => (keyD p.1, p.2)))
  | .brw x => .d x
  | w => w
def atomW (w : W) (q : W → Prop) : Prop := match w with
  | .d .none => q (.d .none)
  | .d (.bool b) => q (.d (.bool b))
  | .d (.int i) => q (.d (.int i))
  | .d (.str x) => q (.d (.str x))
  | _ => False
def zCallH (sp : Spz) (t : TPa) : TP := fun δ q => t δ fun ws => cOk (ws.map chillW) (sp (ws.map chillW) fun w => atomW w q)
theorem cOkH_inv {K : PySem.W.Frag} {P : Pm} {Hc H : Hp} {σ : L2.St} {δ : List Sl} (R : RW K P Hc H σ δ) : ∀ {vs : List V} {ws : List W} {p : Prop}, RVa K P Hc H σ δ vs ws → cOk (ws.map chillW) p → RVcs K P.g (allH P Hc H) vs (ws.map chillW) ∧ p
  | _, _, _, .nil, h => ⟨.nil, h⟩
  | _, _, _, .cons (w := w) r t, h => by
    obtain ⟨l1, l2, l3⟩ := R.all
    cases w with
    | d x => exact ⟨.cons (RV.mono l1 r) (cOkH_inv R t h).1, (cOkH_inv R t h).2⟩
    | bag => exact ⟨.cons r (cOkH_inv R t h).1, (cOkH_inv R t h).2⟩
    | op x => exact ⟨.cons r (cOkH_inv R t h).1, (cOkH_inv R t h).2⟩
    | hot xs =>
      obtain ⟨a, rfl, vs, h1, h2, h3, h4, h5⟩ := r
      exact ⟨.cons (RV.lst (l3 h1 h2 h3) h5 (h4.mono l1)) (cOkH_inv R t h).1, (cOkH_inv R t h).2⟩
    | hotd xs =>
      obtain ⟨a, rfl, vs, h1, h2, h3, h4⟩ := r
      exact ⟨.cons (RV.dct (.inl (l3 h1 h2 h3)) (RKs.d (h4.mono l1))) (cOkH_inv R t h).1, (cOkH_inv R t h).2⟩
    | brw x => exact ⟨.cons r (cOkH_inv R t h).1, (cOkH_inv R t h).2⟩
    | new xs => exact h.elim
    | newd xs => exact h.elim
theorem z_callH (hG : X.A.guards = some []) (c : ZCal X.prog X.w X.K X.mg X.base k x sp) (hr : Room j X.A) (hk : k ≤ j) (hg : Gl X x) (ha : ZA X (e :: es) t)
    (hdb : (x == ("__debug__" : Str)) = false := by decide) (he : starEach (e :: es) X.env = (false, eval e X.env) :: starEach es X.env := by rfl) (hpl : (backTo pos (starEach es X.env)).any (·.1) = false := by rfl) :
    ZE X (.Call (.Name x p) (e :: es) [] pos) (zCallH sp t) := pe_imp (Vq.pe_gc hG c hr hk hg ha hdb he hpl) fun σ H Q => by
  rintro ⟨P, Hc, δ, q, R, ht, post⟩
  refine ⟨P, Hc, δ, _, R, ht, fun Hc' H' vs ws l f R' rv hq => ?_⟩
  obtain ⟨rc, hq⟩ := cOkH_inv R' rv hq
  obtain ⟨l1, l2, l3⟩ := R'.all
  rw [List.append_nil]
  have bk : BagOk P.g P.r (allH P Hc' H') H' := fun a ha => by
    obtain ⟨hb, o, ho⟩ := R'.bag a ha
    exact ⟨hb, o, l1 _ _ ho⟩
  refine ⟨P.g, P.r, allH P Hc' H', ws.map chillW, _, l2, bk, rc, hq, fun B' H2 v w e2 fr c2 f2 bk2 rv2 hq2 => ?_⟩
  -- the def's own cold part is as it was
  have R2 : RW X.K P Hc' H2 σ δ := by
    refine ⟨R'.base, R'.fresh, R'.cold.trans f2, R'.old.trans f2, fun a ha => ?_, R'.len, fun i s e => (R'.sl i s e).grow (Le.refl _) f2 fun _ _ _ z => z, R'.apart, fun q hq => ⟨(R'.gst q hq).1.grow (Le.refl _) f2 (fun _ _ _ z => z), (R'.gst q hq).2⟩⟩
    obtain ⟨_, o, ho⟩ := R'.bag a ha
    exact ⟨(bk2 a ha).1, o, ho⟩
  unfold atomW at hq2
  split at hq2
  · have z : RV X.K B' v .none := rv2
    cases z
    exact post Hc' H2 _ (.d .none) l (f.trans f2) R2 RV.non hq2
  · have z : RV X.K B' v (.bool _) := rv2
    cases z
    exact post Hc' H2 _ (.d (.bool _)) l (f.trans f2) R2 (RV.bl _) hq2
  · have z : RV X.K B' v (.int _) := rv2
    cases z
    exact post Hc' H2 _ (.d (.int _)) l (f.trans f2) R2 (RV.int _) hq2
  · have z : RV X.K B' v (.str _) := rv2
    cases z
    exact post Hc' H2 _ (.d (.str _)) l (f.trans f2) R2 (RV.str _) hq2
  · exact hq2.elim
end
/-! ### a def -/
def startZ (n : Nat) (ws : List W) : List Sl := ws.map Sl.w ++ List.replicate (n - ws.length) .un
section
variable {P : Program} {w : World} {K : PySem.W.Frag} {mg : Str → Option Value} {base : Heap}
theorem rw_start {g : Option Addr} {rr : Addr} {B H : Hp} {N : List Str} {vs : List V} {ws : List W} (h1 : Le B (nb g H)) (h2 : BagOk g rr B H) (h3 : RVcs K g B vs ws) : RW K ⟨H, B, g, rr, []⟩ B H (L2.start N vs) (startZ N.length ws) := by
  have hl := h3.len
  refine ⟨Le.refl _, fun b o e => .inl e, h1, Le.refl _, h2, ?_, fun i s e => ?_, fun i j a hi => ?_, fun q hq => nomatch hq⟩
  · unfold startZ L2.start
    rw [List.length_append, List.length_append, List.length_map, List.length_map, List.length_replicate, List.length_replicate, hl]
  · unfold startZ at e
    unfold L2.start
    have key : ∀ {vs : List V} {ws : List W} {i : Nat} {m n : Nat}, RVcs K g B vs ws → (ws.map Sl.w ++ List.replicate m Sl.un)[i]? = some s → RSl K ⟨H, B, g, rr, []⟩ B H ((vs.map some ++ List.replicate n none)[i]?) s := by
      intro vs ws i m n h
      induction h generalizing i with
      | nil =>
        intro e
        have e : (List.replicate m Sl.un)[i]? = some s := e
        have e2 := List.eq_of_mem_replicate (List.mem_of_getElem? e)
        subst e2
        trivial
      | cons r t ih =>
        intro e
        cases i with
        | zero =>
          cases e
          rename_i w _ _
          cases w with
          | d x => exact ⟨_, rfl, r⟩
          | bag =>
            obtain ⟨a, h1, rfl⟩ := r
            exact ⟨a, h1, rfl⟩
          | op u =>
            have r : _ = u := r
            subst r
            rfl
          | _ => exact r.elim
        | succ i => exact ih (i := i) (by simpa using e)
    exact key h3 e
  · obtain ⟨s, e, hs⟩ := hi
    unfold startZ at e
    have hm := List.mem_of_getElem? e
    rcases List.mem_append.mp hm with z | z
    · obtain ⟨w, _, rfl⟩ := List.mem_map.mp z
      cases hs
    · rw [List.eq_of_mem_replicate z] at hs
      cases hs
def coldR : W → W
  | .hot xs => .d (.list xs)
  | .new xs => .d (.list xs)
  | .hotd xs => .d (.dict (xs.map fun p => (keyD p.1, p.2)))
  | .newd xs => .d (.dict (xs.map fun p => (keyD p.1, p.2)))
  | .brw x => .d x
  | w => w
theorem coldR_ok {Pz : Pm} {Hc H : Hp} {σ : L2.St} {δ : List Sl} {v : V} {w : W} (R : RW K Pz Hc H σ δ) (h : RVw K Pz Hc H σ δ v w) : ∃ B', Le Hc B' ∧ (∀ b o, B' b = some o → Hc b = some o ∨ Pz.F b = none) ∧ Le B' (nb Pz.g H) ∧ RVc K Pz.g B' v (coldR w) := by
  have up : ∀ {a : Addr} {o : HO}, H a = some o → Pz.F a = none → Pz.g ≠ some a → Le Hc (upd Hc a o) ∧ (∀ b u, upd Hc a o b = some u → Hc b = some u ∨ Pz.F b = none) ∧ Le (upd Hc a o) (nb Pz.g H) := fun {a o} h1 h2 h3 => by
    refine ⟨fun b u e => ?_, fun b u e => ?_, fun b u e => ?_⟩
    · by_cases hb : b = a
      · subst hb
        have z := (nb_some (R.cold _ _ e)).2
        rw [h1] at z
        cases z
        exact upd_same
      · rw [upd_ne hb]
        exact e
    · by_cases hb : b = a
      · subst hb
        exact .inr h2
      · rw [upd_ne hb] at e
        exact .inl e
    · by_cases hb : b = a
      · subst hb
        rw [upd_same] at e
        cases e
        exact nb_of h3 h1
      · rw [upd_ne hb] at e
        exact R.cold _ _ e
  have self : ∀ {x : W}, RVc K Pz.g Hc v x → ∃ B', Le Hc B' ∧ (∀ b o, B' b = some o → Hc b = some o ∨ Pz.F b = none) ∧ Le B' (nb Pz.g H) ∧ RVc K Pz.g B' v x := fun {x} h => ⟨Hc, Le.refl _, fun b o e => .inl e, R.cold, h⟩
  have lst : ∀ {a : Addr} {xs : List D}, v = .ref a → HotL K Pz Hc H a xs → ∃ B', Le Hc B' ∧ (∀ b o, B' b = some o → Hc b = some o ∨ Pz.F b = none) ∧ Le B' (nb Pz.g H) ∧ RVc K Pz.g B' v (.d (.list xs)) := fun {a xs} e ⟨vs, h1, h2, h3, h4, h5⟩ => by
    obtain ⟨u1, u2, u3⟩ := up h1 h2 h3
    subst e
    exact ⟨_, u1, u2, u3, RV.lst upd_same h5 (h4.mono u1)⟩
  have dct : ∀ {a : Addr} {xs : List (Key × D)}, v = .ref a → HotD K Pz Hc H a xs → ∃ B', Le Hc B' ∧ (∀ b o, B' b = some o → Hc b = some o ∨ Pz.F b = none) ∧ Le B' (nb Pz.g H) ∧ RVc K Pz.g B' v (.d (.dict (xs.map fun p => (keyD p.1, p.2)))) := fun {a xs} e ⟨vs, h1, h2, h3, h4⟩ => by
    obtain ⟨u1, u2, u3⟩ := up h1 h2 h3
    subst e
    exact ⟨_, u1, u2, u3, RV.dct (.inl upd_same) (RKs.d (h4.mono u1))⟩
  cases w with
  | d x => exact self h
  | bag => exact self (x := .bag) h
  | op x => exact self (x := .op x) h
  | hot xs => obtain ⟨a, e, h⟩ := h; exact lst e h
  | hotd xs => obtain ⟨a, e, h⟩ := h; exact dct e h
  | new xs => obtain ⟨a, e, _, h, _⟩ := h; exact lst e h
  | newd xs => obtain ⟨a, e, _, h, _⟩ := h; exact dct e h
  | brw x =>
    refine ⟨allH Pz Hc H, R.all.1, fun b o e => ?_, R.all.2.1, h⟩
    unfold allH at e
    split at e
    · rename_i c
      rcases c with c | c
      · obtain ⟨u, hu⟩ := Option.isSome_iff_exists.mp c
        have z1 := (nb_some (R.cold _ _ hu)).2
        have z2 := (nb_some e).2
        rw [z1] at z2
        cases z2
        exact .inl hu
      · exact .inr c
    · cases e
/-- what leaves the def: a new list is told as such where nw says so -/
def retR (nw : Bool) (w : W) : W := match nw, w with
  | true, .new xs => .new xs
  | true, .newd xs => .newd xs
  | _, w => coldR w
theorem zcal (nw : Bool) {x : Str} {st : Stmt} {N ps : List Str} {k : Nat} {sp : Spz} (Dd : Vq.D1 K mg x st ps) (S : FnScope N ps (defScope st)) (len : ∀ ws q, sp ws q → ws.length = ps.length)
    (hbody : ∀ (f : Addr) (cdv : Value) (A : Around) (outer : List Env) (s : Shared) (H : Hp) (E : XK), A.guards = some [] → Room k (A.deeper (envOfC x (defScope st) s.heap.objs.size f cdv)) →
      ∃ t, ZB (cxOf L2.CX0 P w K mg base N x (defScope st) f cdv A outer s H E).nox (defBody st) t ∧ ∀ ws q, sp ws q → t { nx := fun _ => q (.d .none), rt := fun w => q (retR nw w) } (startZ N.length ws)) : ZCal P w K mg base (k + 1) x sp := by
  refine Vq.gcal_of Dd S (fun vs H Q E h => ?_) fun f cdv A outer s H vs Q E hG hr h => ?_
  · obtain ⟨g, r, B, ws, q, _, _, h3, h4, _⟩ := h
    rw [h3.len]
    exact len ws q h4
  · obtain ⟨g, r, B, ws, q, h1, h2, h3, h4, post⟩ := h
    obtain ⟨t, ht, hq⟩ := hbody f cdv A outer s H E hG hr
    refine ⟨_, ht, ⟨H, B, g, r, []⟩, B, startZ N.length ws, _, rw_start h1 h2 h3, hq ws q h4, ⟨fun Hc' H' σ' δ' l R hn => ?_, fun Hc' H' σ' δ' v w l R rv hn => ?_, fun _ _ _ _ _ _ z => z.elim, fun _ _ _ _ _ _ z => z.elim⟩⟩
    · exact post Hc' H' .non (.d .none) R.base R.fresh R.cold R.old R.bag RV.non hn
    · have dflt : retR nw w = coldR w → Q v H' := fun er => by
       obtain ⟨B', b1, b2, b3, b4⟩ := coldR_ok R rv
       have hn : q (retR nw w) := hn
       rw [er] at hn
       have b4 : RVr K g B' H H' v (coldR w) := by
         cases w <;> exact b4
       refine post B' H' v _ (R.base.trans b1) (fun b o e => ?_) b3 R.old (fun a ha => ?_) b4 hn
       · rcases b2 b o e with z | z
         · exact R.fresh b o z
         · exact .inr z
       · obtain ⟨hb, o, ho⟩ := R.bag a ha
         exact ⟨hb, o, b1 _ _ ho⟩
      cases nw with
      | false => exact dflt (by cases w <;> rfl)
      | true =>
        cases w with
        | new xs =>
          obtain ⟨a, rfl, h1, ⟨us, h3, h4, h5, h6, h7⟩, h8⟩ := rv
          exact post Hc' H' _ (.new xs) R.base R.fresh R.cold R.old R.bag ⟨a, us, rfl, h1, h4, h3, h6, h7⟩ hn
        | d x => exact dflt rfl
        | bag => exact dflt rfl
        | op x => exact dflt rfl
        | hot x => exact dflt rfl
        | hotd x => exact dflt rfl
        | newd xs =>
          obtain ⟨a, rfl, h1, ⟨us, h3, h4, h5, h6⟩, h8⟩ := rv
          exact post Hc' H' _ (.newd xs) R.base R.fresh R.cold R.old R.bag ⟨a, us, rfl, h1, h4, h3, h6⟩ hn
        | brw x => exact dflt rfl
end
end Zl
end
section
set_option maxHeartbeats 1000000
namespace Zl
open PySem PySem.Spec PyProof.Rows L2
section
variable {X : Cx} {a b e tg : Expr} {es : List Expr} {ta tb te : TP} {t : TPa} {pos : Pos}
/-! ### subscripts, walks of any sequence -/
theorem z_ix (ha : ZE X a ta) (hb : ZE X b tb) (hs : PlainIx b := by exact fun _ _ => rfl) : ZE X (.Subscript a b pos) (bZ ta tb (rIxW seqW)) := pe_imp (pe_ix ix_seq ha hb hs) fun σ H Q z => by
  refine lft_bin (fun P Hc H σ δ v u w x q Q R rv ru hr post => ?_) z
  obtain ⟨xs, i, d, e1, rfl, e2, hq⟩ := rIxW_inv hr
  obtain ⟨p, vs, rfl, h1, h2, _⟩ := rv.seq R e1
  obtain ⟨x, e3, r⟩ := RV.atI h2 e2
  rcases h1 with h1 | h1
  · exact .inl ⟨p, vs, i, x, rfl, ru.int, h1, e3, post.at R (w := .d d) r hq⟩
  · exact .inr (.inl ⟨p, vs, i, x, rfl, ru.int, h1, e3, post.at R (w := .d d) r hq⟩)
def iSeq (t : TP) : TIz := fun δ q => t δ fun w => match w with
  | .d (.list ds) => q ds
  | .d (.tuple ds) => q ds
  | _ => False
theorem zi_seq (h : ZE X e te) : ZI X tg e (iSeq te) := by
  refine ⟨fun pins s σ H R I z => ?_⟩
  obtain ⟨P, Hc, δ, q, Rw, ht, post⟩ := z
  refine thn (h.run pins s σ H (fun x H1 => (∃ a, x = .ref a ∧ (∃ xs, SqL X.K H1 a xs) ∧ R (Itl X.K a) H1) ∨ ∃ a, x = .ref a ∧ (∃ xs, SqT X.K H1 a xs) ∧ R (Itt X.K a) H1) I ⟨P, Hc, δ, _, Rw, ht, fun Hc' H' v w l f R' rv hq => ?_⟩) fun v s1 ⟨x, H1, I1, r1, q1⟩ => ?_
  · split at hq
    · rename_i ds
      have z : RV X.K Hc' v (.list ds) := rv
      cases z with
      | lst h1 hz h2 => exact .inl ⟨_, rfl, ⟨_, SqL.of (R'.coldH _ _ h1)⟩, post Hc' H' ds _ l f R' (Wk.list h1 hz h2) hq⟩
    · rename_i ds
      have z : RV X.K Hc' v (.tuple ds) := rv
      cases z with
      | tup h1 hz h2 => exact .inr ⟨_, rfl, ⟨_, SqT.of (R'.coldH _ _ h1)⟩, post Hc' H' ds _ l f R' (Wk.tup h1 hz h2) hq⟩
    · exact hq.elim
  · rcases q1 with ⟨a, e, ⟨xs, hq⟩, q⟩ | ⟨a, e, ⟨xs, hq⟩, q⟩
    · subst e
      cases r1
      obtain ⟨its, rv, p, hz⟩ := I1.list hq
      refine wpAny_pyIter_list p.isList ?_
      refine ⟨s1.heap.objs.size, [s1.heap.objs.size], _, _, H1, rfl, I1.kept (t' := s1.toks) fun b o e => Heap.get?_push_of_some _ e, turn_list a _, ⟨_, Heap.get?_push_size _ rfl, rfl, rfl⟩, fun b hb => ?_, q⟩
      have e : b = s1.heap.objs.size := by simpa using hb
      subst e
      exact I1.fpOk (Nat.le_refl _) (I1.hok.fresh (Nat.le_refl _))
    · subst e
      cases r1
      obtain ⟨its, rv, p, hz⟩ := I1.tuple hq
      refine wpAny_pyIter_tuple (show s1.heap.IsTuple a its.toArray from p) ?_
      refine ⟨s1.heap.objs.size, [s1.heap.objs.size], _, _, H1, rfl, I1.kept (t' := s1.toks) fun b o e => Heap.get?_push_of_some _ e, turn_tuple a _, ⟨_, Heap.get?_push_size _ rfl, rfl, rfl⟩, fun b hb => ?_, q⟩
      have e : b = s1.heap.objs.size := by simpa using hb
      subst e
      exact I1.fpOk (Nat.le_refl _) (I1.hok.fresh (Nat.le_refl _))
/-! ### + and * of lists, tuples -/
def rCatL : W → W → (W → Prop) → Prop := fun x y q => match lstW x, lstW y with
  | some xs, some ys => xs.length + ys.length ≤ sizeLine ∧ q (.new (xs ++ ys))
  | _, _ => False
theorem z_cat (ha : ZE X a ta) (hb : ZE X b tb) : ZE X (.BinOp a .Add b pos) (bZ ta tb rCatL) := z_op op_cat (fun P Hc H σ δ v u w x q Q R rv ru hr post => by
  unfold rCatL at hr
  split at hr
  · rename_i xs ys e1 e2
    obtain ⟨p, vs, rfl, h1, h2, _⟩ := rv.lst R e1
    obtain ⟨p', vs', rfl, h3, h4, _⟩ := ru.lst R e2
    exact ⟨p, p', vs, vs', rfl, rfl, h1, h3, by rw [h2.len, h4.len]; exact hr.1, fun l hl => post.newL R hl (h2.append h4) (by rw [List.length_append]; exact hr.1) hr.2⟩
  · exact hr.elim) ha hb
def rCatTz : W → W → (W → Prop) → Prop := fun x y q => match tupW x, tupW y with
  | some xs, some ys => xs.length + ys.length ≤ sizeLine ∧ q (.d (.tuple (xs ++ ys)))
  | _, _ => False
theorem tupW_inv {w : W} {xs : List D} (h : tupW w = some xs) : w = .d (.tuple xs) := by
  unfold tupW at h
  split at h
  · cases h; rfl
  · cases h
theorem z_catT (ha : ZE X a ta) (hb : ZE X b tb) : ZE X (.BinOp a .Add b pos) (bZ ta tb rCatTz) := z_op op_catA (fun P Hc H σ δ v u w x q Q R rv ru hr post => by
  unfold rCatTz at hr
  split at hr
  · rename_i xs ys e1 e2
    have e1 := tupW_inv e1
    have e2 := tupW_inv e2
    subst e1 e2
    obtain ⟨p, vs, rfl, h1, h0, h2, hz⟩ := RVw.tup R rv
    obtain ⟨p', vs', rfl, h3, h00, h4, hz'⟩ := RVw.tup R ru
    refine ⟨p, p', vs, vs', rfl, rfl, SqT.of h1, SqT.of h3, by rw [h2.len, h4.len]; exact hr.1, fun hn => ?_, fun _ hn => ?_, fun _ _ l hl => post.newT R hl (h2.append h4) (by rw [List.length_append]; exact hr.1) hr.2⟩
    · subst hn
      cases h2
      exact post.at R (w := .d (.tuple ys)) (RV.tup h00 hz' h4) hr.2
    · subst hn
      cases h4
      have hr2 := hr.2
      rw [List.append_nil] at hr2
      exact post.at R (w := .d (.tuple xs)) (RV.tup h0 hz h2) hr2
  · exact hr.elim) ha hb
def rRepL : W → W → (W → Prop) → Prop := fun x y q => match lstW x, y with
  | some xs, .d (.int k) => (-(2 ^ 63) ≤ k ∧ k < 2 ^ 63 ∧ xs.length * k.toNat ≤ sizeLine) ∧ q (.new (List.replicate k.toNat xs).flatten)
  | _, _ => False
theorem RVs.flat {K : PySem.W.Frag} {H : Hp} {vs : List V} {xs : List D} (h : RVs K H vs xs) : ∀ n : Nat, RVs K H (List.replicate n vs).flatten (List.replicate n xs).flatten
  | 0 => .nil
  | n + 1 => by
    rw [List.replicate_succ, List.replicate_succ, List.flatten_cons, List.flatten_cons]
    exact h.append (RVs.flat h n)
theorem z_rep (ha : ZE X a ta) (hb : ZE X b tb) : ZE X (.BinOp a .Mult b pos) (bZ ta tb rRepL) := z_op op_rep (fun P Hc H σ δ v u w x q Q R rv ru hr post => by
  unfold rRepL at hr
  split at hr
  · rename_i xs k e1
    obtain ⟨p, vs, rfl, h1, h2, _⟩ := rv.lst R e1
    refine ⟨p, k, vs, rfl, ru.int, h1, hr.1.1, hr.1.2.1, by rw [h2.len]; exact hr.1.2.2, fun l hl => post.newL R hl (h2.flat _) ?_ hr.2⟩
    rw [PyProof.Rows.lm_len_rep_flat, Nat.mul_comm]
    exact hr.1.2.2
  · exact hr.elim) ha hb
/-! ### sums, greatest, least, all -/
theorem b_sum (hc : X.calm = true) : bi "sum" (r1 rSumW) X := ⟨_, cr_sum hc, ar1_of fun P Hc H σ δ v w q Q R rv hr post => by
  unfold rSumW at hr
  split at hr
  · rename_i ns e
    obtain ⟨a, rfl, h⟩ := rv.ints R e
    exact ⟨a, ns, rfl, h, post.at R (w := .d (.int _)) (RV.int _) hr⟩
  · exact hr.elim⟩
theorem b_max (hc : X.calm = true) : bi "max" (r1 rMaxW) X := ⟨_, cr_max hc, ar1_of fun P Hc H σ δ v w q Q R rv hr post => by
  unfold rMaxW at hr
  split at hr
  · rename_i ns e
    obtain ⟨a, rfl, h⟩ := rv.ints R e
    exact ⟨a, ns, rfl, h, hr.1, fun m h1 h2 => post.at R (w := .d (.int _)) (RV.int _) (hr.2 m h1 h2)⟩
  · exact hr.elim⟩
theorem b_min (hc : X.calm = true) : bi "min" (r1 rMinW) X := ⟨_, cr_min hc, ar1_of fun P Hc H σ δ v w q Q R rv hr post => by
  unfold rMinW at hr
  split at hr
  · rename_i ns e
    obtain ⟨a, rfl, h⟩ := rv.ints R e
    exact ⟨a, ns, rfl, h, hr.1, fun m h1 h2 => post.at R (w := .d (.int _)) (RV.int _) (hr.2 m h1 h2)⟩
  · exact hr.elim⟩
theorem b_all (hc : X.calm = true) : bi "all" (r1 rAllW) X := ⟨_, cr_all hc, ar1_of fun P Hc H σ δ v w q Q R rv hr post => by
  unfold rAllW at hr
  split at hr
  · rename_i xs e
    split at hr
    · rename_i bs eb
      obtain ⟨a, vs, rfl, h1, h2, _⟩ := rv.lst R e
      exact ⟨a, bs, rfl, SqL.of (by rw [← h2.bs eb]; exact h1), post.at R (w := .d (.bool _)) (RV.bl _) hr⟩
    · exact hr.elim
  · exact hr.elim⟩
/-! ### sorted -/
def rSortW : W → (W → Prop) → Prop := fun w q => match intsW w with
  | some ns => ∀ ns' : List Int, ns'.Perm ns → ns'.Pairwise (· ≤ ·) → q (.new (ns'.map PyData.int))
  | none => False
theorem intsD_len : ∀ {xs : List D} {ns : List Int}, intsD xs = some ns → xs.length = ns.length
  | [], _, e => by cases e; rfl
  | d :: xs, ns, e => by
    cases d with
    | int i =>
      unfold intsD at e
      cases q : intsD xs with
      | none => rw [q] at e; cases e
      | some r =>
        rw [q] at e
        cases e
        exact congrArg (· + 1) (intsD_len q)
    | _ => cases e
theorem b_sort : bi "sorted" (r1 rSortW) X := ⟨_, cr_sortedI, ar1_of fun P Hc H σ δ v w q Q R rv hr post => by
  unfold rSortW at hr
  split at hr
  · rename_i ns e
    obtain ⟨a, rfl, h⟩ := rv.ints R e
    have hz : ns.length ≤ sizeLine := by
      unfold intsW at e
      split at e
      · rename_i xs e2
        obtain ⟨_, _, _, _, _, hz⟩ := rv.lst R e2
        rw [← intsD_len e]
        exact hz
      · cases e
    exact ⟨a, ns, rfl, h, fun ns' p h1 h2 hp => post.newL R hp (RVs.ofInts ns') (by rw [List.length_map, h1.length_eq]; exact hz) (hr ns' h1 h2)⟩
  · exact hr.elim⟩
/-- pairs of ints -/
def pr1 : D → Bool
  | .tuple [.int _, .int _] => true
  | _ => false
theorem pr1_inv {d : D} (h : pr1 d = true) : ∃ i j, d = .tuple [.int i, .int j] := by
  unfold pr1 at h
  split at h
  · exact ⟨_, _, rfl⟩
  · cases h
def rSortPW : W → (W → Prop) → Prop := fun w q => match lstW w with
  | some xs => (∀ d ∈ xs, pr1 d = true) ∧ ∀ es : List D, es.Perm xs → q (.new es)
  | none => False
theorem RVs.perm {K : PySem.W.Frag} {H : Hp} {vs ys : List V} (p : ys.Perm vs) : ∀ {ds : List D}, RVs K H vs ds → ∃ es, es.Perm ds ∧ RVs K H ys es := by
  induction p with
  | nil => exact fun {ds} h => ⟨ds, .refl _, h⟩
  | cons x p ih =>
    intro ds h
    cases h with
    | cons h t =>
      obtain ⟨es, e1, e2⟩ := ih t
      exact ⟨_ :: es, e1.cons _, .cons h e2⟩
  | swap x y l =>
    intro ds h
    cases h with
    | cons h t =>
      cases t with
      | cons h2 t => exact ⟨_, .swap _ _ _, .cons h2 (.cons h t)⟩
  | trans _ _ ih1 ih2 =>
    intro ds h
    obtain ⟨es, e1, e2⟩ := ih2 h
    obtain ⟨fs, f1, f2⟩ := ih1 e2
    exact ⟨fs, f1.trans e1, f2⟩
theorem RVs.mem {K : PySem.W.Frag} {H : Hp} : ∀ {vs : List V} {ds : List D} {x : V}, RVs K H vs ds → x ∈ vs → ∃ d, d ∈ ds ∧ RV K H x d
  | _, _, _, .nil, h => nomatch h
  | _, _, x, .cons r t, h => by
    rcases List.mem_cons.mp h with rfl | h
    · exact ⟨_, List.mem_cons_self, r⟩
    · obtain ⟨d, h1, h2⟩ := t.mem h
      exact ⟨d, List.mem_cons_of_mem _ h1, h2⟩
theorem b_sortP : bi "sorted" (r1 rSortPW) X := ⟨_, cr_sortedP, ar1_of fun P Hc H σ δ v w q Q R rv hr post => by
  unfold rSortPW at hr
  split at hr
  · rename_i xs e
    obtain ⟨a, vs, rfl, h1, h2, hz⟩ := rv.lst R e
    refine ⟨a, vs, rfl, SqL.of h1, fun x hx => ?_, fun ys p hp hn => ?_⟩
    · obtain ⟨d, hd, r⟩ := h2.mem hx
      obtain ⟨i, j, rfl⟩ := pr1_inv (hr.1 d hd)
      cases r with
      | tup k1 _ k2 =>
        cases k2 with
        | cons a1 a2 =>
          cases a2 with
          | cons b1 b2 =>
            cases b2
            cases a1
            cases b1
            exact ⟨_, i, j, rfl, R.coldH _ _ k1⟩
    · obtain ⟨es, e1, e2⟩ := RVs.perm hp h2
      exact post.newL R hn e2 (by rw [e1.length_eq]; exact hz) (hr.2 es e1)
  · exact hr.elim⟩
/-! ### the least of orders, None of none -/
def ordD : Option Int → D
  | none => .none
  | some i => .int i
theorem RV.ord {K : PySem.W.Frag} {H : Hp} (o : Option Int) : RV K H (Vq.ordV o) (ordD o) := by
  cases o with
  | none => exact .non
  | some i => exact .int i
def zMinD (t : TPa) : TP := fun δ q => t δ fun ws => match ws with
  | [w] => (match intsW w with
    | some ns => q (.d (ordD (Vq.minO ns)))
    | none => False)
  | _ => False
theorem z_minD {p : Pos} {kp : Pos} {kj} (hc : X.calm = true) (hm : X.mg "min" = none) (ha : ZA X (e :: es) t)
    (hP : ∀ {t : TA}, PA X (e :: es) t → PE X (.Call (.Name "min" p) (e :: es) [⟨some "default", .Constant .none kj kp, kw⟩] pos) (tCKw (Vq.rMinD X.K) t (tCons (tC .non) tNil))) :
    ZE X (.Call (.Name "min" p) (e :: es) [⟨some "default", .Constant .none kj kp, kw⟩] pos) (zMinD t) := pe_imp (hP ha) fun σ H Q => by
  rintro ⟨P, Hc, δ, q, R, ht, post⟩
  refine ⟨P, Hc, δ, _, R, ht, fun Hc' H' vs ws l f R' rv hq => ?_⟩
  split at hq
  · obtain ⟨v, rfl, r⟩ := rv.one
    split at hq
    · rename_i ns e
      obtain ⟨a, rfl, h⟩ := r.ints R' e
      exact ⟨a, ns, rfl, rfl, h, post Hc' H' _ (.d (ordD (Vq.minO ns))) l f R' (RV.ord _) hq⟩
    · exact hq.elim
  · exact hq.elim
/-! ### repr of data -/
def rShowW : W → (W → Prop) → Prop := fun w q => match datW w with
  | some d => noD d = true ∧ (∃ k n, Vq.Gd k n d ∧ k ≤ 60 ∧ n ≤ 20000) ∧ (match d with
    | .tuple _ => True
    | .list _ => True
    | .int _ => True
    | .bool _ => True
    | .none => True
    | _ => False) ∧ q (.d (.str d.shown))
  | none => False
def rShowS : List V → Hp → VK → Prop := fun xs H Q => (∃ b, xs = [.bl b] ∧ Q (.str (PyData.shown (.bool b))) H) ∨ (xs = [.non] ∧ Q (.str (PyData.shown .none)) H)
theorem cr_showS : CallR X (.builtin "repr") rShowS := by
  intro pins s σ H xs us Q I r h
  rcases h with ⟨b, rfl, q⟩ | ⟨rfl, q⟩
  · obtain ⟨u, rfl, ru⟩ := vals1 r
    cases ru
    exact PySem.P.repr_of_bool ⟨.str (PyData.shown (.bool b)), H, I.tok _, ⟨_, rfl⟩, q⟩
  · obtain ⟨u, rfl, ru⟩ := vals1 r
    cases ru
    exact PySem.P.repr_of_none ⟨.str (PyData.shown .none), H, I.tok _, ⟨_, rfl⟩, q⟩
theorem b_repr (hg : X.A.guards = some []) (hu : X.A.units + 64 < cLine) : bi "repr" (r1 rShowW) X := ⟨_, CallR.or (CallR.or (Vq.cr_show hg hu) SkE.call_repr_int) cr_showS, ar1_of fun P Hc H σ δ v w q Q R rv hr post => by
  unfold rShowW at hr
  split at hr
  · rename_i d e
    obtain ⟨h1, ⟨k, n, g, hk, hn⟩, h3, hq⟩ := hr
    have r := rv.dat R e
    have z := post.at R (w := .d (.str d.shown)) (RV.str _) hq
    cases r with
    | int i =>
      cases g with
      | int _ _ hi => exact .inl (.inr ⟨i, rfl, Vq.int_log hi, z⟩)
    | lst a b c => exact .inl (.inl ⟨_, _, k, n, rfl, (RV.lst a b c).dp h1, g, hk, hn, ⟨_, rfl⟩, z⟩)
    | tup a b c => exact .inl (.inl ⟨_, _, k, n, rfl, (RV.tup a b c).dp h1, g, hk, hn, ⟨_, rfl⟩, z⟩)
    | bl b => exact .inr (.inl ⟨b, rfl, z⟩)
    | non => exact .inr (.inr ⟨rfl, z⟩)
    | _ => exact h3.elim
  · exact hr.elim⟩
/-! ### list(range(n)) -/
theorem rgV_len (i j : Int) : (rgV i j).length = (j - i).toNat := by
  unfold rgV
  rw [List.length_map, List.length_range]
theorem RVs.rg {K : PySem.W.Frag} {H : Hp} (i : Int) (n : Nat) : RVs K H ((List.range n).map fun (k : Nat) => V.int (i + k)) (rngD i n) := by
  unfold rngD
  have key : ∀ l : List Nat, RVs K H (l.map fun (k : Nat) => V.int (i + k)) (l.map fun (k : Nat) => PyData.int (i + k)) := fun l => by
    induction l with
    | nil => exact .nil
    | cons x l ih => exact .cons (.int _) ih
  exact key _
def zLstRg (ta : TP) : TP := fun δ q => ta δ fun w => match w with
  | .d (.int n) => (-(2 ^ 62) ≤ n ∧ n < 2 ^ 15) ∧ q (.new (rngD 0 n.toNat))
  | _ => False
theorem z_listRg {p p2 pos2 : Pos} (hc : X.calm = true) (hg : Gl X "list") (hm : X.mg "list" = none) (hg2 : Gl X "range") (hm2 : X.mg "range" = none) (ha : ZE X a ta)
    (na : starEach [.Call (.Name "range" p2) [a] [] pos2] X.env = (false, eval (.Call (.Name "range" p2) [a] [] pos2) X.env) :: starEach [] X.env := by rfl) (na2 : starEach [a] X.env = (false, eval a X.env) :: starEach [] X.env := by rfl) :
    ZE X (.Call (.Name "list" p) [.Call (.Name "range" p2) [a] [] pos2] [] pos) (zLstRg ta) := pe_imp (pe_listRg hc hg hm (prg_1 hg2 hm2 ha na2) na) fun σ H Q => by
  rintro ⟨P, Hc, δ, q, R, ht, post⟩
  refine ⟨P, Hc, δ, _, R, ht, fun Hc' H' v w l f R' rv hq => ?_⟩
  split at hq
  · rename_i n
    refine ⟨n, rv.int, ⟨by omega, by omega, by omega, by omega, by omega⟩, fun p hp => ?_⟩
    have r : RVs X.K Hc' (rgV 0 n) (rngD 0 n.toNat) := by
      have z := RVs.rg (K := X.K) (H := Hc') 0 (n - 0).toNat
      rw [Int.sub_zero] at z
      unfold rgV
      rw [Int.sub_zero]
      exact z
    have hl : (rngD 0 n.toNat).length ≤ sizeLine := by
      unfold rngD
      rw [List.length_map, List.length_range, sizeLine_eq]
      omega
    exact post Hc' _ _ (.new (rngD 0 n.toNat)) l (f.trans (nb_new hp)) (R'.newO hp) (R'.hotNew hp r hl) hq.2
  · exact hq.elim
end
end Zl
end
section
set_option maxHeartbeats 1000000
namespace Zl
open PySem PySem.Spec PyProof.Rows L2
/-! ### enumerate(tuple) -/
theorem tup_at {h h' : Heap} {a : Addr} {items : Array Value} (x : h.IsTuple a items) (k : ∀ o, h.get? a = some o → h'.get? a = some o) : h'.IsTuple a items := let ⟨o, ho, r⟩ := x; ⟨o, k o ho, r⟩
theorem tit_at {h h' : Heap} {a t : Addr} {i : Nat} (x : h.IsTupleIter a t i) (k : ∀ o, h.get? a = some o → h'.get? a = some o) : h'.IsTupleIter a t i := let ⟨o, ho, r⟩ := x; ⟨o, k o ho, r⟩
theorem draws_tuple {prog : Program} {w : World} {A : Around} (hh : A.handled = none) (it l : Addr) (hne : l ≠ it) (items : Array Value) :
    Draws prog w A it [it, l] items.size (fun i v => items[i]? = some v) (fun i h => h.IsTupleIter it l i ∧ h.IsTuple l items) where
  live := fun _ _ st => let ⟨o, ho, _⟩ := st.1; ⟨o, ho⟩
  frame := fun _ _ _ st hk => ⟨tit_at st.1 fun o e => hk it (by simp) o e, tup_at st.2 fun o e => hk l (by simp) o e⟩
  item := fun i s Q E hi st hQ => by
    refine RZ.nextOf_tuple_item st.1 st.2 (x := items[i]) (by simp [hi]) fun h' hit' hs' => ?_
    exact hQ _ h' s.toks (by simp [hi]) ⟨hit', st.2.extBut hs'.extBut hne⟩ hs'
  done := fun s Q E st hE => RZ.nextOf_tuple_end hh st.1 st.2 (by simp) hE
theorem meets_enumerate_newT (l : Addr) (items : Array Value) (n : Nat) (dct : Option Addr) (sl : Array (Option Value)) :
    Meets (Builtin.«enumerate.__new__» ⟨[.type "enumerate", .ref l], []⟩) (fun _ R s => s.heap.get? l = some { cls := .type "tuple", dict := dct, data := .seq items n, slots := sl } ∧
      R (.ok (.ret (.ref (s.heap.push { cls := .type "tuple_iterator", data := .fields #[.ref l, .int 0 0] }).objs.size)))
        { s with heap := (s.heap.push { cls := .type "tuple_iterator", data := .fields #[.ref l, .int 0 0] }).push { cls := .type "enumerate", data := .fields #[.none, .bool false, .ref s.heap.objs.size, rawInt 0, .none, .none] } }) :=
  .of_wp fun prog w A R s h => by
    obtain ⟨hp, g, d, tk, os⟩ := s; obtain ⟨hl, h⟩ := h
    have hsub := sub_enumerate
    have hL : Heap.IsTuple (Shared.heap ⟨hp, g, d, tk, os⟩) l items := ⟨_, hl, rfl, n, rfl⟩
    wp_walk using AutoSeq1.wpAny_loadPart' hl
    refine wpAny_stack_any fun st => wpAny_pure ?_
    split
    · rename_i c _ _ _ _ _
      cases (c == Value.type "enumerate")
      · wp_walk using AutoSeq1.wpAny_loadPart' hl, wpAny_pyIter_tuple hL
        exact ⟨_, rfl, h⟩
      · wp_walk using AutoSeq1.wpAny_loadPart' hl, wpAny_pyIter_tuple hL
        exact ⟨_, rfl, h⟩
    · wp_walk using AutoSeq1.wpAny_loadPart' hl, wpAny_pyIter_tuple hL
      exact ⟨_, rfl, h⟩
theorem call_enumerate_tuple {prog : Program} {w : World} {A : Around} {E : Value → Shared → Prop} {s : Shared} {l : Addr} {items : Array Value} {Q : Value → Shared → Prop} (hL : s.heap.IsTuple l items)
    (h : ∀ h', IsEnum h' (s.heap.objs.size + 1) s.heap.objs.size 0 .none → h'.IsTupleIter s.heap.objs.size l 0 → h'.objs.size = s.heap.objs.size + 2 →
      (∀ b o, s.heap.get? b = some o → h'.get? b = some o) → Q (.ref (s.heap.objs.size + 1)) { s with heap := h' }) :
    wpAny (model prog w) A (call (.type "enumerate") [.ref l]) Q E s := by
  obtain ⟨⟨c, dct, dt, sl⟩, hl, hc, n, hd⟩ := hL
  replace hc : c = .type "tuple" := hc
  replace hd : dt = .seq items n := hd
  subst hc hd
  refine callType_new F.called_enumerate (by decide) (F.typeCall_enumerate_1 _) (F.newCall_enumerate_1 _) (fun obj => F.args_object_init_2 obj _) F.entry_enumerate_new
    (meets_enumerate_newT l items n dct sl) ⟨hl, ?_⟩
  have hz : (s.heap.push { cls := .type "tuple_iterator", data := .fields #[.ref l, .int 0 0] }).objs.size = s.heap.objs.size + 1 := Heap.size_push ..
  show _ ∧ _
  rw [hz]
  have he : IsEnum ((s.heap.push { cls := .type "tuple_iterator", data := .fields #[.ref l, .int 0 0] }).push
      { cls := .type "enumerate", data := .fields #[.none, .bool false, .ref s.heap.objs.size, rawInt 0, .none, .none] }) (s.heap.objs.size + 1) s.heap.objs.size 0 .none := by
    have := Heap.get?_push_size (s.heap.push { cls := .type "tuple_iterator", data := .fields #[.ref l, .int 0 0] })
      (o := { cls := .type "enumerate", data := .fields #[.none, .bool false, .ref s.heap.objs.size, rawInt 0, .none, .none] }) rfl
    rw [hz] at this; exact this
  refine ⟨⟨_, he, rfl⟩, h _ he ⟨_, Heap.get?_push_of_some _ (Heap.get?_push_size _ rfl), rfl, rfl⟩ (by rw [Heap.size_push, hz]) fun b o x => Heap.get?_push_of_some _ (Heap.get?_push_of_some _ x)⟩
/-- the tuple at a, each item in a new pair -/
def IteT (K : PySem.W.Frag) (a : Addr) : It :=
  ⟨fun i H => ∃ (xs : List V) (x : V), SqT K H a xs ∧ xs[i]? = some x, fun i H v H' => ∃ T x, v = .ref T ∧ H T = none ∧ H' = upd H T (.tup [.int (i : Nat), x]) ∧ ∀ xs, SqT K H a xs → xs[i]? = some x, fun i H => ∃ xs : List V, SqT K H a xs ∧ xs.length ≤ i⟩
theorem turn_enumT {P : Program} {w : World} {K : PySem.W.Frag} {elts : List Expr} {kk : Nat} {tpos : Pos} (a e it : Addr) :
    Turn P w K (.Tuple elts kk tpos) (IteT K a) [e, it] e (fun i h => (∃ old, IsEnum h e it ((i : Nat) : Int) old) ∧ h.IsTupleIter it a i ∧ e ≠ it ∧ a ≠ it ∧ a ≠ e) where
  mem := by simp
  obj := fun i h st b hb => by
    obtain ⟨⟨old, he⟩, ⟨o, ho, hc, hd⟩, _⟩ := st
    have e' : b = e ∨ b = it := by simpa using hb
    rcases e' with z | z
    · rw [z]; exact ⟨_, he, fun v q => nomatch q⟩
    · rw [z]; exact ⟨o, ho, fun v q => by rw [hd] at q; cases q⟩
  keep := fun i h h' st k => let ⟨⟨old, he⟩, hi, hne⟩ := st; ⟨⟨old, k e (by simp) _ he⟩, tit_at hi fun o q => k it (by simp) o q, hne⟩
  item := by
    intro X hP hw hK hc i pins s σ H E I hf st hg
    subst hP hw hK
    obtain ⟨⟨old, he⟩, hit, hne, hai, hae⟩ := st
    obtain ⟨xs, x, hq, hx⟩ := hg
    obtain ⟨its, rv, p, hz⟩ := I.tuple hq
    obtain ⟨u, hu, ru⟩ := rv.get hx
    have hel : e < s.heap.objs.size := Heap.lt_size he
    have hil : it < s.heap.objs.size := by obtain ⟨_, q, _⟩ := hit; exact Heap.lt_size q
    have pt : s.heap.IsTuple a its.toArray := p
    have hilt : i < its.toArray.size := by
      have := (List.getElem?_eq_some_iff.mp hu).1
      simpa using this
    refine wpAny_pyNext_enum_itemD (draws_tuple (A := X.A.in1) (show X.A.in1.handled = none from I.ok.hd hc) it a hai its.toArray) he ⟨hit, pt⟩ hilt hne (by simp [hne, Ne.symm hae]) fun x2 h' tk hx2 ho hst' hT hsz hk => ?_
    have ex : x2 = u := by
      have hu' : its.toArray[i]? = some u := by simpa using hu
      rw [hu'] at hx2
      cases hx2
      rfl
    subst ex
    refine ⟨_, rfl, wpAny_letOwnedTupleGo_enum (s := { s with heap := h', toks := tk + 1 }) ho fun h'' he' sb => ?_⟩
    have hT2 : h''.get? s.heap.objs.size = some { cls := .type "tuple", data := .seq #[.int i tk, x2] } := (sb.2 _ (Nat.ne_of_gt hel)).trans hT
    have new : ObjOk X.prog X.w (upd H s.heap.objs.size (.tup [.int (i : Nat), x])) h'' s.heap.objs.size (.tup [.int (i : Nat), x]) :=
      ⟨by show 2 ≤ sizeLine; decide, [.int i tk, x2], .cons ⟨_, rfl⟩ (.cons ru .nil), ⟨_, hT2, rfl, _, rfl⟩⟩
    have I1 : Inv X pins σ (upd H s.heap.objs.size (.tup [.int (i : Nat), x])) { s with heap := h'', toks := tk + 1 } :=
      I.turnedNew (ch := [e, it]) (fun b ob hb q => (sb.2 b (fun z => hb (by simp [z]))).trans (hk b ob (fun z => hb (by simp [z])) (fun z => hb (by simp [z])) q)) hf (Nat.le_refl _) new
    refine ⟨.ref s.heap.objs.size, _, I1, rfl, ⟨_, x, rfl, I.hok.fresh (Nat.le_refl _), rfl, fun ys hy => by rw [I.tuple_inj hy hq]; exact hx⟩, ⟨⟨x2, ?_⟩, tit_at hst'.1 fun o q => (sb.2 it (Ne.symm hne)).trans q, hne, hai, hae⟩, fun b hb => ?_⟩
    · have e1 : ((i + 1 : Nat) : Int) = (i : Int) + 1 := by omega
      rw [e1]; exact he'
    · have hb' : b < s.heap.objs.size := by
        have e' : b = e ∨ b = it := by simpa using hb
        rcases e' with z | z
        · rw [z]; exact hel
        · rw [z]; exact hil
      rw [upd_ne (Nat.ne_of_lt hb')]
      exact (hf b hb).1
  done := by
    intro X hP hw hK hc i pins s σ H E I hf st hg
    subst hP hw hK
    obtain ⟨⟨old, he⟩, hit, hne, hai, hae⟩ := st
    obtain ⟨xs, hq, hx⟩ := hg
    obtain ⟨its, rv, p, hz⟩ := I.tuple hq
    obtain ⟨f0, f1, f2, f3, f4, f5⟩ := hf it (by simp)
    have hl := rv.length
    have hT : s.TypeIs (.ref e) "enumerate" := ⟨_, he, rfl⟩
    unfold pyNext
    refine wpAny_bind (wpAny_attempt (wpAny_callSpecial?_slot (name := Str.ofString "__next__") hT F.slot_enumerate_next
      (wpAny_call_entry F.slot_enumerate_next hT F.entry_enumerate_next ?_ (F.args_enumerate_next_1 _))))
    show wpAny _ _ (field (.ref e) 2 >>= _) _ _ _
    refine wpAny_bind (wpAny_field he rfl (x := .ref it) rfl ?_)
    refine wpAny_bind (RZ.nextOf_tuple_end (I.ok.hd hc) hit (show s.heap.IsTuple a its.toArray from p) (by simp; omega) fun h' x he' hx' => ?_)
    obtain ⟨o, ho, hc'⟩ := hx'
    refine wpAny_bind (wpAny_isInstance (T := "StopIteration") (b := true) ⟨o, ho, hc'⟩ isSubtype_stop ?_)
    exact wpAny_pure ⟨rfl, I.turned (t' := s.toks) (fun b o hb q => he' b o hb q) f0 f1 f3 f4 f5⟩
  self := fun A i s Q E st h => let ⟨⟨_, he⟩, _⟩ := st; wpAny_pyIter_enum he h
def iEnumT0 (K : PySem.W.Frag) (ta : TA) : TI := fun σ H R => ta σ H fun vs H1 => ∃ a xs, vs = [.ref a] ∧ SqT K H1 a xs ∧ R (IteT K a) H1
theorem pi_enumT {X : Cx} {e : Expr} {ta : TA} {p pos tpos : Pos} {elts : List Expr} {kk : Nat} (hg : Gl X "enumerate") (hm : X.mg "enumerate" = none) (ha : PA X [e] ta) (hs : starEach [e] X.env = [(false, eval e X.env)] := by rfl) :
    PI X (.Tuple elts kk tpos) (.Call (.Name "enumerate" p) [e] [] pos) (iEnumT0 X.K ta) := by
  refine ⟨fun pins s σ H R I h => ?_⟩
  refine Call_ (ld_blt I hg hm boot_enumerate (PyProof.Rows.callWith_type1 (thn (ha.run pos pins s σ H _ I h) fun us s1 ⟨vs, H1, I1, r1, q1⟩ => ?_) hs rfl))
  obtain ⟨a, xs, ex, hq, q⟩ := q1
  subst ex
  cases r1 with
  | cons r rr =>
    cases rr
    cases r
    obtain ⟨its, rv, p', hz⟩ := I1.tuple hq
    have pt : s1.heap.IsTuple a its.toArray := p'
    have hlt : a < s1.heap.objs.size := p'.lt
    refine call_enumerate_tuple pt fun h' he hit hsz hk => wpAny_pyIter_enum he ?_
    have I2 : Inv X pins σ H1 { s1 with heap := h' } := I1.kept (t' := s1.toks) hk
    refine ⟨s1.heap.objs.size + 1, [s1.heap.objs.size + 1, s1.heap.objs.size], _, _, H1, rfl, I2, turn_enumT a (s1.heap.objs.size + 1) s1.heap.objs.size, ⟨⟨.none, he⟩, hit, Nat.succ_ne_self _, Nat.ne_of_lt hlt, Nat.ne_of_lt (Nat.lt_succ_of_lt hlt)⟩, fun b hb => ?_, q⟩
    have e' : b = s1.heap.objs.size + 1 ∨ b = s1.heap.objs.size := by simpa using hb
    have hle : s1.heap.objs.size ≤ b := by
      rcases e' with z | z
      · rw [z]; exact Nat.le_add_right _ _
      · rw [z]; exact Nat.le_refl _
    exact I1.fpOk hle (I1.hok.fresh hle)
theorem walk_enumT {K : PySem.W.Frag} {a : Addr} {xs : List V} : Walk (IteT K a) xs.length (fun H => SqT K H a xs) (YPair (fun i => some (.int (i : Nat))) (fun i => xs[i]?)) := by
  refine ⟨fun i _ hi q => ⟨xs, xs[i], q, by simp [hi]⟩, fun _ q => ⟨xs, q, Nat.le_refl _⟩, fun i H v H' _ q y => ?_⟩
  obtain ⟨T, x, h1, h2, h3, h4⟩ := y
  exact ⟨T, .int (i : Nat), x, h1, h2, h3, rfl, h4 xs q⟩
def iEnumTz (t : TPa) : TIz := fun δ q => t δ fun ws => match ws with
  | [.d (.tuple ds)] => q (enumD ds)
  | _ => False
theorem zi_enumT {X : Cx} {e : Expr} {ta : TPa} {p pos tpos : Pos} {elts : List Expr} {kk : Nat} (hg : Gl X "enumerate") (hm : X.mg "enumerate" = none) (ha : ZA X [e] ta) (hs : starEach [e] X.env = [(false, eval e X.env)] := by rfl) :
    ZI X (.Tuple elts kk tpos) (.Call (.Name "enumerate" p) [e] [] pos) (iEnumTz ta) := pi_imp (pi_enumT hg hm ha hs) fun σ H R => by
  rintro ⟨P, Hc, δ, q, Rw, ht, post⟩
  refine ⟨P, Hc, δ, _, Rw, ht, fun Hc' H' vs ws l f R' rv hq => ?_⟩
  split at hq
  · rename_i ds
    obtain ⟨v, rfl, r⟩ := rv.one
    have z : RV X.K Hc' v (.tuple ds) := r
    cases z with
    | tup h1 hz h2 =>
      rename_i a xs
      refine ⟨a, xs, rfl, SqT.of (R'.coldH _ _ h1), post Hc' H' _ _ l f R' (Wk.pairs (fun l Hc2 H2 σ2 δ2 le R2 => SqT.of (R2.coldH _ _ (le _ _ h1))) walk_enumT (by rw [h2.len]; exact hz) (by unfold enumD; rw [List.length_mapIdx, h2.len]) fun i d e => ?_) hq⟩
      obtain ⟨y, e1, rfl⟩ := enumD_at e
      obtain ⟨x, e2, r2⟩ := h2.get e1
      exact ⟨_, x, _, y, rfl, e2, rfl, .int _, r2⟩
  · exact hq.elim
/-! ### tuple * int -/
theorem tuple_mul1 (l : Addr) (items : Array Value) (n : Nat) (dd : Option Addr) (sl : Array (Option Value)) (u : Tok) :
    Meets (Builtin.«tuple.__mul__» ⟨[.ref l, .int 1 u], []⟩) (fun _ R s => s.heap.get? l = some { cls := .type "tuple", dict := dd, data := .seq items n, slots := sl } ∧ R (.ok (.ret (Value.ref l))) s) :=
  .of_wp fun prog w A R s h => by
    obtain ⟨hp, g, d, tk, os⟩ := s
    obtain ⟨hl, h⟩ := h
    have f1 := AutoSeq1.idx_int
    wp_walk using AutoSeq1.wpAny_loadPart' hl
    exact ⟨_, rfl, h⟩
theorem tuple_mul0 (l : Addr) (items : Array Value) (n : Nat) (dd : Option Addr) (sl : Array (Option Value)) (x : Int) (u : Tok) (c0 : (decide (x < -(2 ^ 63)) || decide (x ≥ 2 ^ 63)) = false) (c1 : (items.isEmpty || x == 1) = false) (c2 : (decide (x ≤ 0) || items.isEmpty) = true) :
    Meets (Builtin.«tuple.__mul__» ⟨[.ref l, .int x u], []⟩) (fun _ R s => s.heap.get? l = some { cls := .type "tuple", dict := dd, data := .seq items n, slots := sl } ∧
      R (.ok (.ret (Value.ref s.heap.objs.size))) { s with heap := s.heap.push { cls := Value.type "tuple", data := Data.seq #[] }, toks := s.toks }) :=
  .of_wp fun prog w A R s h => by
    obtain ⟨hp, g, d, tk, os⟩ := s
    obtain ⟨hl, h⟩ := h
    have f1 := AutoSeq1.idx_int
    wp_walk using AutoSeq1.wpAny_loadPart' hl
    repeat (first
      | (refine wpAny_ite_false (decide_eq_false (by rw [c0]; exact Bool.false_ne_true)) ?_; wp_walk using AutoSeq1.wpAny_loadPart' hl)
      | (refine wpAny_ite_false (decide_eq_false (by rw [c1]; exact Bool.false_ne_true)) ?_; wp_walk using AutoSeq1.wpAny_loadPart' hl)
      | (refine wpAny_ite_true (decide_eq_true c2) ?_; wp_walk using AutoSeq1.wpAny_loadPart' hl))
    all_goals first | exact ⟨_, rfl, h⟩ | skip
section
variable {X : Cx} {a b : Expr} {ta tb : TP} {pos : Pos}
/-- (x, ..) * k, k from 0 on -/
def rRepTA (K : PySem.W.Frag) : R2 := fun x y H Q => ∃ l k xs, x = .ref l ∧ y = .int k ∧ SqT K H l xs ∧ xs ≠ [] ∧ k ≤ 1000 ∧ -1000 ≤ k ∧ xs.length ≤ 1000 ∧ (k = 1 → Q (.ref l) H) ∧ (k ≠ 1 → ∀ p, H p = none → Q (.ref p) (upd H p (.tup (List.replicate k.toNat xs).flatten)))
theorem op_repTA : OpR X (binaryOp .Mult) (rRepTA X.K) := by
  intro pins s σ H x y v u Q I rx ry h
  obtain ⟨l, k, xs, rfl, rfl, hT, hne, h2, h0, hz, q1, q2⟩ := h
  by_cases hk2 : 2 ≤ k
  · exact op_repT pins s σ H _ _ v u Q I rx ry ⟨l, k, xs, rfl, rfl, hT, hne, hk2, h2, hz, q2 (by omega)⟩
  cases rx
  obtain ⟨t, rfl⟩ := ry
  obtain ⟨its, r, ⟨⟨cls, dd, data, sl⟩, ho, hc, n, hd⟩, hs⟩ := I.tuple hT
  simp only at hc hd
  subst hc hd
  have hle : its.length = xs.length := r.length.symm
  have hn : its ≠ [] := fun e => hne (by
    rw [e] at hle
    exact List.eq_nil_of_length_eq_zero hle.symm)
  have hi : its.toArray.isEmpty = false := by
    cases its with
    | nil => exact absurd rfl hn
    | cons a b => rfl
  by_cases h1 : k = 1
  · subst h1
    refine wpAny_binaryOp_repeat_ref (T := "tuple") (U := "int") (by decide) ⟨_, ho, rfl⟩ (fun s' => typeIs_int s' 1 t) noFill_tuple_mul F.fills_int_mul F.slot_int_rmul repeat_tuple F.slot_int_index.lookup
      (call_meets F.slot_int_rmul (typeIs_int s 1 t) F.entry_int_rmul (F.args_int_rmul_2 _ _) (int_rmul_tuple 1 t l its.toArray n dd sl)
        ⟨ho, rfl, ⟨_, ho, rfl⟩, call_meets F.slot_tuple_mul ⟨_, ho, rfl⟩ F.entry_tuple_mul (F.args_tuple_mul_2 _ _) (tuple_mul1 l its.toArray n dd sl t) ⟨ho, ?_⟩⟩)
    exact ⟨.ref l, H, I, rfl, q1 rfl⟩
  · have c0 : (decide (k < -(2 ^ 63)) || decide (k ≥ 2 ^ 63)) = false := by
      rw [decide_eq_false (by omega), decide_eq_false (by omega)] <;> rfl
    have c1 : (its.toArray.isEmpty || k == 1) = false := by
      rw [hi, Bool.false_or]
      exact beq_eq_false_iff_ne.mpr h1
    have c2 : (decide (k ≤ 0) || its.toArray.isEmpty) = true := by
      rw [hi, Bool.or_false]
      exact decide_eq_true (by omega)
    have e0 : (List.replicate k.toNat xs).flatten = [] := by
      have : k.toNat = 0 := by omega
      rw [this]
      rfl
    refine wpAny_binaryOp_repeat_ref (T := "tuple") (U := "int") (by decide) ⟨_, ho, rfl⟩ (fun s' => typeIs_int s' k t) noFill_tuple_mul F.fills_int_mul F.slot_int_rmul repeat_tuple F.slot_int_index.lookup
      (call_meets F.slot_int_rmul (typeIs_int s k t) F.entry_int_rmul (F.args_int_rmul_2 _ _) (int_rmul_tuple k t l its.toArray n dd sl)
        ⟨ho, rfl, ⟨_, ho, rfl⟩, call_meets F.slot_tuple_mul ⟨_, ho, rfl⟩ F.entry_tuple_mul (F.args_tuple_mul_2 _ _) (tuple_mul0 l its.toArray n dd sl k t c0 c1 c2) ⟨ho, ?_⟩⟩)
    have q3 := q2 h1
    rw [e0] at q3
    refine ⟨.ref s.heap.objs.size, _, I.laid (t' := s.toks) (o := .tup []) (fun b ob q => Heap.get?_push_of_some _ q) (Nat.le_refl _) ?_, rfl, q3 _ (I.hok.fresh (Nat.le_refl _))⟩
    exact ⟨Nat.zero_le _, [], .nil, IsTup.new _ _⟩
def rRepTz : W → W → (W → Prop) → Prop := fun x y q => match tupW x, y with
  | some xs, .d (.int k) => (xs ≠ [] ∧ k ≤ 1000 ∧ -1000 ≤ k ∧ xs.length ≤ 1000) ∧ q (.d (.tuple (List.replicate k.toNat xs).flatten))
  | _, _ => False
theorem z_repT (ha : ZE X a ta) (hb : ZE X b tb) : ZE X (.BinOp a .Mult b pos) (bZ ta tb rRepTz) := z_op op_repTA (fun P Hc H σ δ v u w x q Q R rv ru hr post => by
  unfold rRepTz at hr
  split at hr
  · rename_i xs k e1
    have e1 := tupW_inv e1
    subst e1
    obtain ⟨p, vs, rfl, h1, h0, h2, hz⟩ := RVw.tup R rv
    obtain ⟨⟨n1, n2, n3, n4⟩, hq⟩ := hr
    have hl := h2.len
    refine ⟨p, k, vs, rfl, ru.int, SqT.of h1, fun z => n1 ?_, n2, n3, by rw [hl]; exact n4, fun e => ?_, fun _ l hl' => post.newT R hl' (h2.flat _) ?_ hq⟩
    · rw [z] at hl
      exact List.eq_nil_of_length_eq_zero hl.symm
    · subst e
      have e2 : (List.replicate (1 : Int).toNat xs).flatten = xs := by simp
      rw [e2] at hq
      exact post.at R (w := .d (.tuple xs)) (RV.tup h0 hz h2) hq
    · rw [PyProof.Rows.lm_len_rep_flat, sizeLine_eq]
      have a1 : k.toNat * xs.length ≤ 1000 * 1000 := Nat.mul_le_mul (by omega) n4
      omega
  · exact hr.elim) ha hb
end
end Zl
end
section
set_option maxHeartbeats 1000000
namespace Zl
open PySem PySem.Spec PyProof.Rows L2
/-! ### several names at once -/
section
variable {K : PySem.W.Frag} {P : Pm} {Hc H : Hp} {σ : L2.St} {δ : List Sl}
def zStoreN : List W → List Nat → List Sl → (List Sl → Prop) → Prop
  | [], [], δ, q => q δ
  | w :: ws, i :: is, δ, q => stW w fun s => zStoreN ws is (δ.set i s) q
  | _, _, _, _ => False
def setsV : L2.St → List Nat → List V → L2.St
  | σ, i :: is, v :: vs => setsV (σ.set i (some v)) is vs
  | σ, _, _ => σ
theorem apart_behind {P1 P2 : Pm} {v : V} {i : Nat} {s : Sl} {a : Addr} (hsub : ∀ q ∈ P2.gh, q ∈ P1.gh) (hs : s.hot = true → ∃ b, v = .ref b ∧ (b, s) ∈ P1.gh) (h : Apart P1 σ δ a) : Apart P2 (σ.set i (some v)) (δ.set i s) a := by
  refine ⟨fun j hj ej => ?_, fun q hq => h.2 q (hsub q hq)⟩
  rcases hotAt_set hj with ⟨rfl, sj⟩ | ⟨nj, sj⟩
  · rcases set_get ej with ⟨_, e3, _⟩ | ⟨z, _⟩
    · obtain ⟨b, eb, hb⟩ := hs sj
      rw [eb] at e3
      have e4 : a = b := by
        injection e3 with e3
        injection e3
      exact h.2 (b, s) hb e4.symm
    · exact absurd rfl z
  · rw [List.getElem?_set_ne nj] at ej
    exact h.1 j sj ej
theorem rvw_behind {P1 P2 : Pm} {v u : V} {x : W} {i : Nat} {s : Sl} (eF : P2.F = P1.F) (eg : P2.g = P1.g) (hsub : ∀ q ∈ P2.gh, q ∈ P1.gh) (hs : s.hot = true → ∃ b, v = .ref b ∧ (b, s) ∈ P1.gh) (r : RVw K P1 Hc H σ δ u x) : RVw K P2 Hc H (σ.set i (some v)) (δ.set i s) u x := by
  have hl : ∀ {a xs}, HotL K P1 Hc H a xs → HotL K P2 Hc H a xs := fun {a xs} ⟨vs, h1, h2, h3, h4⟩ => ⟨vs, h1, by rw [eF]; exact h2, by rw [eg]; exact h3, h4⟩
  have hd : ∀ {a xs}, HotD K P1 Hc H a xs → HotD K P2 Hc H a xs := fun {a xs} ⟨vs, h1, h2, h3, h4⟩ => ⟨vs, h1, by rw [eF]; exact h2, by rw [eg]; exact h3, h4⟩
  cases x with
  | d x => exact r
  | bag =>
    obtain ⟨a, h1, h2⟩ := r
    exact ⟨a, by rw [eg]; exact h1, h2⟩
  | op u => exact r
  | hot xs =>
    obtain ⟨a, h1, h2⟩ := r
    exact ⟨a, h1, hl h2⟩
  | hotd xs =>
    obtain ⟨a, h1, h2⟩ := r
    exact ⟨a, h1, hd h2⟩
  | brw x =>
    have e : allH P2 Hc H = allH P1 Hc H := by
      unfold allH
      rw [eF, eg]
    have r : RV K (allH P1 Hc H) u x := r
    rw [← e] at r
    exact r
  | new xs =>
    obtain ⟨a, h1, h2, h3, h4⟩ := r
    exact ⟨a, h1, h2, hl h3, apart_behind hsub hs h4⟩
  | newd xs =>
    obtain ⟨a, h1, h2, h3, h4⟩ := r
    exact ⟨a, h1, h2, hd h3, apart_behind hsub hs h4⟩
theorem rvn_behind {v : V} {i : Nat} {s : Sl} : ∀ {vs : List V} {ws : List W} {P1 P2 : Pm}, P2.F = P1.F → P2.g = P1.g → (∀ q ∈ P2.gh, q ∈ P1.gh) → (s.hot = true → ∃ b, v = .ref b ∧ (b, s) ∈ P1.gh) → RVn K P1 Hc H σ δ vs ws → RVn K P2 Hc H (σ.set i (some v)) (δ.set i s) vs ws
  | [], [], _, _, _, _, _, _, _ => trivial
  | u :: us, x :: xs, P1, P2, eF, eg, hsub, hs, ⟨r1, r2⟩ => by
    refine ⟨rvw_behind eF eg hsub hs r1, rvn_behind (P1 := P1.add (ghO u x)) (P2 := P2.add (ghO u x)) eF eg (fun q hq => ?_) (fun h => ?_) r2⟩
    · rcases List.mem_append.mp hq with hq | hq
      · exact List.mem_append_left _ hq
      · exact List.mem_append_right _ (hsub q hq)
    · obtain ⟨b, e, m⟩ := hs h
      exact ⟨b, e, List.mem_append_right _ m⟩
  | [], _ :: _, _, _, _, _, _, _, h => h.elim
  | _ :: _, [], _, _, _, _, _, _, h => h.elim
theorem RW.stores : ∀ {is : List Nat} {vs : List V} {ws : List W} {σ : L2.St} {δ : List Sl} {q : List Sl → Prop}, RW K P Hc H σ δ → RVn K P Hc H σ δ vs ws → zStoreN ws is δ q → ∃ δ', q δ' ∧ RW K P Hc H (setsV σ is vs) δ' ∧ vs.length = is.length
  | [], [], [], _, δ, _, R, _, h => ⟨δ, h, R, rfl⟩
  | i :: is, v :: vs, w :: ws, σ, δ, q, R, ⟨r1, r2⟩, h => by
    have key : ∀ {s : Sl}, (s.hot = true → ∃ b, v = .ref b ∧ (b, s) ∈ (P.add (ghO v w)).gh) → RW K P Hc H (σ.set i (some v)) (δ.set i s) → zStoreN ws is (δ.set i s) q → ∃ δ', q δ' ∧ RW K P Hc H (setsV σ (i :: is) (v :: vs)) δ' ∧ (v :: vs).length = (i :: is).length := fun {s} hs R' h' => by
      obtain ⟨δ', h1, h2, h3⟩ := RW.stores R' (rvn_behind (P1 := P.add (ghO v w)) (P2 := P) rfl rfl (fun q hq => List.mem_append_right _ hq) hs r2) h'
      exact ⟨δ', h1, h2, congrArg (· + 1) h3⟩
    cases w with
    | d y => exact key (s := .w (.d y)) (fun z => nomatch z) (R.setS (s := .w (.d y)) ⟨v, rfl, r1⟩ fun z => nomatch z) h
    | bag =>
      obtain ⟨a, h1, rfl⟩ := r1
      exact key (s := .w .bag) (fun z => nomatch z) (R.setS (s := .w .bag) ⟨a, h1, rfl⟩ fun z => nomatch z) h
    | op y =>
      have e : v = y := r1
      subst e
      exact key (s := .w (.op v)) (fun z => nomatch z) (R.setS (s := .w (.op v)) rfl fun z => nomatch z) h
    | new xs =>
      obtain ⟨a, rfl, h1, h2, h3⟩ := r1
      exact key (fun _ => ⟨a, rfl, List.mem_append_left _ List.mem_cons_self⟩) (R.setS (s := .hl xs) ⟨a, rfl, h1, h2⟩ fun _ b eb => by cases eb; exact h3) h
    | newd xs =>
      obtain ⟨a, rfl, h1, h2, h3⟩ := r1
      exact key (fun _ => ⟨a, rfl, List.mem_append_left _ List.mem_cons_self⟩) (R.setS (s := .hd xs) ⟨a, rfl, h1, h2⟩ fun _ b eb => by cases eb; exact h3) h
    | hot xs => exact h.elim
    | hotd xs => exact h.elim
    | brw xs => exact h.elim
  | [], [], _ :: _, _, _, _, _, r, _ => r.elim
  | [], _ :: _, [], _, _, _, _, r, _ => r.elim
  | [], _ :: _, _ :: _, _, _, _, _, _, h => h.elim
  | _ :: _, [], [], _, _, _, _, _, h => h.elim
  | _ :: _, [], _ :: _, _, _, _, _, r, _ => r.elim
  | _ :: _, _ :: _, [], _, _, _, _, r, _ => r.elim
end
section
variable {X : Cx} {pos : Pos} {st : Stmt} {es : List Expr} {ta : TPa}
def zPars (is : List Nat) (ta : TPa) : TZ := fun N δ => ta δ fun ws => zStoreN ws is δ N.nx
theorem zs_par2 {i j : Nat} (hP : PS X st (tPar i j (lftN X.K ta))) : ZS X st (zPars [i, j] ta) := ps_imp hP fun Dn σ H => by
  rintro ⟨P, Hc, δ, N, R, h, E⟩
  refine ⟨P, Hc, δ, _, R, h, fun Hc' H' vs ws l f R' rv hq => ?_⟩
  obtain ⟨δ', h1, h2, h3⟩ := RW.stores R' rv hq
  match vs, h3 with
  | [v, u], _ => exact ⟨v, u, rfl, E.nx Hc' H' _ _ l h2 h1⟩
theorem zs_par3 {i j k : Nat} (hP : PS X st (tPar3 i j k (lftN X.K ta))) : ZS X st (zPars [i, j, k] ta) := ps_imp hP fun Dn σ H => by
  rintro ⟨P, Hc, δ, N, R, h, E⟩
  refine ⟨P, Hc, δ, _, R, h, fun Hc' H' vs ws l f R' rv hq => ?_⟩
  obtain ⟨δ', h1, h2, h3⟩ := RW.stores R' rv hq
  match vs, h3 with
  | [v, u, t], _ => exact ⟨v, u, t, rfl, E.nx Hc' H' _ _ l h2 h1⟩
/-- names, some of them read in comprehensions: by a tuple -/
def gNames : List Nat → TGs
  | [] => gNil
  | i :: is => gCons (gName i) (gNames is)
theorem gNames_ok {H : Hp} {Q : L2.St → Hp → Prop} : ∀ {is : List Nat} {vs : List V} {σ : L2.St}, vs.length = is.length → Q (setsV σ is vs) H → gNames is vs σ H Q
  | [], [], _, _, h => ⟨rfl, h⟩
  | i :: is, v :: vs, σ, hl, h => ⟨v, vs, rfl, gNames_ok (Nat.succ.inj hl) h⟩
  | [], _ :: _, _, hl, _ => nomatch hl
  | _ :: _, [], _, hl, _ => nomatch hl
theorem zs_parG {is : List Nat} {n : Nat} (hn : is.length = n) (hs : n ≤ 100) (hP : PS X st (tAsg (tTup (lftN X.K ta)) (gTup X.K n (gNames is)))) : ZS X st (zPars is ta) := ps_imp hP fun Dn σ H => by
  rintro ⟨P, Hc, δ, N, R, h, E⟩
  refine ⟨P, Hc, δ, _, R, h, fun Hc' H' vs ws l f R' rv hq => ?_⟩
  obtain ⟨δ', h1, h2, h3⟩ := RW.stores R' rv hq
  refine ⟨by rw [h3, hn]; exact Nat.le_trans hs (by decide), fun p hp => ⟨p, vs, rfl, SqT.of upd_same, by rw [h3, hn], gNames_ok h3 ?_⟩⟩
  exact E.nx Hc' _ _ _ l (h2.newO hp) h1
/-! ### name = [..] -/
theorem zs_setLc {y : Nat} {yn : Str} {py : Pos} {elt tg iter : Expr} {scope : Scope} {own : List (Str × Nat)} {spos : Pos} {wi : TIz} {g : TG} {gz : TGz} {te : TP} (hc : X.calm = true) (hN : X.N.Nodup) (hi : ZI X tg iter wi) (ok : BlkOk X.N X.env.scope scope own)
    (hg : ∀ (s : Shared) (H : Hp) (C : Addr) (cl : List (Str × Addr)) (fp : List Addr), PG (X.blk s H scope (compEnvC scope cl C X.env) fp) tg g) (gr : GRel X.K (own.map (·.2)) g gz)
    (he : ∀ (s : Shared) (H : Hp) (C : Addr) (cl : List (Str × Addr)) (fp : List Addr), ZE (X.blk s H scope (compEnvC scope cl C X.env) fp) elt te)
    (hy : X.N[y]? = some yn := by rfl) (hyl : X.env.scope.names.lookup yn = some .local := by rfl) (hsw : swapsWith (.ListComp elt [⟨tg, iter, [], 0⟩] scope pos) (some (.Name yn py)) spos.line X.env = pure true := by exact sw_true rfl rfl rfl (by decide +kernel))
    (hs : ∀ x, foldedSetIterable iter X.env x = pure x := by intro _; rfl) :
    ZS X (.Assign [.Name yn py] (.ListComp elt [⟨tg, iter, [], 0⟩] scope pos) spos) (zAsg (zLc wi gz zYes te (own.map (·.2))) (gzName y)) :=
  ps_imp (ps_setLc (te := lft X.K te) hc hN hy hyl hsw hi ok hg (fun _ _ _ _ _ => pts_nil) he hs) fun Dn σ H => by
    rintro ⟨P, Hc, δ, N, R, h, E⟩
    refine lft_lc (Q := fun x H1 => Dn.nx (σ.set y (some x)) H1) gr (fun _ _ _ => zyes_ok) ⟨P, Hc, δ, _, R, h, fun Hc' H' v w l f R' rv hq => ?_⟩
    obtain ⟨s, hs, R2⟩ := R'.store (i := y) (k := fun s => N.nx (δ.set y s)) rv hq
    exact E.nx Hc' H' _ _ l R2 hs
theorem zs_setLci {y : Nat} {yn : Str} {py : Pos} {elt tg iter c : Expr} {scope : Scope} {own : List (Str × Nat)} {spos : Pos} {wi : TIz} {g : TG} {gz : TGz} {tc : TPt} {te : TP} (hc : X.calm = true) (hN : X.N.Nodup) (hi : ZI X tg iter wi) (ok : BlkOk X.N X.env.scope scope own)
    (hg : ∀ (s : Shared) (H : Hp) (C : Addr) (cl : List (Str × Addr)) (fp : List Addr), PG (X.blk s H scope (compEnvC scope cl C X.env) fp) tg g) (gr : GRel X.K (own.map (·.2)) g gz)
    (ht : ∀ (s : Shared) (H : Hp) (C : Addr) (cl : List (Str × Addr)) (fp : List Addr), ZT (X.blk s H scope (compEnvC scope cl C X.env) fp) c tc)
    (he : ∀ (s : Shared) (H : Hp) (C : Addr) (cl : List (Str × Addr)) (fp : List Addr), ZE (X.blk s H scope (compEnvC scope cl C X.env) fp) elt te)
    (hy : X.N[y]? = some yn := by rfl) (hyl : X.env.scope.names.lookup yn = some .local := by rfl) (hsw : swapsWith (.ListComp elt [⟨tg, iter, [c], 0⟩] scope pos) (some (.Name yn py)) spos.line X.env = pure true := by exact sw_true rfl rfl rfl (by decide +kernel))
    (hs : ∀ x, foldedSetIterable iter X.env x = pure x := by intro _; rfl) :
    ZS X (.Assign [.Name yn py] (.ListComp elt [⟨tg, iter, [c], 0⟩] scope pos) spos) (zAsg (zLc wi gz tc te (own.map (·.2))) (gzName y)) :=
  ps_imp (ps_setLc (tt := lftT X.K tc) (te := lft X.K te) hc hN hy hyl hsw hi ok hg (fun s H C cl fp => pts_one (ht s H C cl fp)) he hs) fun Dn σ H => by
    rintro ⟨P, Hc, δ, N, R, h, E⟩
    refine lft_lc (Q := fun x H1 => Dn.nx (σ.set y (some x)) H1) gr (fun _ _ _ z => z) ⟨P, Hc, δ, _, R, h, fun Hc' H' v w l f R' rv hq => ?_⟩
    obtain ⟨s, hs, R2⟩ := R'.store (i := y) (k := fun s => N.nx (δ.set y s)) rv hq
    exact E.nx Hc' H' _ _ l R2 hs
/-- .. and changed no more -/
theorem zs_cold {t : TP} {y : Nat} (h : ZS X st (zAsg t (gzName y))) : ZS X st (fun N δ => t δ fun w => stW w fun s => N.nx (frzAt y (δ.set y s))) := ps_imp h fun Dn σ H => by
  rintro ⟨P, Hc, δ, N, R, h, E⟩
  refine ⟨P, Hc, δ, { N with nx := fun δ' => N.nx (frzAt y δ') }, R, h, ⟨fun Hc' H' σ' δ' l R' hn => ?_, E.rt, E.bk, E.ct⟩⟩
  obtain ⟨Hc2, l2, R2⟩ := R'.frzAt y
  exact E.nx Hc2 H' σ' _ (l.trans l2) R2 hn
/-! ### targets xs[i] -/
def gzSetL (j : Nat) (ti : TP) : TGz := fun w δ q => match δ[j]?, w with
  | some (.hl xs), .d d => ti δ fun z => (match z with
    | .d (.int i) => (match ixN xs.length i with
      | some m => q (δ.set j (.hl (xs.set m d)))
      | none => False)
    | _ => False)
  | _, _ => False
theorem zg_setL {x : Str} {np : Pos} {j : Nat} {k : Expr} {tk : TP} {pos' : Pos} (hk : ZE X k tk) (hN : X.N[j]? = some x := by rfl) (hv : Vis X.env.scope x := by first | exact Or.inl rfl | exact Or.inr (Or.inl rfl) | exact Or.inr (Or.inr rfl)) (hd : (x == ("__debug__" : Str)) = false := by decide)
    (hcd : (x == ("__classdict__" : Str)) = false := by decide) (ha : ∀ v, assign (.Subscript (.Name x np) k pos') X.env v = (do
      let ov ← holding [v] (eval (.Name x np) X.env)
      let iv ← holding [v, ov] (eval k X.env)
      standAt pos'
      holding [v, ov, iv] (setItem ov iv v)
      release [v, ov, iv] []) := by intro _; rfl) : ZG X (.Subscript (.Name x np) k pos') (gzSetL j tk) := pg_imp (pg_sub (pe_var hN hv hd hcd) hk set_list ha) fun v σ H Q => by
  rintro ⟨P, Hc, δ, w, q, R, rv, h, E⟩
  unfold gzSetL at h
  split at h
  · rename_i xs d e1
    obtain ⟨a, vs, h1, h2, h3, h4, h5, h6, _⟩ := R.slL e1
    refine ⟨.ref a, h1, P, Hc, δ, _, R, h, fun Hc2 H2 u z l2 f2 R2 ru hq2 => ?_⟩
    split at hq2
    · rename_i i
      split at hq2
      · rename_i m em
        obtain ⟨a', vs', z1, z2, z3, z4, z5, z6, z7⟩ := R2.slL e1
        rw [h1] at z1
        cases z1
        exact ⟨a, vs', i, m, rfl, ru.int, z3, by rw [z6.len]; exact em, E Hc2 _ σ _ l2 (R2.putL e1 h1 (z6.set (RV.mono l2 rv) m) (by rw [List.length_set]; exact z7)) hq2⟩
      · exact hq2.elim
    · exact hq2.elim
  · exact h.elim
theorem m_extTT {K : PySem.W.Frag} : HotM K rExtTZ Vq.rExtT := m_extT fun {a b vs zs H Q} h1 h2 h3 q => ⟨a, b, vs, zs, rfl, rfl, h1, h2, h3, q⟩
end
/-! ### the law's bag -/
section
variable {P : Program} {w : World} {K : PySem.W.Frag} {mg : Str → Option Value} {base : Heap}
theorem zcal_of_cal {k : Nat} {x : Str} {sp : Sp} {spz : Spz} (c : C8.Cal P w K mg base k x sp []) (h : ∀ vs H Q E, zsp K spz vs H Q E → sp vs H Q E) : ZCal P w K mg base k x spz := by
  obtain ⟨f, fd, ps, ds, F, m, kp, b, d⟩ := c.ex
  cases d
  refine ⟨f, fd, ps, ⟨fun vs H Q E q => F.len vs H Q E (h _ _ _ _ q), fun A hG hr outer s H e0 args us hb vs Q E r hsp => ?_⟩, m, kp, b⟩
  exact F.run A outer s H args us vs Q E hr e0 hb r (h _ _ _ _ hsp)
def sp_l_take : Spz := fun ws q => ∃ m : Int, ws = [.bag, .d (.int m)] ∧ 0 < m ∧ m < 2 ^ 20 ∧ ∀ j : Int, 0 ≤ j → j < m → q (.d (.int j))
structure Mgz (mg : Str → Option Value) : Prop where
  abs : mg "abs" = none
  int : mg "int" = none
  len : mg "len" = none
  min : mg "min" = none
  max : mg "max" = none
  sum : mg "sum" = none
  all : mg "all" = none
  sorted : mg "sorted" = none
  tuple : mg "tuple" = none
  list : mg "list" = none
  range : mg "range" = none
  zip : mg "zip" = none
  enumerate : mg "enumerate" = none
  repr : mg "repr" = none
  isinstance : mg "isinstance" = none
  bool : mg "bool" = none
  dict : mg "dict" = none
  str : mg "str" = none
  any : mg "any" = none
  reversed : mg "reversed" = none
  set : mg "set" = none
end
end Zl
end
section
set_option maxHeartbeats 1000000
namespace Zl
open PySem PySem.Spec PyProof.Rows L2
def topS (i : Nat) : Stmt := PySem.Challenge.pw_leastpowers_k38_silence_and_loud_orders.main.body.getD i (.Pass ⟨0, 0, 0, 0⟩)
abbrev s_later : Stmt := topS 1
abbrev n_later : List Str := ["order", "delay"]
theorem sc_later : FnScope n_later ["order", "delay"] (defScope s_later) := ⟨rfl, rfl, rfl, by decide +kernel, rfl, by decide +kernel, by decide +kernel⟩
abbrev s_not_above : Stmt := topS 2
abbrev n_not_above : List Str := ["one", "other"]
theorem sc_not_above : FnScope n_not_above ["one", "other"] (defScope s_not_above) := ⟨rfl, rfl, rfl, by decide +kernel, rfl, by decide +kernel, by decide +kernel⟩
abbrev s_least_order : Stmt := topS 3
abbrev n_least_order : List Str := ["orders", "order"]
theorem sc_least_order : FnScope n_least_order ["orders"] (defScope s_least_order) := ⟨rfl, rfl, rfl, by decide +kernel, rfl, by decide +kernel, by decide +kernel⟩
abbrev s_earliest_by : Stmt := topS 5
abbrev n_earliest_by : List Str := ["plan", "wait", "other", "delay"]
theorem sc_earliest_by : FnScope n_earliest_by ["plan", "wait"] (defScope s_earliest_by) := ⟨rfl, rfl, rfl, by decide +kernel, rfl, by decide +kernel, by decide +kernel⟩
abbrev s_least_plan : Stmt := topS 7
abbrev n_least_plan : List Str := ["system", "plan", "_"]
theorem sc_least_plan : FnScope n_least_plan ["system"] (defScope s_least_plan) := ⟨rfl, rfl, rfl, by decide +kernel, rfl, by decide +kernel, by decide +kernel⟩
abbrev s_least_and_chosen : Stmt := topS 8
abbrev n_least_and_chosen : List Str := ["system", "floors", "chosen", "plan", "later_waits", "event", "index"]
theorem sc_least_and_chosen : FnScope n_least_and_chosen ["system", "floors"] (defScope s_least_and_chosen) := ⟨rfl, rfl, rfl, by decide +kernel, rfl, by decide +kernel, by decide +kernel⟩
abbrev s_waits_not_kept : Stmt := topS 9
abbrev n_waits_not_kept : List Str := ["system", "plan", "latest", "found", "index", "wait", "event", "order"]
theorem sc_waits_not_kept : FnScope n_waits_not_kept ["system", "plan"] (defScope s_waits_not_kept) := ⟨rfl, rfl, rfl, by decide +kernel, rfl, by decide +kernel, by decide +kernel⟩
abbrev s_plan_by_chosen : Stmt := topS 10
abbrev n_plan_by_chosen : List Str := ["system", "floors", "chosen", "many", "waits", "plan", "_", "event", "index", "floor"]
theorem sc_plan_by_chosen : FnScope n_plan_by_chosen ["system", "floors", "chosen"] (defScope s_plan_by_chosen) := ⟨rfl, rfl, rfl, by decide +kernel, rfl, by decide +kernel, by decide +kernel⟩
abbrev s_barred_events : Stmt := topS 11
abbrev n_barred_events : List Str := ["system", "event", "order"]
theorem sc_barred_events : FnScope n_barred_events ["system"] (defScope s_barred_events) := ⟨rfl, rfl, rfl, by decide +kernel, rfl, by decide +kernel, by decide +kernel⟩
abbrev s_low_high : Stmt := topS 13
abbrev n_low_high : List Str := ["table", "row", "unknown", "many", "rows", "sides", "right", "bounds", "low", "other", "least", "greatest"]
theorem sc_low_high : FnScope n_low_high ["table", "row", "unknown"] (defScope s_low_high) := ⟨rfl, rfl, rfl, by decide +kernel, rfl, by decide +kernel, by decide +kernel⟩
abbrev s_high_of : Stmt := topS 14
abbrev n_high_of : List Str := ["bounds", "high", "reaching", "least", "greatest"]
theorem sc_high_of : FnScope n_high_of ["bounds"] (defScope s_high_of) := ⟨rfl, rfl, rfl, by decide +kernel, rfl, by decide +kernel, by decide +kernel⟩
abbrev s_without_rights : Stmt := topS 15
abbrev n_without_rights : List Str := ["table", "many", "rows", "sides", "right"]
theorem sc_without_rights : FnScope n_without_rights ["table"] (defScope s_without_rights) := ⟨rfl, rfl, rfl, by decide +kernel, rfl, by decide +kernel, by decide +kernel⟩
abbrev s_system_of : Stmt := topS 17
abbrev n_system_of : List Str := ["table", "many", "rows", "row", "wait"]
theorem sc_system_of : FnScope n_system_of ["table"] (defScope s_system_of) := ⟨rfl, rfl, rfl, by decide +kernel, rfl, by decide +kernel, by decide +kernel⟩
abbrev s_waits_of_row : Stmt := topS 18
abbrev n_waits_of_row : List Str := ["table", "row", "bounds", "waits", "event", "_", "high", "other"]
theorem sc_waits_of_row : FnScope n_waits_of_row ["table", "row"] (defScope s_waits_of_row) := ⟨rfl, rfl, rfl, by decide +kernel, rfl, by decide +kernel, by decide +kernel⟩
abbrev s_bounds_in_row : Stmt := topS 19
abbrev n_bounds_in_row : List Str := ["table", "row", "bounds", "event"]
theorem sc_bounds_in_row : FnScope n_bounds_in_row ["table", "row"] (defScope s_bounds_in_row) := ⟨rfl, rfl, rfl, by decide +kernel, rfl, by decide +kernel, by decide +kernel⟩
abbrev s_silent_system : Stmt := topS 21
abbrev n_silent_system : List Str := ["table"]
theorem sc_silent_system : FnScope n_silent_system ["table"] (defScope s_silent_system) := ⟨rfl, rfl, rfl, by decide +kernel, rfl, by decide +kernel, by decide +kernel⟩
abbrev s_is_silent : Stmt := topS 22
abbrev n_is_silent : List Str := ["table"]
theorem sc_is_silent : FnScope n_is_silent ["table"] (defScope s_is_silent) := ⟨rfl, rfl, rfl, by decide +kernel, rfl, by decide +kernel, by decide +kernel⟩
abbrev s_loud_orders : Stmt := topS 23
abbrev n_loud_orders : List Str := ["table", "many", "orders"]
theorem sc_loud_orders : FnScope n_loud_orders ["table"] (defScope s_loud_orders) := ⟨rfl, rfl, rfl, by decide +kernel, rfl, by decide +kernel, by decide +kernel⟩
abbrev s_barred_unknowns : Stmt := topS 24
abbrev n_barred_unknowns : List Str := ["table"]
theorem sc_barred_unknowns : FnScope n_barred_unknowns ["table"] (defScope s_barred_unknowns) := ⟨rfl, rfl, rfl, by decide +kernel, rfl, by decide +kernel, by decide +kernel⟩
abbrev s_l_bag : Stmt := topS 26
abbrev n_l_bag : List Str := ["_law_script", "_law_cell"]
theorem sc_l_bag : FnScope n_l_bag ["_law_script"] (defScope s_l_bag) := ⟨rfl, rfl, rfl, by decide +kernel, rfl, by decide +kernel, by decide +kernel⟩
abbrev s_l_take : Stmt := topS 27
abbrev n_l_take : List Str := ["_law_bag_here", "_law_many", "_law_cell", "_law_stirred", "_law_value", "_law_begin", "_law_second"]
theorem sc_l_take : FnScope n_l_take ["_law_bag_here", "_law_many"] (defScope s_l_take) := ⟨rfl, rfl, rfl, by decide +kernel, rfl, by decide +kernel, by decide +kernel⟩
abbrev s_l_some : Stmt := topS 28
abbrev n_l_some : List Str := ["_law_bag_here", "_law_things"]
theorem sc_l_some : FnScope n_l_some ["_law_bag_here", "_law_things"] (defScope s_l_some) := ⟨rfl, rfl, rfl, by decide +kernel, rfl, by decide +kernel, by decide +kernel⟩
abbrev s_l_mixed : Stmt := topS 29
abbrev n_l_mixed : List Str := ["_law_bag_here", "_law_things", "_law_found", "_law_thing"]
theorem sc_l_mixed : FnScope n_l_mixed ["_law_bag_here", "_law_things"] (defScope s_l_mixed) := ⟨rfl, rfl, rfl, by decide +kernel, rfl, by decide +kernel, by decide +kernel⟩
abbrev s_l_alike : Stmt := topS 30
abbrev n_l_alike : List Str := ["_law_found", "_law_due"]
theorem sc_l_alike : FnScope n_l_alike ["_law_found", "_law_due"] (defScope s_l_alike) := ⟨rfl, rfl, rfl, by decide +kernel, rfl, by decide +kernel, by decide +kernel⟩
abbrev s_l_is_int : Stmt := topS 31
abbrev n_l_is_int : List Str := ["_law_thing"]
theorem sc_l_is_int : FnScope n_l_is_int ["_law_thing"] (defScope s_l_is_int) := ⟨rfl, rfl, rfl, by decide +kernel, rfl, by decide +kernel, by decide +kernel⟩
abbrev s_l_later : Stmt := topS 32
abbrev n_l_later : List Str := ["_law_order", "_law_delay"]
theorem sc_l_later : FnScope n_l_later ["_law_order", "_law_delay"] (defScope s_l_later) := ⟨rfl, rfl, rfl, by decide +kernel, rfl, by decide +kernel, by decide +kernel⟩
abbrev s_l_not_above : Stmt := topS 33
abbrev n_l_not_above : List Str := ["_law_one", "_law_other"]
theorem sc_l_not_above : FnScope n_l_not_above ["_law_one", "_law_other"] (defScope s_l_not_above) := ⟨rfl, rfl, rfl, by decide +kernel, rfl, by decide +kernel, by decide +kernel⟩
abbrev s_l_lesser : Stmt := topS 34
abbrev n_l_lesser : List Str := ["_law_one", "_law_other"]
theorem sc_l_lesser : FnScope n_l_lesser ["_law_one", "_law_other"] (defScope s_l_lesser) := ⟨rfl, rfl, rfl, by decide +kernel, rfl, by decide +kernel, by decide +kernel⟩
abbrev s_l_least_order : Stmt := topS 35
abbrev n_l_least_order : List Str := ["_law_orders", "_law_found", "_law_order"]
theorem sc_l_least_order : FnScope n_l_least_order ["_law_orders"] (defScope s_l_least_order) := ⟨rfl, rfl, rfl, by decide +kernel, rfl, by decide +kernel, by decide +kernel⟩
abbrev s_l_first : Stmt := topS 36
abbrev n_l_first : List Str := ["_law_plan", "_law_wait", "_law_other", "_law_delay"]
theorem sc_l_first : FnScope n_l_first ["_law_plan", "_law_wait"] (defScope s_l_first) := ⟨rfl, rfl, rfl, by decide +kernel, rfl, by decide +kernel, by decide +kernel⟩
abbrev s_l_is_kept : Stmt := topS 37
abbrev n_l_is_kept : List Str := ["_law_plan", "_law_wait"]
theorem sc_l_is_kept : FnScope n_l_is_kept ["_law_plan", "_law_wait"] (defScope s_l_is_kept) := ⟨rfl, rfl, rfl, by decide +kernel, rfl, by decide +kernel, by decide +kernel⟩
abbrev s_l_keeps : Stmt := topS 38
abbrev n_l_keeps : List Str := ["_law_system", "_law_plan", "_law_wait"]
theorem sc_l_keeps : FnScope n_l_keeps ["_law_system", "_law_plan"] (defScope s_l_keeps) := ⟨rfl, rfl, rfl, by decide +kernel, rfl, by decide +kernel, by decide +kernel⟩
abbrev s_l_delays : Stmt := topS 39
abbrev n_l_delays : List Str := ["_law_system", "_law_found", "_law_event", "_law_options", "_law_other", "_law_delay"]
theorem sc_l_delays : FnScope n_l_delays ["_law_system"] (defScope s_l_delays) := ⟨rfl, rfl, rfl, by decide +kernel, rfl, by decide +kernel, by decide +kernel⟩
abbrev s_l_least_plan : Stmt := topS 40
abbrev n_l_least_plan : List Str := ["_law_system", "_law_plan", "_law_bound", "_law_is_more", "_law_wait", "_law_first_here"]
theorem sc_l_least_plan : FnScope n_l_least_plan ["_law_system"] (defScope s_l_least_plan) := ⟨rfl, rfl, rfl, by decide +kernel, rfl, by decide +kernel, by decide +kernel⟩
abbrev s_l_barred : Stmt := topS 41
abbrev n_l_barred : List Str := ["_law_system", "_law_plan", "_law_event"]
theorem sc_l_barred : FnScope n_l_barred ["_law_system"] (defScope s_l_barred) := ⟨rfl, rfl, rfl, by decide +kernel, rfl, by decide +kernel, by decide +kernel⟩
abbrev s_l_drawn_plan : Stmt := topS 42
abbrev n_l_drawn_plan : List Str := ["_law_bag_here", "_law_many", "_law_event"]
theorem sc_l_drawn_plan : FnScope n_l_drawn_plan ["_law_bag_here", "_law_many"] (defScope s_l_drawn_plan) := ⟨rfl, rfl, rfl, by decide +kernel, rfl, by decide +kernel, by decide +kernel⟩
abbrev s_l_bounds : Stmt := topS 43
abbrev n_l_bounds : List Str := ["_law_bag_here", "_law_least"]
theorem sc_l_bounds : FnScope n_l_bounds ["_law_bag_here", "_law_least"] (defScope s_l_bounds) := ⟨rfl, rfl, rfl, by decide +kernel, rfl, by decide +kernel, by decide +kernel⟩
abbrev s_l_any_side : Stmt := topS 44
abbrev n_l_any_side : List Str := ["_law_bag_here", "_law_many"]
theorem sc_l_any_side : FnScope n_l_any_side ["_law_bag_here", "_law_many"] (defScope s_l_any_side) := ⟨rfl, rfl, rfl, by decide +kernel, rfl, by decide +kernel, by decide +kernel⟩
abbrev s_l_any_row : Stmt := topS 45
abbrev n_l_any_row : List Str := ["_law_bag_here", "_law_many", "_law_size", "_law_sides", "_law_right", "_law_turn"]
theorem sc_l_any_row : FnScope n_l_any_row ["_law_bag_here", "_law_many"] (defScope s_l_any_row) := ⟨rfl, rfl, rfl, by decide +kernel, rfl, by decide +kernel, by decide +kernel⟩
abbrev s_l_any_table : Stmt := topS 46
abbrev n_l_any_table : List Str := ["_law_bag_here", "_law_many", "_law_most", "_law_turn"]
theorem sc_l_any_table : FnScope n_l_any_table ["_law_bag_here", "_law_many", "_law_most"] (defScope s_l_any_table) := ⟨rfl, rfl, rfl, by decide +kernel, rfl, by decide +kernel, by decide +kernel⟩
abbrev s_l_low_high : Stmt := topS 47
abbrev n_l_low_high : List Str := ["_law_sides", "_law_low", "_law_high", "_law_at", "_law_others", "_law_least", "_law_greatest"]
theorem sc_l_low_high : FnScope n_l_low_high ["_law_sides"] (defScope s_l_low_high) := ⟨rfl, rfl, rfl, by decide +kernel, rfl, by decide +kernel, by decide +kernel⟩
abbrev s_l_row_bounds : Stmt := topS 48
abbrev n_l_row_bounds : List Str := ["_law_many", "_law_row", "_law_found", "_law_unknown", "_law_side"]
theorem sc_l_row_bounds : FnScope n_l_row_bounds ["_law_many", "_law_row"] (defScope s_l_row_bounds) := ⟨rfl, rfl, rfl, by decide +kernel, rfl, by decide +kernel, by decide +kernel⟩
abbrev s_l_system_of : Stmt := topS 49
abbrev n_l_system_of : List Str := ["_law_table_here", "_law_waits", "_law_row", "_law_bounds_here", "_law_event", "_law_high", "_law_other"]
theorem sc_l_system_of : FnScope n_l_system_of ["_law_table_here"] (defScope s_l_system_of) := ⟨rfl, rfl, rfl, by decide +kernel, rfl, by decide +kernel, by decide +kernel⟩
abbrev s_l_do_stand : Stmt := topS 50
abbrev n_l_do_stand : List Str := ["_law_table_here", "_law_orders"]
theorem sc_l_do_stand : FnScope n_l_do_stand ["_law_table_here", "_law_orders"] (defScope s_l_do_stand) := ⟨rfl, rfl, rfl, by decide +kernel, rfl, by decide +kernel, by decide +kernel⟩
abbrev s_l_met_row : Stmt := topS 51
abbrev n_l_met_row : List Str := ["_law_bag_here", "_law_orders", "_law_row", "_law_many", "_law_bounds_here", "_law_at", "_law_event", "_law_low", "_law_high", "_law_options", "_law_other"]
theorem sc_l_met_row : FnScope n_l_met_row ["_law_bag_here", "_law_orders", "_law_row"] (defScope s_l_met_row) := ⟨rfl, rfl, rfl, by decide +kernel, rfl, by decide +kernel, by decide +kernel⟩
abbrev s_l_standing_table : Stmt := topS 52
abbrev n_l_standing_table : List Str := ["_law_bag_here", "_law_many", "_law_most", "_law_orders", "_law_rows", "_law_turn", "_law_sides", "_law_base", "_law_side", "_law_unknown", "_law_right", "_law_row"]
theorem sc_l_standing_table : FnScope n_l_standing_table ["_law_bag_here", "_law_many", "_law_most"] (defScope s_l_standing_table) := ⟨rfl, rfl, rfl, by decide +kernel, rfl, by decide +kernel, by decide +kernel⟩
abbrev s_l_own_sides : Stmt := topS 53
abbrev n_l_own_sides : List Str := ["_law_bag_here", "_law_own", "_law_high", "_law_is_told_here", "_law_is_twice", "_law_low", "_law_sides"]
theorem sc_l_own_sides : FnScope n_l_own_sides ["_law_bag_here", "_law_own", "_law_high", "_law_is_told_here", "_law_is_twice"] (defScope s_l_own_sides) := ⟨rfl, rfl, rfl, by decide +kernel, rfl, by decide +kernel, by decide +kernel⟩
abbrev s_l_silent_rows : Stmt := topS 54
abbrev n_l_silent_rows : List Str := ["_law_bag_here", "_law_many", "_law_is_told_here", "_law_is_twice", "_law_weights", "_law_owns", "_law_rows", "_law_own", "_law_high", "_law_sides", "_law_other", "_law_least", "_law_right", "_law_unknown"]
theorem sc_l_silent_rows : FnScope n_l_silent_rows ["_law_bag_here", "_law_many", "_law_is_told_here", "_law_is_twice"] (defScope s_l_silent_rows) := ⟨rfl, rfl, rfl, by decide +kernel, rfl, by decide +kernel, by decide +kernel⟩
abbrev s_l_silent_table : Stmt := topS 55
abbrev n_l_silent_table : List Str := ["_law_bag_here", "_law_many", "_law_is_told_here"]
theorem sc_l_silent_table : FnScope n_l_silent_table ["_law_bag_here", "_law_many", "_law_is_told_here"] (defScope s_l_silent_table) := ⟨rfl, rfl, rfl, by decide +kernel, rfl, by decide +kernel, by decide +kernel⟩
abbrev s_l_table : Stmt := topS 56
abbrev n_l_table : List Str := ["_law_bag_here", "_law_many", "_law_most", "_law_way", "_law_size", "_law_base", "_law_more"]
theorem sc_l_table : FnScope n_l_table ["_law_bag_here", "_law_many", "_law_most"] (defScope s_l_table) := ⟨rfl, rfl, rfl, by decide +kernel, rfl, by decide +kernel, by decide +kernel⟩
abbrev s_l_is_order : Stmt := topS 57
abbrev n_l_is_order : List Str := ["_law_thing"]
theorem sc_l_is_order : FnScope n_l_is_order ["_law_thing"] (defScope s_l_is_order) := ⟨rfl, rfl, rfl, by decide +kernel, rfl, by decide +kernel, by decide +kernel⟩
abbrev s_l_are_orders : Stmt := topS 58
abbrev n_l_are_orders : List Str := ["_law_table_here", "_law_thing", "_law_order"]
theorem sc_l_are_orders : FnScope n_l_are_orders ["_law_table_here", "_law_thing"] (defScope s_l_are_orders) := ⟨rfl, rfl, rfl, by decide +kernel, rfl, by decide +kernel, by decide +kernel⟩
abbrev s_l_bare : Stmt := topS 59
abbrev n_l_bare : List Str := ["_law_table_here", "_law_sides", "_law_right"]
theorem sc_l_bare : FnScope n_l_bare ["_law_table_here"] (defScope s_l_bare) := ⟨rfl, rfl, rfl, by decide +kernel, rfl, by decide +kernel, by decide +kernel⟩
abbrev s_l_barred_unknowns : Stmt := topS 60
abbrev n_l_barred_unknowns : List Str := ["_law_table_here", "_law_event"]
theorem sc_l_barred_unknowns : FnScope n_l_barred_unknowns ["_law_table_here"] (defScope s_l_barred_unknowns) := ⟨rfl, rfl, rfl, by decide +kernel, rfl, by decide +kernel, by decide +kernel⟩
abbrev s_l_turned : Stmt := topS 61
abbrev n_l_turned : List Str := ["_law_bag_here", "_law_table_here", "_law_rows", "_law_sides", "_law_right"]
theorem sc_l_turned : FnScope n_l_turned ["_law_bag_here", "_law_table_here"] (defScope s_l_turned) := ⟨rfl, rfl, rfl, by decide +kernel, rfl, by decide +kernel, by decide +kernel⟩
abbrev s_l_wider : Stmt := topS 62
abbrev n_l_wider : List Str := ["_law_bag_here", "_law_table_here", "_law_rows", "_law_at", "_law_sides", "_law_right", "_law_place", "_law_unknown", "_law_least", "_law_greatest", "_law_some_here"]
theorem sc_l_wider : FnScope n_l_wider ["_law_bag_here", "_law_table_here"] (defScope s_l_wider) := ⟨rfl, rfl, rfl, by decide +kernel, rfl, by decide +kernel, by decide +kernel⟩
abbrev s_l_is_told : Stmt := topS 63
abbrev n_l_is_told : List Str := ["_law_table_here", "_law_kept", "_law_barred_here", "_law_loud", "_law_due"]
theorem sc_l_is_told : FnScope n_l_is_told ["_law_table_here"] (defScope s_l_is_told) := ⟨rfl, rfl, rfl, by decide +kernel, rfl, by decide +kernel, by decide +kernel⟩
abbrev s_law : Stmt := topS 64
abbrev n_law : List Str := ["_law_script", "_law_bag_here", "_law_turn", "_law_many", "_law_table_here", "_law_wider_here", "_law_one"]
theorem sc_law : FnScope n_law ["_law_script"] (defScope s_law) := ⟨rfl, rfl, rfl, by decide +kernel, rfl, by decide +kernel, by decide +kernel⟩
end Zl
end
section
set_option maxHeartbeats 1000000
namespace Zl
open PySem PySem.Spec PyProof.Rows L2
section
variable {P : Program} {w : World} {K : PySem.W.Frag} {mg : Str → Option Value} {base : Heap}
/-! ### orders -/
def laterM (o : Option Int) (d : Int) : Option Int := o.map (· + d)
def naM : Option Int → Option Int → Bool
  | _, none => true
  | none, some _ => false
  | some i, some j => decide (i ≤ j)
def sp_later : Spz := fun ws q => ∃ (o : Option Int) (d : Int), ws = [.d (ordD o), .d (.int d)] ∧ q (.d (ordD (laterM o d)))
theorem ok_later (M : Mgz mg) (Dd : Vq.D1 K mg "later" s_later ["order", "delay"])  : ZCal P w K mg base 1 "later" sp_later := by
  refine zcal false Dd sc_later (fun ws q h => ?_) fun f cdv A outer s H E hG hr => ⟨_, (zb_one (zs_ret (z_if (zt_isN (zv 0) znon (nomark _)) znon (z_add (zv 0) (zv 1))))), fun ws Q0 h => ?_⟩
  · obtain ⟨o, d, rfl, _⟩ := h
    rfl
  · obtain ⟨o, d, rfl, q⟩ := h
    cases o <;> exact q
def sp_not_above : Spz := fun ws q => ∃ (a b : Option Int), ws = [.d (ordD a), .d (ordD b)] ∧ q (.d (.bool (naM a b)))
theorem ok_not_above (M : Mgz mg) (Dd : Vq.D1 K mg "not_above" s_not_above ["one", "other"])  : ZCal P w K mg base 1 "not_above" sp_not_above := by
  refine zcal false Dd sc_not_above (fun ws q h => ?_) fun f cdv A outer s H E hG hr => ⟨_, (zb_cons (zs_if (zt_isN (zv 1) znon (nomark _)) (zb_one (zs_ret zbl)) zb_nil)
      (zb_one (zs_ret (z_and (z_notN (zv 0) znon (nomark _)) (z_one (z_le (zv 0) (zv 1) (nomark _))))))), fun ws Q0 h => ?_⟩
  · obtain ⟨a, b, rfl, _⟩ := h
    rfl
  · obtain ⟨a, b, rfl, q⟩ := h
    cases a <;> cases b <;> exact q
end
end Zl
end
section
set_option maxHeartbeats 1000000
/-! zip of two tuples, walked by one name: the tuple that it hands out may be held, or not any more -/
namespace Vq
open PySem PySem.Spec PyProof.Rows L2 RZ
abbrev ZO (h : Heap) (z TI TO : Addr) (own : Value) (f : Bool) : Prop := h.get? z = some { cls := .type "zip", dict := none, data := .fields #[own, .bool f, .bool false, .ref TI, .ref TO], slots := #[] }
def OwnOk (v : Value) : Prop := v = .none ∨ ∃ T : Addr, v = rawInt T
section
variable {prog : Program} {w : World} {A : Around} {E : Value → Shared → Prop} {s : Shared}
theorem own_any {z TI TO : Addr} {own : Value} {f : Bool} {Q : Bool → Shared → Prop} (hz : ZO s.heap z TI TO own f) (ho : OwnOk own) (h1 : Q true s)
    (h2 : ∀ h', ZO h' z TI TO own true → Heap.SameBut z s.heap h' → Q false { s with heap := h' }) : wpAny (model prog w) A (Builtin.SmallTypes.ownedTupleIsFree (.ref z)) Q E s := by
  rcases ho with rfl | ⟨T, rfl⟩
  · unfold Builtin.SmallTypes.ownedTupleIsFree; exact wpAny_bind (wpAny_field hz rfl (x := .none) rfl (wpAny_pure h1))
  · cases hT : s.heap.get? T with
    | some oT => exact wpAny_tupleHeld_zip hz hT h2
    | none =>
      unfold Builtin.SmallTypes.ownedTupleIsFree; refine wpAny_bind (wpAny_field hz rfl (x := rawInt T) rfl ?_)
      show wpAny _ _ (loadIfAlive ((T : Int).toNat) >>= _) _ _ _; rw [Int.toNat_natCast]
      have al : wpAny (model prog w) A (loadIfAlive T) (fun o s' => o = none ∧ s' = s) E s := fun Γ p hΓ => by
        show Sem.wp _ _ (loadIfAlive T) _ _ _ _
        unfold loadIfAlive
        rw [Sem.wp_loadIfAlive, hT]
        exact ⟨rfl, rfl⟩
      refine wpAny_bind (wpAny_mono al (fun o s' q => ?_) fun _ _ q => q)
      obtain ⟨rfl, rfl⟩ := q
      simp only [Option.isNone_none, if_true]
      exact wpAny_pure h1
/-- what a turn leaves -/
structure ZSt (h : Heap) (z TI TO i1 i2 l1 l2 : Addr) (k1 k2 : Nat) : Prop where
  zo : ∃ own f, OwnOk own ∧ ZO h z TI TO own f
  ti : IsPair h TI (.ref i1) (.ref i2)
  to : ∃ a b, IsPair h TO a b
  n1 : h.IsTupleIter i1 l1 k1
  n2 : h.IsTupleIter i2 l2 k2
theorem zipN_item {z TI TO i1 i2 l1 l2 : Addr} {k1 k2 : Nat} {xs ys : Array Value} {x y : Value} {Q : Value → Shared → Prop} (D : ZipApart z TI TO i1 i2 l1 l2)
    (S : ZSt s.heap z TI TO i1 i2 l1 l2 k1 k2) (hl1 : s.heap.IsTuple l1 xs) (hl2 : s.heap.IsTuple l2 ys) (hx : xs[k1]? = some x) (hy : ys[k2]? = some y)
    (hQ : ∀ h', ZSt h' z TI TO i1 i2 l1 l2 (k1 + 1) (k2 + 1) → IsPair h' s.heap.objs.size x y → h'.objs.size = s.heap.objs.size + 1 →
      (∀ c o, c ≠ z → c ≠ TO → c ≠ i1 → c ≠ i2 → s.heap.get? c = some o → h'.get? c = some o) → Q (.ref s.heap.objs.size) { s with heap := h' }) :
    wpAny (model prog w) A (Builtin.«zip.__next__» ⟨[.ref z], []⟩) (fun fin s' => ∃ v, fin = .done (.ret v) ∧ Q v s') E s := by
  obtain ⟨⟨own, f, ho, hz⟩, hTI, ⟨a, b, hTO⟩, h1, h2⟩ := S
  show wpAny _ _ (field (.ref z) 2 >>= _) _ _ _; refine wpAny_bind (wpAny_field hz rfl (x := .bool false) rfl ?_)
  show wpAny _ _ (field (.ref z) 3 >>= _) _ _ _; refine wpAny_bind (wpAny_field hz rfl (x := .ref TI) rfl ?_)
  refine wpAny_bind (wpAny_seqItems hTI rfl ?_); show wpAny _ _ (Builtin.SmallTypes.ownedTupleIsFree (.ref z) >>= _) _ _ _
  refine wpAny_bind (own_any hz ho ?_ fun g1 z1 b1 => ?_)
  · -- the tuple is free
    simp only [if_true]; refine wpAny_bind (wpAny_rule ?_); refine wpAny_bind (wpAny_field hz rfl (x := .ref TO) rfl ?_)
    refine wpAny_bind (wpAny_setField_rec hz (by simp) fun g1 z1 b1 => ?_); replace z1 : ZO g1 z TI TO .ellipsis f := z1
    refine wpAny_bind ?_; simp only [List.zipIdx_cons, List.zipIdx_nil, List.forIn_cons, List.forIn_nil]
    refine wpAny_bind (wpAny_bind (wpAny_onRaise ?_)); show wpAny _ _ (Builtin.SmallTypes.nextOf (.ref i1) >>= _) _ _ _
    refine wpAny_bind (nextOf_tuple_item (h1.extBut b1.extBut D.i1z) (hl1.extBut b1.extBut D.l1z) hx fun g2 n1 b2 => wpAny_pure ?_)
    have t2 : IsPair g2 TO a b := b2.extBut _ _ D.TOi1 (b1.extBut _ _ D.TOz hTO)
    refine wpAny_bind (wpAny_seqItems t2 rfl ?_); refine wpAny_bind (wpAny_updateSeq_pair t2 fun g3 t3 b3 => ?_); replace t3 : IsPair g3 TO x b := t3
    refine wpAny_bind (wpAny_letGo (wpAny_pure ?_)); refine wpAny_bind (wpAny_bind (wpAny_onRaise ?_)); show wpAny _ _ (Builtin.SmallTypes.nextOf (.ref i2) >>= _) _ _ _
    have n2' := ((h2.extBut b1.extBut D.i2z).extBut b2.extBut D.i12.symm).extBut b3.extBut D.TOi2.symm
    have l2' := ((hl2.extBut b1.extBut D.l2z).extBut b2.extBut D.l2i1).extBut b3.extBut D.l2TO
    refine wpAny_bind (nextOf_tuple_item n2' l2' hy fun g4 n2 b4 => wpAny_pure ?_)
    have t4 : IsPair g4 TO x b := b4.extBut _ _ D.TOi2 t3
    refine wpAny_bind (wpAny_seqItems t4 rfl ?_); refine wpAny_bind (wpAny_updateSeq_pair t4 fun g5 t5 b5 => ?_); replace t5 : IsPair g5 TO x y := t5
    refine wpAny_bind (wpAny_letGo (wpAny_pure (wpAny_pure ?_))); refine wpAny_bind (wpAny_seqItems t5 rfl ?_); refine wpAny_bind (wpAny_newTuple ?_)
    have sz : g5.objs.size = s.heap.objs.size := by rw [b5.1, b4.1, b3.1, b2.1, b1.1]
    have z5 : ZO g5 z TI TO .ellipsis f := b5.extBut _ _ D.TOz.symm (b4.extBut _ _ D.i2z.symm (b3.extBut _ _ D.TOz.symm (b2.extBut _ _ D.i1z.symm z1)))
    have k5 : ∀ c o, c ≠ z → c ≠ TO → c ≠ i1 → c ≠ i2 → s.heap.get? c = some o → g5.get? c = some o := fun c o c1 c2 c3 c4 e =>
      b5.extBut _ _ c2 (b4.extBut _ _ c4 (b3.extBut _ _ c2 (b2.extBut _ _ c3 (b1.extBut _ _ c1 e))))
    have m1 : g5.IsTupleIter i1 l1 (k1 + 1) := ((n1.extBut b3.extBut D.TOi1.symm).extBut b4.extBut D.i12).extBut b5.extBut D.TOi1.symm
    have m2 : g5.IsTupleIter i2 l2 (k2 + 1) := n2.extBut b5.extBut D.TOi2.symm
    have zl : z < g5.objs.size := Heap.lt_size z5
    show wpAny _ _ (Builtin.SmallTypes.ownedTupleHandOut (.ref z) (.ref g5.objs.size) >>= _) _ _ _; refine wpAny_bind ?_; unfold Builtin.SmallTypes.ownedTupleHandOut
    have z6 : ZO (g5.push { cls := .type "tuple", data := .seq #[x, y] }) z TI TO .ellipsis f := Heap.get?_push_of_some _ z5
    refine wpAny_bind (wpAny_setField_rec z6 (by simp) fun g7 z7 b7 => ?_); replace z7 : ZO g7 z TI TO (rawInt g5.objs.size) f := z7
    refine wpAny_setField_rec z7 (by simp) fun g8 z8 b8 => ?_; replace z8 : ZO g8 z TI TO (rawInt g5.objs.size) false := z8
    have up : ∀ c o, c ≠ z → g5.get? c = some o → g8.get? c = some o := fun c o c1 e => b8.extBut _ _ c1 (b7.extBut _ _ c1 (Heap.get?_push_of_some _ e))
    have p8 : IsPair g8 g5.objs.size x y := b8.extBut _ _ (Nat.ne_of_gt zl) (b7.extBut _ _ (Nat.ne_of_gt zl) (Heap.get?_push_size _ rfl))
    have s8 : g8.objs.size = g5.objs.size + 1 := by rw [b8.1, b7.1, Heap.size_push]
    rw [sz] at p8 s8; refine wpAny_pure ⟨_, rfl, ?_⟩; show Q (.ref g5.objs.size) _; rw [sz]
    refine hQ g8 ⟨⟨_, _, .inr ⟨_, rfl⟩, z8⟩, up _ _ D.TIz (k5 _ _ D.TIz D.TITO D.TIi1 D.TIi2 hTI), ⟨_, _, up _ _ D.TOz t5⟩, m1.at fun o e => up _ o D.i1z e, m2.at fun o e => up _ o D.i2z e⟩ p8 s8 fun c o c1 c2 c3 c4 e => ?_
    exact up c o c1 (k5 c o c1 c2 c3 c4 e)
  · -- it is held
    simp only [Bool.false_eq_true, if_false]; refine wpAny_bind ?_; rw [← Array.forIn_toList]; simp only [List.forIn_cons, List.forIn_nil]
    refine wpAny_bind (wpAny_bind (wpAny_holding ?_)); show wpAny _ _ (Builtin.SmallTypes.nextOf (.ref i1) >>= _) _ _ _
    refine wpAny_bind (nextOf_tuple_item (s := { s with heap := g1 }) (h1.extBut b1.extBut D.i1z) (hl1.extBut b1.extBut D.l1z) hx fun g2 n1 b2 => wpAny_pure ?_)
    refine wpAny_pure ?_; refine wpAny_bind (wpAny_bind (wpAny_holding ?_)); show wpAny _ _ (Builtin.SmallTypes.nextOf (.ref i2) >>= _) _ _ _
    refine wpAny_bind (nextOf_tuple_item (s := { s with heap := g2 }) ((h2.extBut b1.extBut D.i2z).extBut b2.extBut D.i12.symm) ((hl2.extBut b1.extBut D.l2z).extBut b2.extBut D.l2i1) hy fun g3 n2 b3 => wpAny_pure ?_)
    refine wpAny_pure (wpAny_pure ?_); show wpAny _ _ (newTuple [x, y] >>= _) _ _ _; refine wpAny_bind (wpAny_newTuple ?_)
    have sz : g3.objs.size = s.heap.objs.size := by rw [b3.1, b2.1, b1.1]
    have z3 : ZO g3 z TI TO own true := b3.extBut _ _ D.i2z.symm (b2.extBut _ _ D.i1z.symm z1)
    have k3 : ∀ c o, c ≠ z → c ≠ i1 → c ≠ i2 → s.heap.get? c = some o → g3.get? c = some o := fun c o c1 c2 c3 e => b3.extBut _ _ c3 (b2.extBut _ _ c2 (b1.extBut _ _ c1 e))
    have m1 : g3.IsTupleIter i1 l1 (k1 + 1) := n1.extBut b3.extBut D.i12
    refine wpAny_pure ⟨_, rfl, ?_⟩; show Q (.ref g3.objs.size) _
    have hp : IsPair (g3.push { cls := .type "tuple", data := .seq #[x, y] }) g3.objs.size x y := Heap.get?_push_size _ rfl
    have s4 : (g3.push { cls := .type "tuple", data := .seq #[x, y] }).objs.size = g3.objs.size + 1 := Heap.size_push ..
    rw [sz] at hp s4 ⊢
    have pu : ∀ c o, g3.get? c = some o → (g3.push { cls := .type "tuple", data := .seq #[x, y] }).get? c = some o := fun c o e => Heap.get?_push_of_some _ e
    refine hQ _ ⟨⟨_, _, ho, pu _ _ z3⟩, pu _ _ (k3 _ _ D.TIz D.TIi1 D.TIi2 hTI), ⟨_, _, pu _ _ (k3 _ _ D.TOz D.TOi1 D.TOi2 hTO)⟩, m1.at fun o e => pu _ o e, n2.at fun o e => pu _ o e⟩ hp s4 fun c o c1 c2 c3 c4 e => ?_
    exact pu c o (k3 c o c1 c3 c4 e)
theorem zipN_end {z TI TO i1 i2 l1 l2 : Addr} {k1 k2 : Nat} {xs ys : Array Value} {Q : Fin → Shared → Prop} (hh : A.handled = none) (D : ZipApart z TI TO i1 i2 l1 l2)
    (S : ZSt s.heap z TI TO i1 i2 l1 l2 k1 k2) (hl1 : s.heap.IsTuple l1 xs) (hl2 : s.heap.IsTuple l2 ys) (hend : xs[k1]? = none ∨ ys[k2]? = none)
    (hE : ∀ h' e, (∀ c o, c ≠ z → c ≠ TO → c ≠ i1 → c ≠ i2 → s.heap.get? c = some o → h'.get? c = some o) → (∃ o, h'.get? e = some o ∧ o.cls = .type "StopIteration") → E (.ref e) { s with heap := h' }) :
    wpAny (model prog w) A (Builtin.«zip.__next__» ⟨[.ref z], []⟩) Q E s := by
  obtain ⟨⟨own, f, ho, hz⟩, hTI, ⟨a, b, hTO⟩, h1, h2⟩ := S
  show wpAny _ _ (field (.ref z) 2 >>= _) _ _ _; refine wpAny_bind (wpAny_field hz rfl (x := .bool false) rfl ?_)
  show wpAny _ _ (field (.ref z) 3 >>= _) _ _ _; refine wpAny_bind (wpAny_field hz rfl (x := .ref TI) rfl ?_)
  refine wpAny_bind (wpAny_seqItems hTI rfl ?_); show wpAny _ _ (Builtin.SmallTypes.ownedTupleIsFree (.ref z) >>= _) _ _ _
  refine wpAny_bind (own_any hz ho ?_ fun g1 z1 b1 => ?_)
  · simp only [if_true]; refine wpAny_bind (wpAny_rule ?_); refine wpAny_bind (wpAny_field hz rfl (x := .ref TO) rfl ?_)
    refine wpAny_bind (wpAny_setField_rec hz (by simp) fun g1 z1 b1 => ?_); replace z1 : ZO g1 z TI TO .ellipsis f := z1
    refine wpAny_bind ?_; simp only [List.zipIdx_cons, List.zipIdx_nil, List.forIn_cons, List.forIn_nil]
    refine wpAny_bind (wpAny_bind (wpAny_onRaise ?_)); show wpAny _ _ (Builtin.SmallTypes.nextOf (.ref i1) >>= _) _ _ _
    cases hx : xs[k1]? with
    | none =>
      refine wpAny_bind (nextOf_tuple_end hh (h1.extBut b1.extBut D.i1z) (hl1.extBut b1.extBut D.l1z) hx fun g2 e b2 he => ?_)
      obtain ⟨oe, hoe, hce⟩ := he
      have z2 : ZO g2 z TI TO .ellipsis f := b2 _ _ D.i1z.symm z1
      have ne : e ≠ z := fun q => by
        rw [q, z2] at hoe
        cases hoe
        simp at hce
      exact wpAny_setField_rec z2 (by simp) fun g3 _ b3 => hE g3 e (fun c o c1 _ c3 _ q => b3.extBut _ _ c1 (b2 _ _ c3 (b1.extBut _ _ c1 q))) ⟨oe, b3.extBut _ _ ne hoe, hce⟩
    | some x =>
      have hy : ys[k2]? = none := by
        rcases hend with h | h
        · rw [hx] at h; cases h
        · exact h
      refine wpAny_bind (nextOf_tuple_item (h1.extBut b1.extBut D.i1z) (hl1.extBut b1.extBut D.l1z) hx fun g2 n1 b2 => wpAny_pure ?_)
      have t2 : IsPair g2 TO a b := b2.extBut _ _ D.TOi1 (b1.extBut _ _ D.TOz hTO)
      refine wpAny_bind (wpAny_seqItems t2 rfl ?_); refine wpAny_bind (wpAny_updateSeq_pair t2 fun g3 t3 b3 => ?_)
      refine wpAny_bind (wpAny_letGo (wpAny_pure ?_)); refine wpAny_bind (wpAny_bind (wpAny_onRaise ?_)); show wpAny _ _ (Builtin.SmallTypes.nextOf (.ref i2) >>= _) _ _ _
      have n2' := ((h2.extBut b1.extBut D.i2z).extBut b2.extBut D.i12.symm).extBut b3.extBut D.TOi2.symm
      have l2' := ((hl2.extBut b1.extBut D.l2z).extBut b2.extBut D.l2i1).extBut b3.extBut D.l2TO
      refine wpAny_bind (nextOf_tuple_end hh n2' l2' hy fun g4 e b4 he => ?_)
      obtain ⟨oe, hoe, hce⟩ := he
      have z4 : ZO g4 z TI TO .ellipsis f := b4 _ _ D.i2z.symm (b3.extBut _ _ D.TOz.symm (b2.extBut _ _ D.i1z.symm z1))
      have ne : e ≠ z := fun q => by
        rw [q, z4] at hoe
        cases hoe
        simp at hce
      exact wpAny_setField_rec z4 (by simp) fun g5 _ b5 => hE g5 e (fun c o c1 c2 c3 c4 q => b5.extBut _ _ c1 (b4 _ _ c4 (b3.extBut _ _ c2 (b2.extBut _ _ c3 (b1.extBut _ _ c1 q))))) ⟨oe, b5.extBut _ _ ne hoe, hce⟩
  · simp only [Bool.false_eq_true, if_false]; refine wpAny_bind ?_; rw [← Array.forIn_toList]; simp only [List.forIn_cons, List.forIn_nil]
    refine wpAny_bind (wpAny_bind (wpAny_holding ?_)); show wpAny _ _ (Builtin.SmallTypes.nextOf (.ref i1) >>= _) _ _ _
    cases hx : xs[k1]? with
    | none =>
      refine wpAny_bind (nextOf_tuple_end (s := { s with heap := g1 }) hh (h1.extBut b1.extBut D.i1z) (hl1.extBut b1.extBut D.l1z) hx fun g2 e b2 he => ?_)
      exact hE g2 e (fun c o c1 _ c3 _ q => b2 _ _ c3 (b1.extBut _ _ c1 q)) he
    | some x =>
      have hy : ys[k2]? = none := by
        rcases hend with h | h
        · rw [hx] at h; cases h
        · exact h
      refine wpAny_bind (nextOf_tuple_item (s := { s with heap := g1 }) (h1.extBut b1.extBut D.i1z) (hl1.extBut b1.extBut D.l1z) hx fun g2 n1 b2 => wpAny_pure ?_)
      refine wpAny_pure ?_; refine wpAny_bind (wpAny_bind (wpAny_holding ?_)); show wpAny _ _ (Builtin.SmallTypes.nextOf (.ref i2) >>= _) _ _ _
      refine wpAny_bind (nextOf_tuple_end (s := { s with heap := g2 }) hh ((h2.extBut b1.extBut D.i2z).extBut b2.extBut D.i12.symm) ((hl2.extBut b1.extBut D.l2z).extBut b2.extBut D.l2i1) hy fun g3 e b3 he => ?_)
      exact hE g3 e (fun c o c1 _ c3 c4 q => b3 _ _ c4 (b2.extBut _ _ c3 (b1.extBut _ _ c1 q))) he
theorem zipN_nextI {z TI TO i1 i2 l1 l2 : Addr} {k1 k2 : Nat} {xs ys : Array Value} {x y : Value} {Q : Option Value → Shared → Prop} (D : ZipApart z TI TO i1 i2 l1 l2)
    (S : ZSt s.heap z TI TO i1 i2 l1 l2 k1 k2) (hl1 : s.heap.IsTuple l1 xs) (hl2 : s.heap.IsTuple l2 ys) (hx : xs[k1]? = some x) (hy : ys[k2]? = some y)
    (hQ : ∀ h', ZSt h' z TI TO i1 i2 l1 l2 (k1 + 1) (k2 + 1) → IsPair h' s.heap.objs.size x y → h'.objs.size = s.heap.objs.size + 1 →
      (∀ c o, c ≠ z → c ≠ TO → c ≠ i1 → c ≠ i2 → s.heap.get? c = some o → h'.get? c = some o) → Q (some (.ref s.heap.objs.size)) { s with heap := h' }) : wpAny (model prog w) A (pyNext (.ref z)) Q E s := by
  obtain ⟨own, f, _, hz⟩ := S.zo
  have hT : s.TypeIs (.ref z) "zip" := ⟨_, hz, rfl⟩
  unfold pyNext
  refine wpAny_bind (wpAny_attempt (wpAny_callSpecial?_slot (name := Str.ofString "__next__") hT F.slot_zip_next (wpAny_call_entry F.slot_zip_next hT F.entry_zip_next ?_ (F.args_zip_next_1 _))))
  exact zipN_item D S hl1 hl2 hx hy fun h' a b c d => wpAny_pure (hQ h' a b c d)
theorem zipN_nextE {z TI TO i1 i2 l1 l2 : Addr} {k1 k2 : Nat} {xs ys : Array Value} {Q : Option Value → Shared → Prop} (hh : A.handled = none) (D : ZipApart z TI TO i1 i2 l1 l2)
    (S : ZSt s.heap z TI TO i1 i2 l1 l2 k1 k2) (hl1 : s.heap.IsTuple l1 xs) (hl2 : s.heap.IsTuple l2 ys) (hend : xs[k1]? = none ∨ ys[k2]? = none)
    (hQ : ∀ h', (∀ c o, c ≠ z → c ≠ TO → c ≠ i1 → c ≠ i2 → s.heap.get? c = some o → h'.get? c = some o) → Q none { s with heap := h' }) : wpAny (model prog w) A (pyNext (.ref z)) Q E s := by
  obtain ⟨own, f, _, hz⟩ := S.zo
  have hT : s.TypeIs (.ref z) "zip" := ⟨_, hz, rfl⟩
  unfold pyNext
  refine wpAny_bind (wpAny_attempt (wpAny_callSpecial?_slot (name := Str.ofString "__next__") hT F.slot_zip_next (wpAny_call_entry F.slot_zip_next hT F.entry_zip_next (zipN_end hh D S hl1 hl2 hend fun h' e hk he => ?_) (F.args_zip_next_1 _))))
  obtain ⟨o, ho, hc⟩ := he
  exact wpAny_bind (wpAny_isInstance (T := "StopIteration") (b := true) ⟨o, ho, hc⟩ isSubtype_stop (wpAny_pure (hQ _ hk)))
theorem zipN_self {z TI TO : Addr} {own : Value} {f : Bool} {Q : Value → Shared → Prop} (hz : ZO s.heap z TI TO own f) (h : Q (.ref z) s) : wpAny (model prog w) A (pyIter (.ref z)) Q E s := by
  have hT : s.TypeIs (.ref z) "zip" := ⟨_, hz, rfl⟩
  refine wpAny_pyIter_slot hT F.slot_zip_iter (wpAny_call_entry F.slot_zip_iter hT F.entry_zip_iter ?_ (F.args_zip_iter_1 _))
  exact wpAny_pure ⟨_, rfl, "zip", _, hT, F.slot_zip_next.lookup, h⟩
end
theorem turn_zipN {P : Program} {w : World} {K : PySem.W.Frag} {nm : Str} {tpos : Pos} {a b z TI TO i1 i2 : Addr} (D : ZipApart z TI TO i1 i2 a b) :
    Turn P w K (.Name nm tpos) (ItzT K a b) [z, TI, TO, i1, i2] z (fun i h => ZSt h z TI TO i1 i2 a b i i) where
  mem := by simp
  obj := fun i h S c hc => by
    obtain ⟨⟨own, f, _, hz⟩, hTI, ⟨x, y, hTO⟩, ⟨o1, e1, _, d1⟩, ⟨o2, e2, _, d2⟩⟩ := S
    simp only [List.mem_cons, List.not_mem_nil, or_false] at hc
    rcases hc with q | q | q | q | q <;> rw [q]
    · exact ⟨_, hz, fun v q => nomatch q⟩
    · exact ⟨_, hTI, fun v q => nomatch q⟩
    · exact ⟨_, hTO, fun v q => nomatch q⟩
    · exact ⟨o1, e1, fun v q => by rw [d1] at q; cases q⟩
    · exact ⟨o2, e2, fun v q => by rw [d2] at q; cases q⟩
  keep := fun i h h' S k => by
    obtain ⟨⟨own, f, ho, hz⟩, hTI, ⟨x, y, hTO⟩, h1, h2⟩ := S
    exact ⟨⟨own, f, ho, k z (by simp) _ hz⟩, k TI (by simp) _ hTI, ⟨x, y, k TO (by simp) _ hTO⟩, h1.at fun o q => k i1 (by simp) o q, h2.at fun o q => k i2 (by simp) o q⟩
  item := by
    intro X hP hw hK hc i pins s σ H E I hf S hg
    subst hP hw hK
    obtain ⟨xs, ys, x, y, hqx, hqy, hx, hy⟩ := hg
    obtain ⟨its, rv, p, _⟩ := I.tuple hqx
    obtain ⟨its2, rv2, p2, _⟩ := I.tuple hqy
    obtain ⟨u, hu, ru⟩ := rv.get hx
    obtain ⟨u2, hu2, ru2⟩ := rv2.get hy
    refine zipN_nextI D S p p2 (x := u) (y := u2) (by simpa using hu) (by simpa using hu2) fun h' S' hT hsz hk => ⟨_, rfl, ?_⟩
    show wpAny _ _ (pure ()) _ _ _
    have new : ObjOk X.prog X.w (upd H s.heap.objs.size (.tup [x, y])) h' s.heap.objs.size (.tup [x, y]) := ⟨by show 2 ≤ sizeLine; decide, [u, u2], .cons ru (.cons ru2 .nil), ⟨_, hT, rfl, _, rfl⟩⟩
    have I1 : Inv X pins σ (upd H s.heap.objs.size (.tup [x, y])) { s with heap := h' } :=
      I.turnedNew (t' := s.toks) (ch := [z, TI, TO, i1, i2]) (fun c o hb q => by
        simp only [List.mem_cons, List.not_mem_nil, or_false, not_or] at hb
        exact hk c o hb.1 hb.2.2.1 hb.2.2.2.1 hb.2.2.2.2 q) hf (Nat.le_refl _) new
    refine wpAny_pure ⟨.ref s.heap.objs.size, _, I1, rfl, ⟨_, x, y, rfl, I.hok.fresh (Nat.le_refl _), rfl, fun l hl => by rw [I.tuple_inj hl hqx]; exact hx, fun l hl => by rw [I.tuple_inj hl hqy]; exact hy⟩, S', fun c hcm => ?_⟩
    have hlt : c < s.heap.objs.size := by
      obtain ⟨⟨own, f, _, hz⟩, hTI, ⟨x, y, hTO⟩, ⟨o1, e1, _, d1⟩, ⟨o2, e2, _, d2⟩⟩ := S
      have hc2 := hcm
      simp only [List.mem_cons, List.not_mem_nil, or_false] at hc2
      rcases hc2 with q | q | q | q | q <;> rw [q]
      · exact Heap.lt_size hz
      · exact Heap.lt_size hTI
      · exact Heap.lt_size hTO
      · exact Heap.lt_size e1
      · exact Heap.lt_size e2
    rw [upd_ne (Nat.ne_of_lt hlt)]
    exact (hf c hcm).1
  done := by
    intro X hP hw hK hc i pins s σ H E I hf S hg
    subst hP hw hK
    obtain ⟨xs, ys, hqx, hqy, hend⟩ := hg
    obtain ⟨its, rv, p, _⟩ := I.tuple hqx
    obtain ⟨its2, rv2, p2, _⟩ := I.tuple hqy
    have l1 := rv.length
    have l2 := rv2.length
    have he : its.toArray[i]? = none ∨ its2.toArray[i]? = none := by
      rcases hend with q | q
      · exact .inl (by simp; omega)
      · exact .inr (by simp; omega)
    refine zipN_nextE (I.ok.hd hc) D S p p2 he fun h' hk => ⟨rfl, I.turnedL (t' := s.toks) (ch := [z, TI, TO, i1, i2]) (fun c o hb q => ?_) hf⟩
    simp only [List.mem_cons, List.not_mem_nil, or_false, not_or] at hb
    exact hk c o hb.1 hb.2.2.1 hb.2.2.2.1 hb.2.2.2.2 q
  self := fun A i s Q E S h => by
    obtain ⟨own, f, _, hz⟩ := S.zo
    exact zipN_self hz h
def iZipN (K : PySem.W.Frag) (ta : TA) : TI := fun σ H R => ta σ H fun vs H1 => ∃ a b xs ys, vs = [.ref a, .ref b] ∧ SqT K H1 a xs ∧ SqT K H1 b ys ∧ R (ItzT K a b) H1
theorem pi_zipN {X : Cx} {e e2 : Expr} {ta : TA} {p pos tpos : Pos} {nm : Str} (hg : Gl X "zip") (hm : X.mg "zip" = none) (ha : PA X [e, e2] ta)
    (hs : starEach [e, e2] X.env = (false, eval e X.env) :: starEach [e2] X.env := by rfl) (hpl : (backTo pos (starEach [e2] X.env)).any (·.1) = false := by rfl) :
    PI X (.Name nm tpos) (.Call (.Name "zip" p) [e, e2] [] pos) (iZipN X.K ta) := by
  constructor
  intro pins s σ H R I h
  refine Call_ (ld_blt I hg hm PyProof.Rows.boot_zip (PyProof.Rows.callWith_type1 (thn (ha.run pos pins s σ H _ I h) ?_) hs hpl))
  rintro us s1 ⟨vs, H1, I1, r1, a, b, xs, ys, rfl, hqx, hqy, q⟩
  obtain ⟨u, u', rfl, ra, rb⟩ := vals2 r1
  cases ra
  cases rb
  have fr5 : ∀ c, c ∈ [s1.heap.objs.size + 4, s1.heap.objs.size + 2, s1.heap.objs.size + 3, s1.heap.objs.size, s1.heap.objs.size + 1] → FpOk X pins H1 c := fun c hc => by
    have hle : s1.heap.objs.size ≤ c := by
      simp only [List.mem_cons, List.not_mem_nil, or_false] at hc
      rcases hc with q | q | q | q | q <;> rw [q] <;> first | exact Nat.le_add_right _ _ | exact Nat.le_refl _
    exact I1.fpOk hle (I1.hok.fresh hle)
  obtain ⟨its, rv, p1, _⟩ := I1.tuple hqx
  obtain ⟨its2, rv2, p2, _⟩ := I1.tuple hqy
  obtain ⟨o1, ho1, _⟩ := id p1
  obtain ⟨o2, ho2, _⟩ := id p2
  refine call_zipT p1 p2 fun h' hz hTI hTO h1 h2 hsz hk => wpAny_pyIter_zip hz ?_
  have I2 : Inv X pins σ H1 { s1 with heap := h' } := I1.kept (t' := s1.toks) hk
  exact ⟨_, [s1.heap.objs.size + 4, s1.heap.objs.size + 2, s1.heap.objs.size + 3, s1.heap.objs.size, s1.heap.objs.size + 1], _, _, H1, rfl, I2, turn_zipN (PySem.W.ktu_apart s1.heap.objs.size a b (Heap.lt_size ho1) (Heap.lt_size ho2)), ⟨⟨_, _, .inl rfl, hz⟩, hTI, ⟨_, _, hTO⟩, h1, h2⟩, fr5, q⟩
/-- the reading of a comprehension over such a zip -/
theorem lc_zipT {K : PySem.W.Frag} {a b : Addr} {xs ys : List V} {g : TG} {tt : TT} {te : TE} {vs : List Nat} {σ : L2.St} {H1 : Hp} {D : Addr} {Qd : Hp → Prop} (hl : xs.length = ys.length) (Pv : Nat → Hp → Prop) (h0 : Pv 0 (upd H1 D (.lst []))) (hq : ∀ i H, Pv i H → SqT K H a xs ∧ SqT K H b ys)
    (hs : ∀ i x y T H, xs[i]? = some x → ys[i]? = some y → Pv i H → H T = none → g (.ref T) (wipe σ vs) (upd H T (.tup [x, y])) fun σ2 H2 => wipe σ2 vs = wipe σ vs ∧ tt σ2 H2 fun c H3 =>
      if c = true then te σ2 H3 fun z H4 => ∃ acc, H4 D = some (.lst acc) ∧ acc.length < sizeLine ∧ Pv (i + 1) (upd H4 D (.lst (acc ++ [z]))) else Pv (i + 1) H3) (hd : ∀ H, Pv xs.length H → Qd H) :
    ∃ W : Nat → Nat → Hp → Prop, (∃ m, W 0 m (upd H1 D (.lst []))) ∧ ∀ i m H, W i m H →
      ((ItzT K a b).stop i H ∧ Qd H) ∨ ((ItzT K a b).go i H ∧ ∃ Nx : Hp → Prop, (∀ H', Nx H' → ∃ m', m' < m ∧ W (i + 1) m' H') ∧ ∀ x H', (ItzT K a b).yld i H x H' → g x (wipe σ vs) H' fun σ2 H2 => wipe σ2 vs = wipe σ vs ∧ tt σ2 H2 fun c H3 =>
        if c = true then te σ2 H3 fun z H4 => ∃ acc, H4 D = some (.lst acc) ∧ acc.length < sizeLine ∧ Nx (upd H4 D (.lst (acc ++ [z]))) else Nx H3) := by
  refine ⟨fun i m H => m = xs.length - i ∧ i ≤ xs.length ∧ Pv i H, ⟨xs.length, rfl, Nat.zero_le _, h0⟩, ?_⟩
  rintro i m H ⟨rfl, hi, p⟩
  obtain ⟨qx, qy⟩ := hq i H p
  by_cases hlt : i < xs.length
  · have hlt2 : i < ys.length := by omega
    refine .inr ⟨⟨xs, ys, xs[i], ys[i], qx, qy, List.getElem?_eq_getElem hlt, List.getElem?_eq_getElem hlt2⟩, Pv (i + 1), fun H' p' => ⟨xs.length - (i + 1), by omega, rfl, hlt, p'⟩, fun x H' yl => ?_⟩
    obtain ⟨T, x, y, rfl, hT, rfl, f1, f2⟩ := yl
    exact hs i x y T H (f1 _ qx) (f2 _ qy) p hT
  · have e : i = xs.length := by omega
    subst e
    exact .inl ⟨⟨xs, ys, qx, qy, .inl (Nat.le_refl _)⟩, hd H p⟩
end Vq
end
section
set_option maxHeartbeats 1000000
namespace Zl
open PySem PySem.Spec PyProof.Rows L2
/-! ### loops and comprehensions over lists of one's own kind -/
theorem zComp_fm {β : Type} (enc : β → D) (f : β → Option D) {g : TGz} {tt : TPt} {te : TP} {q : W → Prop} {δ : List Sl} : ∀ (xs : List β) (acc : List D),
    (∀ x ∈ xs, ∀ (k : D → Prop) (k0 : Prop), (∀ y, f x = some y → k y) → (f x = none → k0) → g (.d (enc x)) δ fun δ1 => tt δ1 fun b => if b = true then te δ1 fun w => (match w with
      | .d y => k y
      | _ => False) else k0) → q (.new (acc ++ xs.filterMap f)) → zComp g tt te q δ (xs.map enc) acc
  | [], acc, _, h => by rw [List.filterMap_nil, List.append_nil] at h; exact h
  | x :: xs, acc, st, h => by
    refine st x List.mem_cons_self (fun y => zComp g tt te q δ (xs.map enc) (acc ++ [y])) (zComp g tt te q δ (xs.map enc) acc) (fun y e => ?_) fun e => ?_
    · refine zComp_fm enc f xs _ (fun z hz => st z (List.mem_cons_of_mem _ hz)) ?_
      rw [List.filterMap_cons_some e] at h
      rw [List.append_assoc]
      exact h
    · refine zComp_fm enc f xs _ (fun z hz => st z (List.mem_cons_of_mem _ hz)) ?_
      rw [List.filterMap_cons_none e] at h
      exact h
theorem zComp_map {β : Type} (enc : β → D) (f : β → D) {g : TGz} {tt : TPt} {te : TP} {q : W → Prop} {δ : List Sl} (xs : List β) 
    (st : ∀ x ∈ xs, ∀ (k : D → Prop) (k0 : Prop), k (f x) → g (.d (enc x)) δ fun δ1 => tt δ1 fun b => if b = true then te δ1 fun w => (match w with
      | .d y => k y
      | _ => False) else k0) (h : q (.new (xs.map f))) : zComp g tt te q δ (xs.map enc) [] := by
  refine zComp_fm enc (fun x => some (f x)) xs [] (fun x hx k k0 h1 _ => st x hx k k0 (h1 _ rfl)) ?_
  have e : xs.filterMap (fun x => some (f x)) = xs.map f := by
    clear st h
    induction xs with
    | nil => rfl
    | cons x xs ih => simp
  rw [List.nil_append, e]
  exact h
theorem zLoop_inv {β : Type} (enc : β → D) {g : TGz} {tb : TZ} {N : Ez} (I : List β → List Sl → Prop)
    (step : ∀ x xs δ, I (x :: xs) δ → ∀ k : List Sl → Prop, (∀ δ', I xs δ' → k δ') → g (.d (enc x)) δ fun δ1 => tb { nx := k, rt := N.rt, bk := N.nx, ct := k } δ1)
    (fin : ∀ δ, I [] δ → N.nx δ) : ∀ (xs : List β) (δ : List Sl), I xs δ → zLoop g tb N (xs.map enc) δ
  | [], δ, h => fin δ h
  | x :: xs, δ, h => step x xs δ h _ fun δ' h' => zLoop_inv enc I step fin xs δ' h'
theorem zLoop_id {g : TGz} {tb : TZ} {N : Ez} (I : List D → List Sl → Prop)
    (step : ∀ x xs δ, I (x :: xs) δ → ∀ k : List Sl → Prop, (∀ δ', I xs δ' → k δ') → g (.d x) δ fun δ1 => tb { nx := k, rt := N.rt, bk := N.nx, ct := k } δ1)
    (fin : ∀ δ, I [] δ → N.nx δ) (xs : List D) (δ : List Sl) (h : I xs δ) : zLoop g tb N xs δ := by
  have z := zLoop_inv id I step fin xs δ h
  rw [List.map_id] at z
  exact z
theorem enumD_map {β : Type} (enc : β → D) (xs : List β) : enumD (xs.map enc) = xs.zipIdx.map fun p => .tuple [.int (p.2 : Nat), enc p.1] := by
  unfold enumD
  apply List.ext_getElem
  · simp
  · intro i h1 h2
    simp
theorem zipD_map {β γ : Type} (e1 : β → D) (e2 : γ → D) (xs : List β) (ys : List γ) : zipD (xs.map e1) (ys.map e2) = (xs.zip ys).map fun p => .tuple [e1 p.1, e2 p.2] := by
  unfold zipD
  rw [List.zip_map, List.map_map]
  rfl
theorem rngD_eq (lo : Int) (n : Nat) : rngD lo n = (List.range n).map fun (i : Nat) => PyData.int (lo + i) := rfl
theorem pg_tupK {X : Cx} (K : PySem.W.Frag) (hK : X.K = K) {es : List Expr} {k : Nat} {t : TGs} {n : Nat} {pos : Pos} (hc : X.calm = true) (h : PGs X es t) (hn : (assignEach es X.env).length = n := by rfl) (hst : (assignEach es X.env).findIdx? (·.1) = none := by rfl) :
    PG X (.Tuple es k pos) (gTup K n t) := hK ▸ pg_tup hc h hn hst
def iZipNz (t : TPa) : TIz := fun δ q => t δ fun ws => match ws with
  | [.d (.tuple xs), .d (.tuple ys)] => q (zipD xs ys)
  | _ => False
/-- zip of two tuples, by one name -/
theorem zi_zipN {X : Cx} {a b : Expr} {ta : TPa} {p pos tpos : Pos} {nm : Str} (hg : Gl X "zip") (hm : X.mg "zip" = none) (ha : ZA X [a, b] ta)
    (hs : starEach [a, b] X.env = (false, eval a X.env) :: starEach [b] X.env := by rfl) (hpl : (backTo pos (starEach [b] X.env)).any (·.1) = false := by rfl) :
    ZI X (.Name nm tpos) (.Call (.Name "zip" p) [a, b] [] pos) (iZipNz ta) := pi_imp (Vq.pi_zipN hg hm ha hs hpl) fun σ H R => by
  rintro ⟨P, Hc, δ, q, Rw, ht, post⟩
  refine ⟨P, Hc, δ, _, Rw, ht, fun Hc' H' vs ws l f R' rv hq => ?_⟩
  split at hq
  · rename_i xs ys
    obtain ⟨v, u, rfl, r, s⟩ := rv.two
    have z : RV X.K Hc' v (.tuple xs) := r
    have z' : RV X.K Hc' u (.tuple ys) := s
    cases z with
    | tup h1 hz h2 =>
      cases z' with
      | tup h3 _ h4 =>
        refine ⟨_, _, _, _, rfl, SqT.of (R'.coldH _ _ h1), SqT.of (R'.coldH _ _ h3), post Hc' H' _ _ l f R' (Wk.pairs (fun l Hc2 H2 σ2 δ2 le R2 => ⟨SqT.of (R2.coldH _ _ (le _ _ h1)), SqT.of (R2.coldH _ _ (le _ _ h3))⟩) (walk_zipT rfl) (by rw [h2.len]; omega) ?_ fun i d e => ?_) hq⟩
        · unfold zipD
          rw [List.length_map, List.length_zip, h2.len, h4.len]
        · obtain ⟨x, y, e1, e2, rfl⟩ := zipD_at e
          obtain ⟨x', e3, r2⟩ := h2.get e1
          obtain ⟨y', e4, r3⟩ := h4.get e2
          exact ⟨x', y', x, y, e3, e4, rfl, r2, r3⟩
  · exact hq.elim
/-- where a place is in range -/
theorem atI_nat {α : Type} {xs : List α} {i : Nat} {y : α} (h : xs[i]? = some y) : L2.atI xs (i : Int) = some y := by
  have hl : i < xs.length := (List.getElem?_eq_some_iff.mp h).1
  unfold L2.atI
  have e : ixN xs.length (i : Int) = some i := by
    unfold ixN
    rw [if_pos (by omega), if_pos (by omega), Int.toNat_natCast]
  rw [e]
  exact h
end Zl
namespace Zl
open PySem PySem.Spec PyProof.Rows L2
inductive Al2 {α β : Type} (R : α → β → Prop) : List α → List β → Prop
  | nil : Al2 R [] []
  | cons {a : α} {b : β} {as : List α} {bs : List β} : R a b → Al2 R as bs → Al2 R (a :: as) (b :: bs)
theorem Al2.len {α β : Type} {R : α → β → Prop} : ∀ {as : List α} {bs : List β}, Al2 R as bs → bs.length = as.length
  | _, _, .nil => rfl
  | _, _, .cons _ t => congrArg (· + 1) t.len
theorem Al2.mem {α β : Type} {R : α → β → Prop} : ∀ {as : List α} {bs : List β}, Al2 R as bs → ∀ b ∈ bs, ∃ a ∈ as, R a b
  | _, _, .nil, b, h => by cases h
  | _, _, .cons r t, b, h => by
    rcases List.mem_cons.mp h with rfl | h
    · exact ⟨_, List.mem_cons_self, r⟩
    · obtain ⟨a, ha, hr⟩ := t.mem b h
      exact ⟨a, List.mem_cons_of_mem _ ha, hr⟩
/-- a comprehension whose items are drawn -/
theorem zComp_any {β γ : Type} (enc : β → D) (dec : γ → D) (R : β → γ → Prop) {g : TGz} {tt : TPt} {te : TP} {q : W → Prop} {δ : List Sl} : ∀ (xs : List β) (acc : List γ),
    (∀ x ∈ xs, ∀ (k : D → Prop) (k0 : Prop), (∀ y, R x y → k (dec y)) → g (.d (enc x)) δ fun δ1 => tt δ1 fun b => if b = true then te δ1 fun w => (match w with
      | .d y => k y
      | _ => False) else k0) → (∀ ys, Al2 R xs ys → q (.new ((acc ++ ys).map dec))) → zComp g tt te q δ (xs.map enc) (acc.map dec)
  | [], acc, _, h => by
    have z := h [] .nil
    rw [List.append_nil] at z
    exact z
  | x :: xs, acc, st, h => by
    refine st x List.mem_cons_self (fun y => zComp g tt te q δ (xs.map enc) (acc.map dec ++ [y])) _ fun y r => ?_
    have z := zComp_any enc dec R xs (acc ++ [y]) (fun z hz => st z (List.mem_cons_of_mem _ hz)) fun ys hy => by
      have z := h (y :: ys) (.cons r hy)
      rw [List.append_cons] at z
      exact z
    rw [List.map_append] at z
    exact z
end Zl
end
section
set_option maxHeartbeats 1000000
namespace Zl
open PySem PySem.Spec PyProof.Rows L2
/-! ### systems, plans -/
abbrev Ord := Option Int
abbrev Opt := Nat × Int
abbrev Wt := Nat × List Opt
abbrev Sys := Nat × List Wt
abbrev Pl := List Ord
def optD (o : Opt) : D := .tuple [.int (o.1 : Nat), .int o.2]
def waitD (w : Wt) : D := .tuple [.int (w.1 : Nat), .tuple (w.2.map optD)]
def sysD (s : Sys) : D := .tuple [.int (s.1 : Nat), .tuple (s.2.map waitD)]
/-- a tuple or a list -/
def sqD (b : Bool) (xs : List D) : D := if b = true then .tuple xs else .list xs
def lo (os : List Ord) : Ord := Vq.minO (os.filterMap id)
def ord (p : Pl) (i : Nat) : Ord := p.getD i none
def erl (p : Pl) (os : List Opt) : Ord := lo (os.map fun o => laterM (ord p o.1) o.2)
def kw (p : Pl) (w : Wt) : Bool := naM (erl p w.2) (ord p w.1)
def WtOk (n : Nat) (w : Wt) : Prop := w.1 < n ∧ ∀ o ∈ w.2, o.1 < n
def SysOk (s : Sys) : Prop := ∀ w ∈ s.2, WtOk s.1 w
def unk (s : Sys) (p : Pl) : List Nat := s.2.zipIdx.filterMap fun w => if kw p w.1 = true then none else some w.2
theorem ord_at {p : Pl} {i : Nat} (h : i < p.length) : L2.atI (p.map ordD) (i : Int) = some (ordD (ord p i)) := by
  refine atI_nat ?_
  rw [List.getElem?_map, List.getElem?_eq_getElem h]
  unfold ord
  rw [List.getD_eq_getElem?_getD, List.getElem?_eq_getElem h]
  rfl
section
variable {P : Program} {w : World} {K : PySem.W.Frag} {mg : Str → Option Value} {base : Heap}
def sp_least_order : Spz := fun ws q => ∃ (b : Bool) (os : List Ord), ws = [.d (sqD b (os.map ordD))] ∧ q (.d (ordD (lo os)))
theorem ints_of (os : List Ord) : os.filterMap (fun o => o.map PyData.int) = (os.filterMap id).map PyData.int := by
  induction os with
  | nil => rfl
  | cons o os ih => cases o <;> simpa using ih
theorem ok_least_order (M : Mgz mg) (Dd : Vq.D1 K mg "least_order" s_least_order ["orders"])  : ZCal P w K mg base 1 "least_order" sp_least_order := by
  refine zcal false Dd sc_least_order (fun ws q h => ?_) fun f cdv A outer s H E hG hr => ⟨_, (zb_one (zs_ret (z_minD rfl M.min (za_cons (zfz (z_lci (own := [("order", 1)]) rfl sc_least_order.nd (zi_seq (zv 0)) (blkOk_by (own := [("order", 1)]) (N := n_least_order) (sc := defScope s_least_order) (by first | decide +kernel | kernel_rfl | rfl)) (fun _ _ _ _ _ => (pg_name (i := 1) sc_least_order.nd rfl (.inl rfl))) (gr_name (by decide)) (fun _ _ _ _ _ => (zt_notN (zv 1) znon (nomark _))) (fun _ _ _ _ _ => (zv 1)))) za_nil) (fun h => pe_callBK (Vq.cr_minD rfl) (by rfl) M.min (by decide +kernel) h (pk_cons pe_non pk_nil))))), fun ws Q0 h => ?_⟩
  · obtain ⟨b, os, rfl, _⟩ := h
    rfl
  · obtain ⟨b, os, rfl, q⟩ := h
    have key : ∀ (g : TGz), True := fun _ => trivial
    cases b
    · refine zComp_fm ordD (fun o => o.map PyData.int) os [] (fun o ho k k0 h1 h2 => ?_) ?_
      · cases o with
        | none => exact h2 rfl
        | some i => exact h1 _ rfl
      · show (match intsD ([] ++ os.filterMap fun o => o.map PyData.int) with
          | some ns => _
          | none => False)
        rw [List.nil_append, ints_of, intsD_map]
        exact q
    · refine zComp_fm ordD (fun o => o.map PyData.int) os [] (fun o ho k k0 h1 h2 => ?_) ?_
      · cases o with
        | none => exact h2 rfl
        | some i => exact h1 _ rfl
      · show (match intsD ([] ++ os.filterMap fun o => o.map PyData.int) with
          | some ns => _
          | none => False)
        rw [List.nil_append, ints_of, intsD_map]
        exact q
end
end Zl
end
section
set_option maxHeartbeats 1000000
namespace Zl
open PySem PySem.Spec PyProof.Rows L2
section
variable {P : Program} {w : World} {K : PySem.W.Frag} {mg : Str → Option Value} {base : Heap}
/-- a plan, as a tuple or a list -/
def plD (b : Bool) (p : Pl) : D := sqD b (p.map ordD)
def sp_earliest_by : Spz := fun ws q => ∃ (b : Bool) (p : Pl) (w : Wt), ws = [.d (plD b p), .d (waitD w)] ∧ (∀ o ∈ w.2, o.1 < p.length) ∧ q (.d (ordD (erl p w.2)))
theorem ok_earliest_by (M : Mgz mg) (Dd : Vq.D1 K mg "earliest_by" s_earliest_by ["plan", "wait"]) (c_later : ZCal P w K mg base 1 "later" sp_later) (c_least_order : ZCal P w K mg base 1 "least_order" sp_least_order) : ZCal P w K mg base 2 "earliest_by" sp_earliest_by := by
  refine zcal false Dd sc_earliest_by (fun ws q h => ?_) fun f cdv A outer s H E hG hr => ⟨_, (zb_one (zs_ret (z_call hG c_least_order hr (by decide) rfl (za_cons (zfz (z_lc (own := [("other", 2), ("delay", 3)]) rfl sc_earliest_by.nd (zi_seq (z_ix (zv 1) zint)) (blkOk_by (own := [("other", 2), ("delay", 3)]) (N := n_earliest_by) (sc := defScope s_earliest_by) (by first | decide +kernel | kernel_rfl | rfl)) (fun _ _ _ _ _ => (pg_tupK K rfl (n := 2) rfl (pgs_cons (pg_name (i := 2) sc_earliest_by.nd rfl (.inl rfl)) (pgs_cons (pg_name (i := 3) sc_earliest_by.nd rfl (.inl rfl)) pgs_nil)))) (gr_tup (n := 2) (gr_cons (gr_name (by decide)) (gr_cons (gr_name (by decide)) gr_nil))) (fun _ _ _ _ _ => (z_call hG c_later hr (by decide) rfl (za_cons (z_ix (zv 0) (zv 2)) (za_cons (zv 3) za_nil)))))) za_nil)))), fun ws Q0 h => ?_⟩
  · obtain ⟨b, p, w, rfl, _⟩ := h
    rfl
  · obtain ⟨b, p, w, rfl, hw, q⟩ := h
    refine zComp_map optD (fun o => ordD (laterM (ord p o.1) o.2)) w.2 (fun o ho k k0 h => ?_) ?_
    · cases b
      · show (match L2.atI (p.map ordD) ((o.1 : Nat) : Int) with
          | some d => _
          | none => False)
        rw [ord_at (hw o ho)]
        exact ⟨_, _, rfl, h⟩
      · show (match L2.atI (p.map ordD) ((o.1 : Nat) : Int) with
          | some d => _
          | none => False)
        rw [ord_at (hw o ho)]
        exact ⟨_, _, rfl, h⟩
    · refine ⟨false, w.2.map fun (o : Opt) => laterM (ord p o.1) o.2, ?_, q⟩
      rw [List.map_map]
      rfl
def sp_keeps_wait : Spz := fun ws q => ∃ (b : Bool) (p : Pl) (w : Wt), ws = [.d (plD b p), .d (waitD w)] ∧ WtOk p.length w ∧ q (.d (.bool (kw p w)))
def sp_unkept : Spz := fun ws q => ∃ (s : Sys) (p : Pl) (b : Bool), ws = [.d (sysD s), .d (plD b p)] ∧ (∀ w ∈ s.2, WtOk p.length w) ∧ q (.new ((unk s p).map fun (i : Nat) => .int i))
def keepsM (s : Sys) (p : Pl) : Bool := s.2.all fun w => kw p w
theorem unk_nil {s : Sys} {p : Pl} : unk s p = [] ↔ keepsM s p = true := by
  unfold unk keepsM
  rw [List.filterMap_eq_nil_iff, List.all_eq_true]
  constructor
  · intro h w hw
    obtain ⟨i, hi, rfl⟩ := List.mem_iff_getElem.mp hw
    have h1 := h (s.2[i], i) (by rw [List.mk_mem_zipIdx_iff_getElem?, List.getElem?_eq_getElem hi])
    by_cases e : kw p s.2[i] = true
    · exact e
    · rw [if_neg e] at h1
      cases h1
  · intro h x hx
    rw [if_pos (h x.1 (List.fst_mem_of_mem_zipIdx hx))]
end
end Zl
end
section
set_option maxHeartbeats 1000000
namespace Zl
open PySem PySem.Spec PyProof.Rows L2
/-! ### shapes: what may be compared, what may be shown -/
inductive Sh : Nat → D → Prop
  | non (k : Nat) : Sh k .none
  | bl (k : Nat) (b : Bool) : Sh k (.bool b)
  | int (k : Nat) (i : Int) : Sh k (.int i)
  | lst {k : Nat} {xs : List D} : (∀ x ∈ xs, Sh k x) → Sh (k + 1) (.list xs)
  | tup {k : Nat} {xs : List D} : (∀ x ∈ xs, Sh k x) → Sh (k + 1) (.tuple xs)
theorem sh_all : ∀ {k : Nat} {xs : List D}, (∀ x ∈ xs, noD x = true ∧ x.canLay0 = true ∧ x.depth ≤ k) → noDs xs = true ∧ PyData.canLayAll0 xs = true ∧ PyData.depthAll xs ≤ k
  | k, [], _ => ⟨rfl, by simp [PyData.canLayAll0], by simp [PyData.depthAll]⟩
  | k, x :: xs, h => by
    obtain ⟨a1, a2, a3⟩ := h x List.mem_cons_self
    obtain ⟨b1, b2, b3⟩ := sh_all fun y hy => h y (List.mem_cons_of_mem _ hy)
    refine ⟨by simp [noDs, a1, b1], by simp [PyData.canLayAll0, a2, b2], ?_⟩
    simp only [PyData.depthAll]
    exact Nat.max_le.mpr ⟨a3, b3⟩
theorem Sh.f : ∀ {k : Nat} {d : D}, Sh k d → noD d = true ∧ d.canLay0 = true ∧ d.depth ≤ k := by
  intro k d h
  induction h with
  | non k => exact ⟨rfl, by simp [PyData.canLay0], by simp [PyData.depth]⟩
  | bl k b => exact ⟨rfl, by simp [PyData.canLay0], by simp [PyData.depth]⟩
  | int k i => exact ⟨rfl, by simp [PyData.canLay0], by simp [PyData.depth]⟩
  | lst h ih =>
    obtain ⟨a, b, c⟩ := sh_all ih
    exact ⟨by simpa [noD] using a, by simpa [PyData.canLay0] using b, by simpa [PyData.depth] using c⟩
  | tup h ih =>
    obtain ⟨a, b, c⟩ := sh_all ih
    exact ⟨by simpa [noD] using a, by simpa [PyData.canLay0] using b, by simpa [PyData.depth] using c⟩
theorem Sh.shp {k : Nat} {d : D} (h : Sh k d) (hk : k ≤ 64) : Shp d := by
  obtain ⟨a, b, c⟩ := h.f
  refine ⟨a, ?_⟩
  unfold SeqAt.shaped
  rw [b, decide_eq_true (Nat.le_trans c hk)]
  rfl
theorem Sh.refl {k : Nat} {d : D} (h : Sh k d) : PyData.eqv d d = true := SeqAt.eqv_refl d h.f.2.1
theorem sh_ord (k : Nat) (o : Ord) : Sh k (ordD o) := by
  cases o with
  | none => exact .non k
  | some i => exact .int k i
theorem sh_sq {k : Nat} {xs : List D} {b : Bool} (h : ∀ x ∈ xs, Sh k x) : Sh (k + 1) (sqD b xs) := by
  cases b
  · exact .lst h
  · exact .tup h
theorem sh_map {β : Type} {k : Nat} {f : β → D} {l : List β} (h : ∀ x, Sh k (f x)) : ∀ y ∈ l.map f, Sh k y := fun y hy => by
  obtain ⟨x, _, rfl⟩ := List.mem_map.mp hy
  exact h x
theorem sh_pl (b : Bool) (p : Pl) : Sh 1 (plD b p) := sh_sq (sh_map fun o => sh_ord 0 o)
theorem sh_opt (o : Opt) : Sh 1 (optD o) := .tup fun x hx => by
  rcases List.mem_cons.mp hx with rfl | hx
  · exact .int 0 _
  · rw [List.mem_singleton.mp hx]
    exact .int 0 _
theorem sh_wait (w : Wt) : Sh 3 (waitD w) := .tup fun x hx => by
  rcases List.mem_cons.mp hx with rfl | hx
  · exact .int 2 _
  · rw [List.mem_singleton.mp hx]
    exact .tup (sh_map fun o => sh_opt o)
theorem sh_sys (s : Sys) : Sh 5 (sysD s) := .tup fun x hx => by
  rcases List.mem_cons.mp hx with rfl | hx
  · exact .int 4 _
  · rw [List.mem_singleton.mp hx]
    exact .tup (sh_map fun w => sh_wait w)
theorem eqv_list (xs ys : List D) : PyData.eqv (.list xs) (.list ys) = PyData.eqvAll xs ys := by simp only [PyData.eqv]
theorem eqv_nil (xs : List D) : PyData.eqv (.list xs) (.list []) = xs.isEmpty := by
  rw [eqv_list]
  cases xs <;> simp [PyData.eqvAll]
section
variable {P : Program} {w : World} {K : PySem.W.Frag} {mg : Str → Option Value} {base : Heap}
def sp_keeps : Spz := fun ws q => ∃ (s : Sys) (p : Pl) (b : Bool), ws = [.d (sysD s), .d (plD b p)] ∧ (∀ w ∈ s.2, WtOk p.length w) ∧ q (.d (.bool (keepsM s p)))
theorem unk_b {s : Sys} {p : Pl} : ((unk s p).map fun (i : Nat) => PyData.int i).isEmpty = keepsM s p := by
  rw [List.isEmpty_map]
  have h := unk_nil (s := s) (p := p)
  cases e : keepsM s p
  · rw [e] at h
    cases e2 : unk s p with
    | nil => exact absurd (h.mp e2) (by decide)
    | cons x xs => rfl
  · rw [h.mpr e]
    rfl
def shiftM (p : Pl) (i : Int) : Pl := p.map fun o => laterM o i
def sp_shifted : Spz := fun ws q => ∃ (p : Pl) (b : Bool) (i : Int), ws = [.d (plD b p), .d (.int i)] ∧ p.length ≤ 1000 ∧ q (.d (plD true (shiftM p i)))
def leastM (p r : Pl) : Pl := (p.zip r).map fun x => lo [x.1, x.2]
def sp_least_items : Spz := fun ws q => ∃ (p r : Pl), ws = [.d (plD true p), .d (plD true r)] ∧ q (.d (plD true (leastM p r)))
end
end Zl
end
section
set_option maxHeartbeats 1000000
namespace Zl
open PySem PySem.Spec PyProof.Rows L2
/-! ### orders compared -/
theorem naM_refl (a : Ord) : naM a a = true := by cases a <;> simp [naM]
theorem naM_trans {a b c : Ord} (h : naM a b = true) (g : naM b c = true) : naM a c = true := by
  cases a <;> cases b <;> cases c <;> simp_all [naM]
  omega
theorem naM_total {a b : Ord} (h : naM a b = false) : naM b a = true := by
  cases a <;> cases b <;> simp_all [naM]
  omega
theorem naM_anti {a b : Ord} (h : naM a b = true) (g : naM b a = true) : a = b := by
  cases a <;> cases b <;> simp_all [naM]
  omega
/-! ### the waits that are not kept -/
structure SysIn (s : Sys) : Prop where
  ev : s.1 ≤ 1000
  many : s.2.length ≤ 1000
  ok : ∀ w ∈ s.2, WtOk s.1 w
def fkD (x : Nat × Nat) : Key × D := (.inl (x.1 : Nat), .int (x.2 : Nat))
def dictD (fo : List (Nat × Nat)) : D := .dict (fo.map fun x => (.int (x.1 : Nat), .int (x.2 : Nat)))
theorem put_fk (fo : List (Nat × Nat)) (e i : Nat) : ∃ fo' : List (Nat × Nat), putKD (fo.map fkD) (.inl (e : Int)) (.int (i : Nat)) = fo'.map fkD ∧ (∀ x ∈ fo', x ∈ fo ∨ x = (e, i)) ∧ (e, i) ∈ fo' ∧ fo'.length ≤ fo.length + 1 := by
  unfold putKD
  by_cases h : ((fo.map fkD).any fun kv => decide (kv.1 = (.inl (e : Int) : Key))) = true
  · rw [if_pos h]
    refine ⟨fo.map fun x => if x.1 = e then (e, i) else x, ?_, ?_, ?_, by rw [List.length_map]; omega⟩
    · rw [List.map_map, List.map_map]
      refine List.map_congr_left fun x hx => ?_
      show (if (fkD x).1 = (.inl (e : Int) : Key) then ((fkD x).1, PyData.int (i : Nat)) else fkD x) = fkD (if x.1 = e then (e, i) else x)
      by_cases hc : x.1 = e
      · rw [if_pos hc, if_pos (by rw [← hc]; rfl)]
        unfold fkD
        rw [hc]
      · rw [if_neg hc, if_neg]
        intro q
        have q : ((Sum.inl (x.1 : Int)) : Key) = Sum.inl (e : Int) := q
        injection q with q
        omega
    · intro x hx
      obtain ⟨y, hy, rfl⟩ := List.mem_map.mp hx
      by_cases hc : y.1 = e
      · exact .inr (if_pos hc)
      · rw [if_neg hc]
        exact .inl hy
    · rw [List.any_eq_true] at h
      obtain ⟨k, hk, hd⟩ := h
      obtain ⟨y, hy, rfl⟩ := List.mem_map.mp hk
      have hd := of_decide_eq_true hd
      have q : ((Sum.inl (y.1 : Int)) : Key) = Sum.inl (e : Int) := hd
      injection q with q
      refine List.mem_map.mpr ⟨y, hy, if_pos (by omega)⟩
  · rw [if_neg h]
    refine ⟨fo ++ [(e, i)], by rw [List.map_append]; rfl, fun x hx => ?_, List.mem_append_right _ List.mem_cons_self, by simp⟩
    rcases List.mem_append.mp hx with q | q
    · exact .inl q
    · exact .inr (List.mem_singleton.mp q)
def putN (fo : List (Nat × Nat)) (e i : Nat) : List (Nat × Nat) := if (fo.any fun x => decide (x.1 = e)) = true then fo.map (fun x => if x.1 = e then (e, i) else x) else fo ++ [(e, i)]
theorem put_fkN (fo : List (Nat × Nat)) (e i : Nat) : putKD (fo.map fkD) (.inl (e : Int)) (.int (i : Nat)) = (putN fo e i).map fkD := by
  have key : ∀ x : Nat × Nat, decide ((fkD x).1 = (.inl (e : Int) : Key)) = decide (x.1 = e) := fun x => by
    show decide ((Sum.inl (x.1 : Int) : Key) = Sum.inl (e : Int)) = _
    by_cases q : x.1 = e
    · rw [decide_eq_true q, decide_eq_true (by rw [q])]
    · rw [decide_eq_false q, decide_eq_false]
      intro z
      injection z with z
      omega
  have e1 : ((fo.map fkD).any fun kv => decide (kv.1 = (.inl (e : Int) : Key))) = fo.any fun x => decide (x.1 = e) := by
    rw [List.any_map]
    congr 1
    funext x
    exact key x
  unfold putKD putN
  rw [e1]
  by_cases h : (fo.any fun x => decide (x.1 = e)) = true
  · rw [if_pos h, if_pos h, List.map_map, List.map_map]
    refine List.map_congr_left fun x hx => ?_
    show (if (fkD x).1 = (.inl (e : Int) : Key) then ((fkD x).1, PyData.int (i : Nat)) else fkD x) = fkD (if x.1 = e then (e, i) else x)
    have k := key x
    by_cases hc : x.1 = e
    · rw [decide_eq_true hc] at k
      rw [if_pos hc, if_pos (of_decide_eq_true k)]
      unfold fkD
      rw [hc]
    · rw [decide_eq_false hc] at k
      rw [if_neg hc, if_neg (of_decide_eq_false k)]
  · rw [if_neg h, if_neg h, List.map_append]
    rfl
theorem fkD_inj : ∀ {a b : List (Nat × Nat)}, a.map fkD = b.map fkD → a = b
  | [], [], _ => rfl
  | [], y :: b, h => by cases h
  | x :: a, [], h => by cases h
  | x :: a, y :: b, h => by
    rw [List.map_cons, List.map_cons] at h
    injection h with h1 h2
    rw [fkD_inj h2]
    congr 1
    unfold fkD at h1
    injection h1 with h3 h4
    injection h3 with h3
    injection h4 with h4
    exact Prod.ext (by omega) (by omega)
def wnkStep (p : Pl) (a : Pl × List (Nat × Nat)) (x : Wt × Nat) : Pl × List (Nat × Nat) := if naM (erl p x.1.2) (ord a.1 x.1.1) = true then a else (a.1.set x.1.1 (erl p x.1.2), putN a.2 x.1.1 x.2)
/-- the waits that are not kept, found as the program finds them -/
def wnkF (s : Sys) (p : Pl) : List (Nat × Nat) := (s.2.zipIdx.foldl (wnkStep p) (p, [])).2
structure WNK (s : Sys) (p : Pl) (fo : List (Nat × Nat)) : Prop where
  fn : fo = wnkF s p
  all : ∀ x ∈ fo, ∃ w, s.2[x.2]? = some w ∧ w.1 = x.1 ∧ naM (erl p w.2) (ord p x.1) = false
  none : fo = [] → keepsM s p = true
section
variable {P : Program} {w : World} {K : PySem.W.Frag} {mg : Str → Option Value} {base : Heap}
def sp_waits_not_kept : Spz := fun ws q => ∃ (s : Sys) (p : Pl), ws = [.d (sysD s), .d (plD true p)] ∧ SysIn s ∧ p.length = s.1 ∧ ∀ fo, WNK s p fo → q (.d (dictD fo))
def wnkI (s : Sys) (p : Pl) (xs : List (Wt × Nat)) (δ : List Sl) : Prop := ∃ (la : Pl) (fo : List (Nat × Nat)) (a b c d : Sl) (dn : List (Wt × Nat)), δ = [.w (.d (sysD s)), .w (.d (plD true p)), .hl (la.map ordD), .hd (fo.map fkD), a, b, c, d] ∧ s.2.zipIdx = dn ++ xs ∧ fo.length ≤ dn.length ∧ 
  la.length = p.length ∧ (∀ e, naM (ord p e) (ord la e) = true) ∧ (∀ x ∈ fo, ∃ w, s.2[x.2]? = some w ∧ w.1 = x.1 ∧ naM (erl p w.2) (ord p x.1) = false) ∧ (fo = [] → la = p ∧ ∀ x ∈ dn, kw p x.1 = true) ∧ dn.foldl (wnkStep p) (p, []) = (la, fo)
theorem ord_set {la : Pl} {e : Nat} {o : Ord} (h : e < la.length) (i : Nat) : ord (la.set e o) i = if i = e then o else ord la i := by
  unfold ord
  rw [List.getD_eq_getElem?_getD, List.getD_eq_getElem?_getD, List.getElem?_set]
  by_cases q : i = e
  · subst q
    rw [if_pos rfl, if_pos rfl, if_pos h]
    rfl
  · rw [if_neg (fun z => q z.symm), if_neg q]
theorem ok_waits_not_kept (M : Mgz mg) (Dd : Vq.D1 K mg "waits_not_kept" s_waits_not_kept ["system", "plan"]) (c_earliest_by : ZCal P w K mg base 2 "earliest_by" sp_earliest_by) (c_not_above : ZCal P w K mg base 1 "not_above" sp_not_above) : ZCal P w K mg base 3 "waits_not_kept" sp_waits_not_kept := by
  refine zcal false Dd sc_waits_not_kept (fun ws q h => ?_) fun f cdv A outer s H E hG hr => ⟨_, (zb_cons (zs_set (i := 2) sc_waits_not_kept.nd rfl (.inl rfl) (z_ty t_list (by rfl) M.list (by decide +kernel) (za_cons (zv 1) za_nil)))
      (zb_cons (zs_set (i := 3) sc_waits_not_kept.nd rfl (.inl rfl) z_dnew)
      (zb_cons (zs_for PassesOwn.never rfl (zi_enumT rfl M.enumerate (za_cons (z_ix (zv 0) zint) za_nil)) (zg_tup rfl (zgs_cons (zg_name (i := 4) sc_waits_not_kept.nd rfl (.inl rfl)) (zgs_cons (zg_name (i := 5) sc_waits_not_kept.nd rfl (.inl rfl)) zgs_nil))) (zb_cons (zs_set (i := 6) sc_waits_not_kept.nd rfl (.inl rfl) (z_ix (zv 5) zint))
      (zb_cons (zs_set (i := 7) sc_waits_not_kept.nd rfl (.inl rfl) (z_call hG c_earliest_by hr (by decide) rfl (za_cons (zv 1) (za_cons (zv 5) za_nil))))
      (zb_one (zs_if (zt_not (zt_val (z_call hG c_not_above hr (by decide) rfl (za_cons (zv 7) (za_cons (z_ix (zv 2) (zv 6)) za_nil))))) (zb_cons (zs_setL (j := 2) (zv 7) (zv 6) (fun h k => ps_asg h (pg_sub (pv 2) k set_list)))
      (zb_one (zs_putD (j := 3) (zv 4) (zv 6) (fun h k => ps_dput (hu_of hr) (pv 3) k h rfl)))) zb_nil)))))
      (zb_one (zs_ret (zv 3)))))), fun ws Q0 h => ?_⟩
  · obtain ⟨s, p, rfl, _⟩ := h
    rfl
  · obtain ⟨s, p, rfl, hs, hp, q⟩ := h
    show zLoop _ _ _ (enumD (s.2.map waitD)) _
    rw [enumD_map]
    refine zLoop_inv (fun (x : Wt × Nat) => .tuple [.int (x.2 : Nat), waitD x.1]) (wnkI s p) (fun x xs δ h k hk => ?_) (fun δ h => ?_) s.2.zipIdx _ ⟨p, [], .un, .un, .un, .un, [], rfl, rfl, Nat.le_refl _, rfl, fun e => naM_refl _, (fun x hx => by cases hx), (fun _ => ⟨rfl, fun x hx => by cases hx⟩), rfl⟩
    · obtain ⟨la, fo, a, b, c, d, dn, rfl, hz, hl1, hl2, hle, hf, hn, hfo⟩ := h
      have hstep : (dn ++ [x]).foldl (wnkStep p) (p, []) = wnkStep p (la, fo) x := by rw [List.foldl_append, hfo]; rfl
      have hx : x ∈ s.2.zipIdx := by rw [hz]; exact List.mem_append_right _ List.mem_cons_self
      have hw := hs.ok x.1 (List.fst_mem_of_mem_zipIdx hx)
      have hx2 : s.2[x.2]? = some x.1 := List.mk_mem_zipIdx_iff_getElem?.mp hx
      have hz2 : s.2.zipIdx = (dn ++ [x]) ++ xs := by rw [hz, List.append_assoc]; rfl
      refine ⟨true, p, x.1, rfl, by rw [hp]; exact hw.2, ?_⟩
      have hla : x.1.1 < la.length := by rw [hl2, hp]; exact hw.1
      show (match L2.atI (List.map ordD la) ((x.1.1 : Nat) : Int) with
        | some d => _
        | none => False)
      rw [ord_at hla]
      refine ⟨_, _, rfl, ?_⟩
      cases e : naM (erl p x.1.2) (ord la x.1.1)
      · -- later than all so far
        have hst : naM (erl p x.1.2) (ord p x.1.1) = false := by
          cases e2 : naM (erl p x.1.2) (ord p x.1.1)
          · rfl
          · exact absurd (naM_trans e2 (hle x.1.1)) (by rw [e]; decide)
        obtain ⟨fo', h1, h2, h3, h4⟩ := put_fk fo x.1.1 x.2
        have hput : fo' = putN fo x.1.1 x.2 := fkD_inj (h1.symm.trans (put_fkN fo x.1.1 x.2))
        show (match ixN (la.map ordD).length ((x.1.1 : Nat) : Int) with
          | some m => _
          | none => False)
        have ei : ixN (la.map ordD).length ((x.1.1 : Nat) : Int) = some x.1.1 := by
          unfold ixN
          rw [List.length_map, if_pos (by omega), if_pos (by omega), Int.toNat_natCast]
        rw [ei]
        refine ⟨?_, hk _ ⟨la.set x.1.1 (erl p x.1.2), fo', .w (.d (.int (x.2 : Nat))), .w (.d (waitD x.1)), .w (.d (.int (x.1.1 : Nat))), .w (.d (ordD (erl p x.1.2))), dn ++ [x], ?_, hz2, ?_, ?_, ?_, ?_, ?_, ?_⟩⟩
        · rw [List.length_map, sizeLine_eq]
          have := hs.many
          have h5 : dn.length ≤ s.2.zipIdx.length := by rw [hz, List.length_append]; omega
          rw [List.length_zipIdx] at h5
          omega
        · rw [← h1, List.map_set]
          rfl
        · rw [List.length_append]
          exact Nat.le_trans h4 (by simp; omega)
        · rw [List.length_set, hl2]
        · intro i
          rw [ord_set hla]
          by_cases q : i = x.1.1
          · rw [if_pos q, q]
            exact naM_total hst
          · rw [if_neg q]
            exact hle i
        · intro y hy
          rcases h2 y hy with z | z
          · exact hf y z
          · rw [z]
            exact ⟨x.1, hx2, rfl, hst⟩
        · intro z
          rw [z] at h3
          cases h3
        · rw [hstep, hput]
          show (if naM (erl p x.1.2) (ord la x.1.1) = true then _ else _) = _
          rw [e, if_neg (by decide)]
      · refine hk _ ⟨la, fo, .w (.d (.int (x.2 : Nat))), .w (.d (waitD x.1)), .w (.d (.int (x.1.1 : Nat))), .w (.d (ordD (erl p x.1.2))), dn ++ [x], rfl, hz2, by rw [List.length_append]; omega, hl2, hle, hf, fun z => ?_, by rw [hstep]; show (if naM (erl p x.1.2) (ord la x.1.1) = true then _ else _) = _; rw [e, if_pos rfl]⟩
        obtain ⟨z1, z2⟩ := hn z
        refine ⟨z1, fun y hy => ?_⟩
        rcases List.mem_append.mp hy with w | w
        · exact z2 y w
        · rw [List.mem_singleton.mp w]
          rw [z1] at e
          exact e
    · obtain ⟨la, fo, a, b, c, d, dn, rfl, hz, hl1, hl2, hle, hf, hn, hfo⟩ := h
      have hfn : fo = wnkF s p := by
        unfold wnkF
        rw [hz, List.append_nil, hfo]
      have e : (dictD fo) = .dict ((fo.map fkD).map fun p => (keyD p.1, p.2)) := by
        unfold dictD
        rw [List.map_map]
        rfl
      have z := q fo ⟨hfn, hf, fun h => List.all_eq_true.mpr fun w hw => ?_⟩
      · rw [e] at z
        exact z
      · obtain ⟨i, hi, rfl⟩ := List.mem_iff_getElem.mp hw
        exact (hn h).2 (s.2[i], i) (by rw [List.append_nil] at hz; rw [← hz, List.mk_mem_zipIdx_iff_getElem?, List.getElem?_eq_getElem hi])
end
end Zl
end
section
set_option maxHeartbeats 1000000
namespace Zl
/-! ### the least of orders -/
theorem minO_some {l : List Int} {i : Int} (h : Vq.minO l = some i) : i ∈ l ∧ ∀ j ∈ l, i ≤ j := by
  cases l with
  | nil => cases h
  | cons x r =>
    have h : some (r.foldl min x) = some i := h
    injection h with h
    obtain ⟨h1, h2, h3⟩ := Vq.foldl_min_spec r x
    rw [h] at h1 h2 h3
    refine ⟨?_, fun j hj => ?_⟩
    · rcases h1 with z | z
      · rw [z]; exact List.mem_cons_self
      · exact List.mem_cons_of_mem _ z
    · rcases List.mem_cons.mp hj with z | z
      · rw [z]; exact h2
      · exact h3 j z
theorem minO_none {l : List Int} (h : Vq.minO l = none) : l = [] := by
  cases l with
  | nil => rfl
  | cons x r => cases h
theorem mem_ids {os : List Ord} {i : Int} : i ∈ os.filterMap id ↔ some i ∈ os := by
  rw [List.mem_filterMap]
  constructor
  · rintro ⟨o, h1, h2⟩
    have h2 : o = some i := h2
    rw [← h2]
    exact h1
  · exact fun h => ⟨some i, h, rfl⟩
theorem lo_some {os : List Ord} {i : Int} (h : lo os = some i) : some i ∈ os := mem_ids.mp (minO_some h).1
theorem lo_le {os : List Ord} {o : Ord} (h : o ∈ os) : naM (lo os) o = true := by
  cases o with
  | none => cases lo os <;> rfl
  | some j =>
    have hj := mem_ids.mpr h
    cases e : lo os with
    | none =>
      rw [minO_none e] at hj
      cases hj
    | some i => simp [naM, (minO_some e).2 j hj]
theorem lo_ge {os : List Ord} {a : Ord} (h : ∀ o ∈ os, naM a o = true) : naM a (lo os) = true := by
  cases e : lo os with
  | none => cases a <;> rfl
  | some i => exact h _ (lo_some e)
theorem later_mono {a b : Ord} (d : Int) (h : naM a b = true) : naM (laterM a d) (laterM b d) = true := by
  cases a <;> cases b <;> simp_all [naM, laterM]
theorem erl_le {p : Pl} {os : List Opt} {o : Opt} (h : o ∈ os) : naM (erl p os) (laterM (ord p o.1) o.2) = true := lo_le (List.mem_map.mpr ⟨o, h, rfl⟩)
theorem erl_ge {p : Pl} {os : List Opt} {a : Ord} (h : ∀ o ∈ os, naM a (laterM (ord p o.1) o.2) = true) : naM a (erl p os) = true := lo_ge fun x hx => by
  obtain ⟨o, ho, rfl⟩ := List.mem_map.mp hx
  exact h o ho
theorem erl_some {p : Pl} {os : List Opt} {i : Int} (h : erl p os = some i) : ∃ o ∈ os, ∃ x, ord p o.1 = some x ∧ x + o.2 = i := by
  obtain ⟨o, ho, e⟩ := List.mem_map.mp (lo_some h)
  cases hx : ord p o.1 with
  | none => rw [hx] at e; cases e
  | some x =>
    rw [hx] at e
    injection e with e
    exact ⟨o, ho, x, hx, e⟩
/-- no order is above -/
def Le2 (p r : Pl) : Prop := ∀ e, naM (ord p e) (ord r e) = true
theorem Le2.refl (p : Pl) : Le2 p p := fun e => naM_refl _
theorem Le2.trans {p r s : Pl} (h : Le2 p r) (g : Le2 r s) : Le2 p s := fun e => naM_trans (h e) (g e)
theorem erl_mono {p r : Pl} (h : Le2 p r) (os : List Opt) : naM (erl p os) (erl r os) = true := erl_ge fun o ho => naM_trans (erl_le ho) (later_mono _ (h o.1))
/-! ### chosen waits -/
abbrev Chs := List (Option Nat)
def cho (c : Chs) (e : Nat) : Option Nat := c.getD e none
def opts (s : Sys) (i : Nat) : List Opt := (s.2[i]?.map (·.2)).getD []
def updE (s : Sys) (c : Chs) (p : Pl) (e : Nat) : Pl := match cho c e with
  | some i => p.set e (erl p (opts s i))
  | none => p
def roundE (s : Sys) (c : Chs) (p : Pl) (es : List Nat) : Pl := es.foldl (updE s c) p
def startP (fl : Pl) (c : Chs) : Pl := (fl.zip c).map fun x => if x.2 = none then x.1 else none
def jay (s : Sys) (fl : Pl) (c : Chs) : Nat → Pl
  | 0 => startP fl c
  | k + 1 => roundE s c (jay s fl c k) (List.range c.length)
def pbc (s : Sys) (fl : Pl) (c : Chs) : Pl := jay s fl c s.1
theorem cho_lt {c : Chs} {e i : Nat} (h : cho c e = some i) : e < c.length := by
  by_cases q : e < c.length
  · exact q
  · unfold cho at h
    rw [List.getD_eq_getElem?_getD, List.getElem?_eq_none (by omega)] at h
    cases h
/-- the chosen waits are some that the plan keeps -/
def Sup (s : Sys) (c : Chs) (p : Pl) : Prop := ∀ e i, cho c e = some i → naM (erl p (opts s i)) (ord p e) = true
def Sub (s : Sys) (fl : Pl) (c : Chs) (q : Pl) : Prop := (∀ e, cho c e = none → naM (ord q e) (ord fl e) = true) ∧ ∀ e i, cho c e = some i → naM (ord q e) (erl q (opts s i)) = true
section
variable {s : Sys} {c : Chs} {p q fl : Pl}
theorem updE_len (e : Nat) : (updE s c p e).length = p.length := by
  unfold updE
  split
  · exact List.length_set
  · rfl
theorem updE_at {e i : Nat} (hl : p.length = c.length) (h : cho c e = some i) (x : Nat) : ord (updE s c p e) x = if x = e then erl p (opts s i) else ord p x := by
  unfold updE
  rw [h]
  exact ord_set (by rw [hl]; exact cho_lt h) x
theorem updE_no {e : Nat} (h : cho c e = none) : updE s c p e = p := by
  unfold updE
  rw [h]
theorem updE_le (hl : p.length = c.length) (S : Sup s c p) (e : Nat) : Le2 (updE s c p e) p := by
  cases h : cho c e with
  | none => rw [updE_no h]; exact .refl p
  | some i =>
    intro x
    rw [updE_at hl h]
    by_cases q : x = e
    · rw [if_pos q, q]
      exact S e i h
    · rw [if_neg q]
      exact naM_refl _
theorem updE_sup (hl : p.length = c.length) (S : Sup s c p) (e : Nat) : Sup s c (updE s c p e) := by
  intro x i hx
  have m := erl_mono (updE_le hl S e) (opts s i)
  cases h : cho c e with
  | none => rw [updE_no h]; exact S x i hx
  | some j =>
    rw [updE_at hl h x]
    by_cases q : x = e
    · rw [if_pos q]
      subst q
      rw [hx] at h
      cases h
      exact m
    · rw [if_neg q]
      exact naM_trans m (S x i hx)
theorem updE_sub (hl : p.length = c.length) (S : Sub s fl c q) (h : Le2 q p) (e : Nat) : Le2 q (updE s c p e) := by
  cases hc : cho c e with
  | none => rw [updE_no hc]; exact h
  | some i =>
    intro x
    rw [updE_at hl hc]
    by_cases z : x = e
    · rw [if_pos z, z]
      exact naM_trans (S.2 e i hc) (erl_mono h _)
    · rw [if_neg z]
      exact h x
theorem updE_un (hl : p.length = c.length) {x : Nat} (h : cho c x = none) (e : Nat) : ord (updE s c p e) x = ord p x := by
  cases hc : cho c e with
  | none => rw [updE_no hc]
  | some i =>
    rw [updE_at hl hc, if_neg]
    rintro rfl
    rw [h] at hc
    cases hc
theorem roundE_ok : ∀ (es : List Nat) {p : Pl}, p.length = c.length → Sup s c p →
    (roundE s c p es).length = c.length ∧ Le2 (roundE s c p es) p ∧ Sup s c (roundE s c p es) ∧ (∀ x, cho c x = none → ord (roundE s c p es) x = ord p x) ∧
      ∀ e ∈ es, ∀ i, cho c e = some i → naM (ord (roundE s c p es) e) (erl p (opts s i)) = true
  | [], p, hl, S => ⟨hl, .refl p, S, fun _ _ => rfl, fun e he => by cases he⟩
  | e :: es, p, hl, S => by
    have hl2 : (updE s c p e).length = c.length := by rw [updE_len]; exact hl
    obtain ⟨a, b, d, f, g⟩ := roundE_ok es hl2 (updE_sup hl S e)
    refine ⟨a, b.trans (updE_le hl S e), d, fun x hx => (f x hx).trans (updE_un hl hx e), fun y hy i hi => ?_⟩
    rcases List.mem_cons.mp hy with rfl | hy
    · refine naM_trans (b y) ?_
      rw [updE_at hl hi, if_pos rfl]
      exact naM_refl _
    · exact naM_trans (g y hy i hi) (erl_mono (updE_le hl S e) _)
theorem roundE_sub (S : Sub s fl c q) : ∀ (es : List Nat) {p : Pl}, p.length = c.length → Le2 q p → Le2 q (roundE s c p es)
  | [], p, hl, h => h
  | e :: es, p, hl, h => roundE_sub S es (by rw [updE_len]; exact hl) (updE_sub hl S h e)
theorem start_len (hf : fl.length = c.length) : (startP fl c).length = c.length := by
  unfold startP
  rw [List.length_map, List.length_zip]
  omega
theorem start_at (hf : fl.length = c.length) (e : Nat) : ord (startP fl c) e = if cho c e = none then ord fl e else none := by
  unfold startP ord cho
  rw [List.getD_eq_getElem?_getD, List.getD_eq_getElem?_getD, List.getD_eq_getElem?_getD, List.getElem?_map]
  by_cases h : e < c.length
  · have h2 : e < fl.length := by omega
    have h3 : (fl.zip c)[e]? = some (fl[e], c[e]) := by
      rw [List.getElem?_zip_eq_some]
      exact ⟨List.getElem?_eq_getElem h2, List.getElem?_eq_getElem h⟩
    rw [h3, List.getElem?_eq_getElem h, List.getElem?_eq_getElem h2]
    rfl
  · have h3 : (fl.zip c)[e]? = none := by
      rw [List.getElem?_eq_none_iff, List.length_zip]
      omega
    rw [h3, List.getElem?_eq_none (by omega), List.getElem?_eq_none (by omega)]
    rfl
theorem jay_ok (hf : fl.length = c.length) : ∀ k, (jay s fl c k).length = c.length ∧ Sup s c (jay s fl c k) ∧ ∀ x, cho c x = none → ord (jay s fl c k) x = ord fl x
  | 0 => by
    refine ⟨start_len hf, fun e i h => ?_, fun x hx => ?_⟩
    · show naM _ (ord (startP fl c) e) = true
      rw [start_at hf, if_neg (by rw [h]; exact Option.some_ne_none i)]
      cases erl (startP fl c) (opts s i) <;> rfl
    · show ord (startP fl c) x = _
      rw [start_at hf, if_pos hx]
  | k + 1 => by
    obtain ⟨a, b, d⟩ := jay_ok hf k
    obtain ⟨a1, a2, a3, a4, a5⟩ := roundE_ok (List.range c.length) a b
    exact ⟨a1, a3, fun x hx => (a4 x hx).trans (d x hx)⟩
theorem jay_down (hf : fl.length = c.length) (k : Nat) : Le2 (jay s fl c (k + 1)) (jay s fl c k) ∧ ∀ e i, cho c e = some i → naM (ord (jay s fl c (k + 1)) e) (erl (jay s fl c k) (opts s i)) = true := by
  obtain ⟨a, b, d⟩ := jay_ok (s := s) hf k
  obtain ⟨a1, a2, a3, a4, a5⟩ := roundE_ok (List.range c.length) a b
  exact ⟨a2, fun e i h => a5 e (List.mem_range.mpr (cho_lt h)) i h⟩
theorem jay_sub (hf : fl.length = c.length) (S : Sub s fl c q) : ∀ k, Le2 q (jay s fl c k)
  | 0 => fun e => by
    show naM _ (ord (startP fl c) e) = true
    rw [start_at hf]
    cases h : cho c e with
    | none => rw [if_pos rfl]; exact S.1 e h
    | some i => rw [if_neg (Option.some_ne_none i)]; cases ord q e <;> rfl
  | k + 1 => roundE_sub S _ (jay_ok hf k).1 (jay_sub hf S k)
end
end Zl
end
section
set_option maxHeartbeats 1000000
namespace Zl
/-- rings of chosen waits have delays of a sum above 0: weights show it -/
def Cert (s : Sys) (c : Chs) : Prop := ∃ (u : Nat → Int) (N : Int), 0 < N ∧ ∀ e i, cho c e = some i → ∀ o ∈ opts s i, u e < u o.1 + N * o.2
def InR (s : Sys) (n : Nat) : Prop := ∀ i, ∀ o ∈ opts s i, o.1 < n
theorem inR_of {s : Sys} (h : SysIn s) : InR s s.1 := fun i o ho => by
  unfold opts at ho
  cases e : s.2[i]? with
  | none => rw [e] at ho; cases ho
  | some w =>
    rw [e] at ho
    exact (h.ok w (List.mem_of_getElem? e)).2 o ho
def valO (o : Ord) : Int := o.getD 0
theorem count_lt {n : Nat} {f g : Nat → Bool} (h : ∀ x, x < n → f x = true → g x = true) {y : Nat} (hy : y < n) (h1 : f y = false) (h2 : g y = true) : ((List.range n).filter f).length < ((List.range n).filter g).length := by
  have key : ∀ (l : List Nat), (∀ x ∈ l, f x = true → g x = true) → (l.filter f).length ≤ (l.filter g).length ∧ (y ∈ l → (l.filter f).length < (l.filter g).length) := by
    intro l
    induction l with
    | nil => exact fun _ => ⟨Nat.le_refl _, fun h => by cases h⟩
    | cons a l ih =>
      intro hl
      obtain ⟨i1, i2⟩ := ih fun x hx => hl x (List.mem_cons_of_mem _ hx)
      have ha := hl a List.mem_cons_self
      rw [List.filter_cons, List.filter_cons]
      refine ⟨?_, fun hm => ?_⟩
      · by_cases e1 : f a = true
        · rw [if_pos e1, if_pos (ha e1)]
          simp only [List.length_cons]
          omega
        · rw [if_neg e1]
          split
          · simp only [List.length_cons]; omega
          · exact i1
      · rcases List.mem_cons.mp hm with rfl | hm
        · rw [h1, h2, if_neg (by decide), if_pos rfl]
          simp only [List.length_cons]
          omega
        · have i2 := i2 hm
          by_cases e1 : f a = true
          · rw [if_pos e1, if_pos (ha e1)]
            simp only [List.length_cons]
            omega
          · rw [if_neg e1]
            split
            · simp only [List.length_cons]; omega
            · exact i2
  exact (key _ fun x hx => h x (List.mem_range.mp hx)).2 (List.mem_range.mpr hy)
section
variable {s : Sys} {c : Chs} {p q fl : Pl}
/-- the rounds come below each plan that the chosen waits and the floors let -/
theorem jay_rank (hf : fl.length = c.length) (hR : InR s c.length) {u : Nat → Int} {N : Int} (hN : 0 < N) (hu : ∀ e i, cho c e = some i → ∀ o ∈ opts s i, u e < u o.1 + N * o.2)
    (q1 : ∀ e, e < c.length → cho c e = none → naM (ord fl e) (ord q e) = true) (q2 : Sup s c q) : ∀ k e, e < c.length → 
    ((List.range c.length).filter fun x => (ord q x).isSome && decide (u e - N * valO (ord q e) < u x - N * valO (ord q x))).length < k → naM (ord (jay s fl c k) e) (ord q e) = true
  | 0, e, he, h => by omega
  | k + 1, e, he, h => by
    cases hc : cho c e with
    | none => rw [(jay_ok (s := s) hf (k + 1)).2.2 e hc]; exact q1 e he hc
    | some i =>
      cases hq : ord q e with
      | none => cases ord (jay s fl c (k + 1)) e <;> rfl
      | some v =>
        have h2 := q2 e i hc
        rw [hq] at h2
        cases hx : erl q (opts s i) with
        | none => rw [hx] at h2; cases h2
        | some v' =>
          rw [hx] at h2
          have hv : v' ≤ v := of_decide_eq_true h2
          obtain ⟨o, ho, x, ex, es⟩ := erl_some hx
          have hphi : u e - N * v < u o.1 - N * x := by
            have a := hu e i hc o ho
            have b : N * (x + o.2) ≤ N * v := Int.mul_le_mul_of_nonneg_left (by omega) (by omega)
            rw [Int.mul_add] at b
            omega
          have hlt := hR i o ho
          refine naM_trans ((jay_down hf k).2 e i hc) (naM_trans (erl_le ho) ?_)
          have r := jay_rank hf hR hN hu q1 q2 k o.1 hlt (by
            refine Nat.lt_of_lt_of_le (count_lt (y := o.1) (g := fun x => (ord q x).isSome && decide (u e - N * valO (ord q e) < u x - N * valO (ord q x))) (fun z hz h => ?_) hlt ?_ ?_) (by omega)
            · rw [Bool.and_eq_true] at h ⊢
              refine ⟨h.1, decide_eq_true ?_⟩
              have h3 := of_decide_eq_true h.2
              rw [hq]
              rw [ex] at h3
              show u e - N * v < _
              exact Int.lt_trans hphi h3
            · rw [decide_eq_false (Int.lt_irrefl _), Bool.and_false]
            · rw [ex, hq, Option.isSome_some, Bool.true_and]
              exact decide_eq_true hphi)
          rw [ex] at r
          cases hj : ord (jay s fl c k) o.1 with
          | none => rw [hj] at r; cases r
          | some y =>
            rw [hj] at r
            have r : y ≤ x := of_decide_eq_true r
            show decide (y + o.2 ≤ v) = true
            exact decide_eq_true (by omega)
theorem filter_lt {n e : Nat} (he : e < n) {f : Nat → Bool} (h : f e = false) : ((List.range n).filter f).length < n := by
  have := count_lt (f := f) (g := fun _ => true) (n := n) (fun _ _ _ => rfl) he h rfl
  rw [List.filter_eq_self.mpr (fun _ _ => rfl), List.length_range] at this
  exact this
theorem ord_out {r : Pl} {e : Nat} (h : r.length ≤ e) : ord r e = none := by
  unfold ord
  rw [List.getD_eq_getElem?_getD, List.getElem?_eq_none h]
  rfl
theorem jay_le (hf : fl.length = c.length) (hR : InR s c.length) (hC : Cert s c) (hq : q.length ≤ c.length)
    (q1 : ∀ e, e < c.length → cho c e = none → naM (ord fl e) (ord q e) = true) (q2 : Sup s c q) : Le2 (jay s fl c c.length) q := fun e => by
  obtain ⟨u, N, hN, hu⟩ := hC
  by_cases he : e < c.length
  · exact jay_rank hf hR hN hu q1 q2 _ e he (filter_lt he (by rw [decide_eq_false (Int.lt_irrefl _), Bool.and_false]))
  · rw [ord_out (r := q) (by omega)]
    cases ord (jay s fl c c.length) e <;> rfl
/-- as late as its chosen wait alone wants it -/
theorem jay_fix (hf : fl.length = c.length) (hR : InR s c.length) (hC : Cert s c) {e i : Nat} (hc : cho c e = some i) : ord (jay s fl c c.length) e = erl (jay s fl c c.length) (opts s i) := by
  obtain ⟨a, b, d⟩ := jay_ok (s := s) hf (c.length + 1)
  have h := jay_le hf hR hC (Nat.le_of_eq a) (fun e _ h => by rw [d e h]; exact naM_refl _) b
  exact naM_anti (naM_trans (h e) ((jay_down hf c.length).2 e i hc)) ((jay_ok hf c.length).2.1 e i hc)
end
end Zl
end
section
set_option maxHeartbeats 1000000
namespace Zl
/-! ### bounds of finitely many integers -/
theorem bnd_list {α : Type} (g : α → Int) : ∀ l : List α, ∃ B : Int, 0 ≤ B ∧ ∀ x ∈ l, g x < B
  | [] => ⟨0, Int.le_refl _, fun x h => by cases h⟩
  | a :: l => by
    obtain ⟨B, h0, h⟩ := bnd_list g l
    refine ⟨max B (g a + 1), Int.le_trans h0 (Int.le_max_left _ _), fun x hx => ?_⟩
    rcases List.mem_cons.mp hx with rfl | hx
    · exact Int.lt_of_lt_of_le (by omega) (Int.le_max_right _ _)
    · exact Int.lt_of_lt_of_le (h x hx) (Int.le_max_left _ _)
theorem bnd_all (n : Nat) (L : Nat → List Opt) (g : Nat → Opt → Int) : ∃ B : Int, 0 ≤ B ∧ ∀ e, e < n → ∀ o ∈ L e, g e o < B := by
  obtain ⟨B, h0, h⟩ := bnd_list (fun x : Nat × Opt => g x.1 x.2) ((List.range n).flatMap fun e => (L e).map fun o => (e, o))
  refine ⟨B, h0, fun e he o ho => h (e, o) ?_⟩
  exact List.mem_flatMap.mpr ⟨e, List.mem_range.mpr he, List.mem_map.mpr ⟨o, ho, rfl⟩⟩
def optsC (s : Sys) (c : Chs) (e : Nat) : List Opt := match cho c e with
  | some i => opts s i
  | none => []
/-! ### waits chosen anew -/
structure LInv (s : Sys) (fl : Pl) (c : Chs) (p : Pl) : Prop where
  clen : c.length = s.1
  plen : p.length = s.1
  cert : Cert s c
  un : ∀ e, cho c e = none → ord p e = ord fl e
  ch : ∀ e i, cho c e = some i → ord p e = erl p (opts s i)
  ev : ∀ e i, cho c e = some i → ∃ w, s.2[i]? = some w ∧ w.1 = e
  fl : Le2 fl p
/-- later waits, chosen anew -/
structure Sw (s : Sys) (p : Pl) (c c' : Chs) : Prop where
  len : c'.length = c.length
  each : ∀ e, cho c' e = cho c e ∨ ∃ i w, cho c' e = some i ∧ s.2[i]? = some w ∧ w.1 = e ∧ naM (erl p w.2) (ord p e) = false
  some : ∃ e i w, e < c.length ∧ cho c' e = some i ∧ s.2[i]? = some w ∧ naM (erl p w.2) (ord p e) = false
theorem opts_eq {s : Sys} {i : Nat} {w : Wt} (h : s.2[i]? = some w) : opts s i = w.2 := by
  unfold opts
  rw [h]
  rfl
def pot (M N B : Int) (u : Nat → Int) (p : Pl) (e : Nat) : Int := match ord p e with
  | some v => M * N * v + u e
  | none => (M + 1) * u e + B
theorem pot_some {M N B : Int} {u : Nat → Int} {p : Pl} {e : Nat} {v : Int} (h : ord p e = some v) : pot M N B u p e = M * N * v + u e := by
  unfold pot
  rw [h]
theorem pot_none {M N B : Int} {u : Nat → Int} {p : Pl} {e : Nat} (h : ord p e = none) : pot M N B u p e = (M + 1) * u e + B := by
  unfold pot
  rw [h]
section
variable {s : Sys} {fl p : Pl} {c c' : Chs}
theorem cert_step (I : LInv s fl c p) (W : Sw s p c c') : Cert s c' := by
  obtain ⟨u, N, hN, hu⟩ := I.cert
  obtain ⟨M, hM0, hM⟩ := bnd_all c.length (optsC s c') (fun e o => u e - u o.1 - N * o.2)
  obtain ⟨B, hB0, hB⟩ := bnd_all c.length (optsC s c') (fun e o => M * N * valO (ord p e) + u e - (M + 1) * u o.1 - (M * N + N) * o.2)
  refine ⟨pot M N B u p, M * N + N, ?_, fun e i hc o ho => ?_⟩
  · have : 0 ≤ M * N := Int.mul_nonneg hM0 (by omega)
    omega
  have he : e < c.length := W.len ▸ cho_lt hc
  have hm : o ∈ optsC s c' e := by
    unfold optsC
    rw [hc]
    exact ho
  have hMe := hM e he o hm
  have hBe := hB e he o hm
  have hMN : 0 ≤ M * N := Int.mul_nonneg hM0 (by omega)
  cases hp : ord p e with
  | none =>
    -- it never happens: an old wait, all of whose options never happen
    rcases W.each e with h | ⟨j, w, h1, h2, h3, h4⟩
    · rw [hc] at h
      have h := h.symm
      have hx := I.ch e i h
      rw [hp] at hx
      have ho1 : ord p o.1 = none := by
        have z := erl_le (p := p) ho
        rw [← hx] at z
        cases ho2 : ord p o.1 with
        | none => rfl
        | some y => rw [ho2] at z; cases z
      have hu1 := hu e i h o ho
      rw [pot_none hp, pot_none ho1]
      have e1 : (M * N + N) * o.2 = (M + 1) * (N * o.2) := by
        rw [← Int.mul_assoc, Int.add_mul M 1 N, Int.one_mul]
      rw [e1]
      have h5 : (M + 1) * u e < (M + 1) * (u o.1 + N * o.2) := Int.mul_lt_mul_of_pos_left hu1 (by omega)
      rw [Int.mul_add] at h5
      omega
    · rw [hp] at h4
      cases ha : erl p w.2 <;> rw [ha] at h4 <;> cases h4
  | some v =>
    rw [hp] at hBe
    cases ho1 : ord p o.1 with
    | none =>
      rw [pot_some hp, pot_none ho1]
      have hBe : M * N * v + u e - (M + 1) * u o.1 - (M * N + N) * o.2 < B := hBe
      omega
    | some y =>
      rw [pot_some hp, pot_some ho1, Int.add_mul]
      rcases W.each e with h | ⟨j, w, h1, h2, h3, h4⟩
      · rw [hc] at h
        have h := h.symm
        have z := erl_le (p := p) ho
        rw [← I.ch e i h, hp, ho1] at z
        have z : v ≤ y + o.2 := of_decide_eq_true z
        have hu1 := hu e i h o ho
        have h5 : M * N * v ≤ M * N * (y + o.2) := Int.mul_le_mul_of_nonneg_left z hMN
        rw [Int.mul_add] at h5
        omega
      · rw [hc] at h1
        cases h1
        have z := erl_le (p := p) ho
        rw [opts_eq h2] at ho z
        rw [ho1] at z
        have z2 : v < y + o.2 := by
          have z3 := naM_total h4
          rw [hp] at z3 h4
          cases hx : erl p w.2 with
          | none => rw [hx] at z; cases z
          | some x =>
            rw [hx] at z h4
            have z : x ≤ y + o.2 := of_decide_eq_true z
            have h4 : ¬ x ≤ v := of_decide_eq_false h4
            omega
        have h5 : M * N * v ≤ M * N * (y + o.2 - 1) := Int.mul_le_mul_of_nonneg_left (by omega) hMN
        have e1 : M * N * (y + o.2 - 1) = M * N * y + M * N * o.2 - M * N := by
          rw [Int.mul_sub, Int.mul_add, Int.mul_one]
        rw [e1] at h5
        have h6 : M * 1 ≤ M * N := Int.mul_le_mul_of_nonneg_left (by omega) hM0
        omega
theorem sub_step (I : LInv s fl c p) (W : Sw s p c c') : Sub s fl c' p := by
  refine ⟨fun e h => ?_, fun e i h => ?_⟩
  · rcases W.each e with z | ⟨j, w, h1, _⟩
    · rw [h] at z
      rw [I.un e z.symm]
      exact naM_refl _
    · rw [h] at h1
      cases h1
  · rcases W.each e with z | ⟨j, w, h1, h2, h3, h4⟩
    · rw [h] at z
      rw [I.ch e i z.symm]
      exact naM_refl _
    · rw [h] at h1
      cases h1
      rw [opts_eq h2]
      exact naM_total h4
/-- the next plan: right for the waits chosen anew, and later -/
theorem linv_step (hs : SysIn s) (hf : fl.length = s.1) (I : LInv s fl c p) (W : Sw s p c c') : LInv s fl c' (pbc s fl c') ∧ Le2 p (pbc s fl c') ∧ ¬ Le2 (pbc s fl c') p := by
  have hl : c'.length = s.1 := W.len.trans I.clen
  have hf' : fl.length = c'.length := hf.trans hl.symm
  have hR : InR s c'.length := hl ▸ inR_of hs
  have hC := cert_step I W
  have hj : pbc s fl c' = jay s fl c' c'.length := by
    unfold pbc
    rw [hl]
  obtain ⟨a, b, d⟩ := jay_ok (s := s) hf' c'.length
  have hup := jay_sub hf' (sub_step I W) c'.length
  rw [hj]
  refine ⟨⟨hl, a.trans hl, hC, d, fun e i h => jay_fix hf' hR hC h, fun e i h => ?_, I.fl.trans hup⟩, hup, fun q => ?_⟩
  · rcases W.each e with z | ⟨j, w, h1, h2, h3, _⟩
    · rw [h] at z
      exact I.ev e i z.symm
    · rw [h] at h1
      cases h1
      exact ⟨w, h2, h3⟩
  · obtain ⟨e, i, w, he, h1, h2, h3⟩ := W.some
    have z := q e
    rw [jay_fix hf' hR hC h1, opts_eq h2] at z
    have z2 := naM_trans (erl_mono hup w.2) z
    rw [z2] at h3
    cases h3
/-- no plan that keeps the system from the floors on has a lesser order -/
theorem linv_least (hs : SysIn s) (hf : fl.length = s.1) (I : LInv s fl c p) {q : Pl} (hq : q.length = s.1) (hk : keepsM s q = true) (hfq : Le2 fl q) (hp : p = pbc s fl c) : Le2 p q := by
  have hf' : fl.length = c.length := hf.trans I.clen.symm
  have hj : pbc s fl c = jay s fl c c.length := by
    unfold pbc
    rw [I.clen]
  rw [hp, hj]
  refine jay_le hf' (I.clen ▸ inR_of hs) I.cert (by rw [hq, I.clen]; exact Nat.le_refl _) (fun e _ _ => hfq e) fun e i h => ?_
  obtain ⟨w, h1, h2⟩ := I.ev e i h
  rw [opts_eq h1, ← h2]
  exact List.all_eq_true.mp hk w (List.mem_of_getElem? h1)
theorem linv_start (hf : fl.length = s.1) : LInv s fl (List.replicate s.1 none) fl := by
  have hn : ∀ e, cho (List.replicate s.1 none) e = none := fun e => by
    unfold cho
    rw [List.getD_eq_getElem?_getD, List.getElem?_replicate]
    split <;> rfl
  refine ⟨List.length_replicate, hf, ⟨fun _ => 0, 1, by decide, fun e i h => ?_⟩, fun _ _ => rfl, fun e i h => ?_, fun e i h => ?_, .refl fl⟩
  · rw [hn e] at h; cases h
  · rw [hn e] at h; cases h
  · rw [hn e] at h; cases h
end
/-! ### there are only so many choices -/
def allC (m : Nat) : Nat → List Chs
  | 0 => [[]]
  | k + 1 => (allC m k).flatMap fun c => (none :: (List.range m).map some).map fun x => x :: c
theorem mem_allC {m : Nat} : ∀ {c : Chs}, (∀ i, some i ∈ c → i < m) → c ∈ allC m c.length
  | [], _ => List.mem_cons_self
  | x :: c, h => by
    refine List.mem_flatMap.mpr ⟨c, mem_allC fun i hi => h i (List.mem_cons_of_mem _ hi), List.mem_map.mpr ⟨x, ?_, rfl⟩⟩
    cases x with
    | none => exact List.mem_cons_self
    | some i => exact List.mem_cons_of_mem _ (List.mem_map.mpr ⟨i, List.mem_range.mpr (h i List.mem_cons_self), rfl⟩)
open Classical in
/-- how many choices lead to later plans -/
noncomputable def above (s : Sys) (fl : Pl) (p : Pl) : Nat := ((allC s.2.length s.1).filter fun c => decide (Le2 p (pbc s fl c) ∧ ¬ Le2 (pbc s fl c) p)).length
theorem filter_len_lt {α : Type} {l : List α} {f g : α → Bool} (h : ∀ x ∈ l, f x = true → g x = true) {y : α} (hy : y ∈ l) (h1 : f y = false) (h2 : g y = true) : (l.filter f).length < (l.filter g).length := by
  have key : ∀ (l : List α), (∀ x ∈ l, f x = true → g x = true) → (l.filter f).length ≤ (l.filter g).length ∧ (y ∈ l → (l.filter f).length < (l.filter g).length) := by
    intro l
    induction l with
    | nil => exact fun _ => ⟨Nat.le_refl _, fun h => by cases h⟩
    | cons a l ih =>
      intro hl
      obtain ⟨i1, i2⟩ := ih fun x hx => hl x (List.mem_cons_of_mem _ hx)
      have ha := hl a List.mem_cons_self
      rw [List.filter_cons, List.filter_cons]
      refine ⟨?_, fun hm => ?_⟩
      · by_cases e1 : f a = true
        · rw [if_pos e1, if_pos (ha e1)]
          simp only [List.length_cons]
          omega
        · rw [if_neg e1]
          split
          · simp only [List.length_cons]; omega
          · exact i1
      · rcases List.mem_cons.mp hm with rfl | hm
        · rw [h1, h2, if_neg (by decide), if_pos rfl]
          simp only [List.length_cons]
          omega
        · have i2 := i2 hm
          by_cases e1 : f a = true
          · rw [if_pos e1, if_pos (ha e1)]
            simp only [List.length_cons]
            omega
          · rw [if_neg e1]
            split
            · simp only [List.length_cons]; omega
            · exact i2
  exact (key l h).2 hy
open Classical in
theorem above_lt {s : Sys} {fl p : Pl} {c' : Chs} (hl : c'.length = s.1) (hc : ∀ i, some i ∈ c' → i < s.2.length) (h1 : Le2 p (pbc s fl c')) (h2 : ¬ Le2 (pbc s fl c') p) : above s fl (pbc s fl c') < above s fl p := by
  unfold above
  refine filter_len_lt (y := c') (fun x _ hx => ?_) (hl ▸ mem_allC hc) ?_ ?_
  · obtain ⟨a, b⟩ := of_decide_eq_true hx
    exact decide_eq_true ⟨h1.trans a, fun z => b (z.trans h1)⟩
  · exact decide_eq_false fun h => h.2 (.refl _)
  · exact decide_eq_true ⟨h1, h2⟩
end Zl
end
section
set_option maxHeartbeats 1000000
/-! zip of a tuple and a list -/
namespace Zl
open PySem PySem.Spec PyProof.Rows L2 RZ
/-- a tuple and a list, walked side by side -/
def ItTL (K : PySem.W.Frag) (a b : Addr) : It where
  go := fun i H => ∃ (vs us : List V) (v u : V), SqT K H a vs ∧ SqL K H b us ∧ vs[i]? = some v ∧ us[i]? = some u
  yld := fun i H r H' => ∃ (T : Addr) (v u : V), r = .ref T ∧ H T = none ∧ H' = upd H T (.tup [v, u]) ∧ (∀ vs, SqT K H a vs → vs[i]? = some v) ∧ ∀ us, SqL K H b us → us[i]? = some u
  stop := fun i H => ∃ vs us : List V, SqT K H a vs ∧ SqL K H b us ∧ i = min vs.length us.length
structure TLst (h : Heap) (z TI TO i1 i2 a b : Addr) (i : Nat) : Prop where
  hz : IsZip h z TI TO .none
  ti : IsTupOf2 h TI (.ref i1) (.ref i2)
  to : ∃ x y, IsTupOf2 h TO x y
  d1 : h.IsTupleIter i1 a i
  d2 : h.IsListIter i2 b i
theorem mem5 {c z TI TO i1 i2 : Addr} (h : c ∈ [z, TI, TO, i1, i2]) : c = z ∨ c = TI ∨ c = TO ∨ c = i1 ∨ c = i2 := by simpa using h
theorem TLst.lt {h : Heap} {z TI TO i1 i2 a b c : Addr} {i : Nat} (S : TLst h z TI TO i1 i2 a b i) (hc : c ∈ [z, TI, TO, i1, i2]) : c < h.objs.size := by
  obtain ⟨x, y, h3⟩ := S.to
  obtain ⟨_, h4, _⟩ := S.d1
  obtain ⟨_, h5, _⟩ := S.d2
  rcases mem5 hc with q | q | q | q | q <;> rw [q]
  · exact Heap.lt_size S.hz
  · exact Heap.lt_size S.ti
  · exact Heap.lt_size h3
  · exact Heap.lt_size h4
  · exact Heap.lt_size h5
theorem turn_TL {P : Program} {w : World} {K : PySem.W.Frag} {elts : List Expr} {kk : Nat} {tpos : Pos} {a b z TI TO i1 i2 : Addr} (D : ZipSep2 z TI TO i1 i2 [i1, a] [i2, b]) (ha : a ≠ i1) (hb : b ≠ i2) :
    Turn P w K (.Tuple elts kk tpos) (ItTL K a b) [z, TI, TO, i1, i2] z (fun i h => TLst h z TI TO i1 i2 a b i) where
  mem := List.mem_cons_self
  obj := fun i h S c hc => by
    obtain ⟨x, y, h3⟩ := S.to
    obtain ⟨o1, h4, _, e1⟩ := S.d1
    obtain ⟨o2, h5, _, e2⟩ := S.d2
    rcases mem5 hc with rfl | rfl | rfl | rfl | rfl
    · exact ⟨_, S.hz, fun v => nofun⟩
    · exact ⟨_, S.ti, fun v => nofun⟩
    · exact ⟨_, h3, fun v => nofun⟩
    · exact ⟨o1, h4, fun v z => by rw [e1] at z; exact nomatch z⟩
    · exact ⟨o2, h5, fun v z => by rw [e2] at z; exact nomatch z⟩
  keep := fun i h h' S k => by
    obtain ⟨x, y, h3⟩ := S.to
    exact ⟨k z (by simp) _ S.hz, k TI (by simp) _ S.ti, ⟨x, y, k TO (by simp) _ h3⟩, S.d1.at fun o q => k i1 (by simp) o q, S.d2.at fun o q => k i2 (by simp) o q⟩
  item := by
    intro X hP hw hK hc i pins s σ H E I hf S hg
    subst hP hw hK
    obtain ⟨vs, us, v, u, q1, q2, ev, eu⟩ := hg
    obtain ⟨its, rv, p, _⟩ := I.tuple q1
    obtain ⟨jts, ru, r, _⟩ := I.list q2
    obtain ⟨v', hv, r1⟩ := rv.get ev
    obtain ⟨u', hu, r2⟩ := ru.get eu
    have hh : X.A.in1.handled = none := I.ok.hd hc
    obtain ⟨x0, y0, h3⟩ := S.to
    have l1 : i < its.toArray.size := by
      have := (List.getElem?_eq_some_iff.mp hv).1
      simpa using this
    have l2 : i < jts.toArray.size := by
      have := (List.getElem?_eq_some_iff.mp hu).1
      simpa using this
    refine wpAny_pyNext_zipD2_item D (Draws.tuple hh i1 a ha its.toArray) (Draws.list hh i2 b hb jts.toArray) S.hz S.ti h3 ⟨S.d1, p⟩ ⟨S.d2, r.isList⟩ l1 l2 fun x1 x2 h' tk y1 y2 b1 b2 d1 d2 b5 b6 b7 => ?_
    have e1 : x1 = v' := by
      have y1 : its.toArray[i]? = some x1 := y1
      rw [List.getElem?_toArray, hv] at y1
      exact (Option.some.inj y1).symm
    have e2 : x2 = u' := by
      have y2 : jts.toArray[i]? = some x2 := y2
      rw [List.getElem?_toArray, hu] at y2
      exact (Option.some.inj y2).symm
    subst e1 e2
    refine ⟨_, rfl, wpAny_letOwnedTupleGo_zip (s := { s with heap := h', toks := tk }) b1 fun h2 z2 sb => ?_⟩
    have ne : ∀ {c : Addr}, c ≠ z → ∀ {o : Obj}, h'.get? c = some o → h2.get? c = some o := fun {c} n {o} e => (sb.2 c n).trans e
    have nz : s.heap.objs.size ≠ z := fun q => Nat.lt_irrefl _ (Nat.lt_of_lt_of_eq (Heap.lt_size S.hz) q)
    have new : ObjOk X.prog X.w (upd H s.heap.objs.size (.tup [v, u])) h2 s.heap.objs.size (.tup [v, u]) :=
      ⟨by show 2 ≤ sizeLine; decide, [x1, x2], .cons r1 (.cons r2 .nil), ⟨_, ne nz b5, rfl, _, rfl⟩⟩
    have I1 : Inv X pins σ (upd H s.heap.objs.size (.tup [v, u])) { s with heap := h2, toks := tk } := I.turnedNew (t' := tk) (ch := [z, TI, TO, i1, i2]) (fun c o hb q => by
      simp only [List.mem_cons, List.not_mem_nil, or_false, not_or] at hb
      exact ne hb.1 (b7 c o hb.1 hb.2.2.1 hb.2.2.2.1 hb.2.2.2.2 q)) hf (Nat.le_refl _) new
    refine ⟨.ref s.heap.objs.size, _, I1, rfl, ⟨_, v, u, rfl, I.hok.fresh (Nat.le_refl _), rfl, fun l hl => by rw [I.tuple_inj hl q1]; exact ev, fun l hl => by rw [I.list_inj hl q2]; exact eu⟩, ⟨z2, ne D.TIz (b7 _ _ D.TIz D.TITO D.TIi1 D.TIi2 S.ti), ⟨x1, x2, ne D.TOz b2⟩, d1.1.at fun o q => ne (fun e => D.zi1 e.symm) q, d2.1.at fun o q => ne (fun e => D.zi2 e.symm) q⟩, fun c hcm => ?_⟩
    rw [upd_ne (Nat.ne_of_lt (S.lt hcm))]
    exact (hf c hcm).1
  done := by
    intro X hP hw hK hc i pins s σ H E I hf S hg
    subst hP hw hK
    obtain ⟨vs, us, q1, q2, hend⟩ := hg
    obtain ⟨its, rv, p, _⟩ := I.tuple q1
    obtain ⟨jts, ru, r, _⟩ := I.list q2
    have hh : X.A.in1.handled = none := I.ok.hd hc
    obtain ⟨x0, y0, h3⟩ := S.to
    have l1 : its.toArray.size = vs.length := by
      rw [List.size_toArray, rv.length]
    have l2 : jts.toArray.size = us.length := by
      rw [List.size_toArray, ru.length]
    refine wpAny_pyNext_zipD2_end D (Draws.tuple hh i1 a ha its.toArray) (Draws.list hh i2 b hb jts.toArray) S.hz S.ti h3 ⟨S.d1, p⟩ ⟨S.d2, r.isList⟩ (by omega) (by omega) (by omega) fun h' tk hk => ⟨rfl, I.turnedL (t' := tk) (ch := [z, TI, TO, i1, i2]) (fun c o hb q => ?_) hf⟩
    simp only [List.mem_cons, List.not_mem_nil, or_false, not_or] at hb
    exact hk c o hb.1 hb.2.2.1 hb.2.2.2.1 hb.2.2.2.2 q
  self := fun A i s Q E S h => wpAny_pyIter_zip S.hz h
def iZipTL (K : PySem.W.Frag) (ta : TA) : TI := fun σ H R => ta σ H fun vs H1 => ∃ a b xs ys, vs = [.ref a, .ref b] ∧ SqT K H1 a xs ∧ SqL K H1 b ys ∧ R (ItTL K a b) H1
theorem pi_zipTL {X : Cx} {e e2 : Expr} {ta : TA} {p pos tpos : Pos} {elts : List Expr} {kk : Nat} (hg : Gl X "zip") (hm : X.mg "zip" = none) (ha : PA X [e, e2] ta)
    (hs : starEach [e, e2] X.env = (false, eval e X.env) :: starEach [e2] X.env := by rfl) (hpl : (backTo pos (starEach [e2] X.env)).any (·.1) = false := by rfl) : PI X (.Tuple elts kk tpos) (.Call (.Name "zip" p) [e, e2] [] pos) (iZipTL X.K ta) := by
  constructor
  intro pins s σ H R I h
  refine Call_ (ld_blt I hg hm PyProof.Rows.boot_zip (PyProof.Rows.callWith_type1 (thn (ha.run pos pins s σ H _ I h) ?_) hs hpl))
  rintro us s1 ⟨vs, H1, I1, r1, a, b, xs, ys, rfl, q1, q2, q⟩
  obtain ⟨u, u', rfl, ra, rb⟩ := vals2 r1
  cases ra
  cases rb
  obtain ⟨its, rv, p1, _⟩ := I1.tuple q1
  obtain ⟨jts, ru, p2, _⟩ := I1.list q2
  have la : a < s1.heap.objs.size := by
    obtain ⟨o, ho, _⟩ := id p1
    exact Heap.lt_size ho
  have lb : b < s1.heap.objs.size := p2.lt
  have fr : ∀ c, c ∈ [s1.heap.objs.size + 4, s1.heap.objs.size + 2, s1.heap.objs.size + 3, s1.heap.objs.size, s1.heap.objs.size + 1] → FpOk X pins H1 c := fun c hc => by
    have hle : s1.heap.objs.size ≤ c := by
      rcases mem5 hc with z | z | z | z | z <;> rw [z] <;> first | exact Nat.le_add_right _ _ | exact Nat.le_refl _
    exact I1.fpOk hle (I1.hok.fresh hle)
  refine zip_begins2 (begins_tuple a its.toArray) (begins_list b jts.toArray) p1 p2.isList fun h' hz hTI hTO g1 g2 hsz hk => wpAny_pyIter_zip hz ?_
  have I2 : Inv X pins σ H1 { s1 with heap := h' } := I1.kept (t' := s1.toks) hk
  have S := zip_sep2 (N := s1.heap.objs.size) (fp1 := [a]) (fp2 := [b]) (fun c hc => by rw [List.mem_singleton.mp hc]; exact la) (fun c hc => by rw [List.mem_singleton.mp hc]; exact lb)
  exact ⟨_, [s1.heap.objs.size + 4, s1.heap.objs.size + 2, s1.heap.objs.size + 3, s1.heap.objs.size, s1.heap.objs.size + 1], _, _, H1, rfl, I2, turn_TL S (Nat.ne_of_lt la) (Nat.ne_of_lt (Nat.lt_succ_of_lt lb)), ⟨hz, hTI, ⟨_, _, hTO⟩, ⟨_, g1, rfl, rfl⟩, ⟨_, g2, rfl, rfl⟩⟩, fr, q⟩
theorem walk_zipTL {K : PySem.W.Frag} {a b : Addr} {xs ys : List V} {n : Nat} (hn : n = min xs.length ys.length) : Walk (ItTL K a b) n (fun H => SqT K H a xs ∧ SqL K H b ys) (YPair (fun i => xs[i]?) (fun i => ys[i]?)) where
  goes := fun i H hi q => ⟨xs, ys, xs[i]'(by omega), ys[i]'(by omega), q.1, q.2, List.getElem?_eq_getElem _, List.getElem?_eq_getElem _⟩
  stops := fun H q => ⟨xs, ys, q.1, q.2, hn⟩
  yields := fun i H r H' hi q y => by
    obtain ⟨T, v, u, e1, e2, e3, e4, e5⟩ := y
    exact ⟨T, v, u, e1, e2, e3, e4 xs q.1, e5 ys q.2⟩
def iZipTLz (t : TPa) : TIz := fun δ q => t δ fun ws => match ws with
  | [.d (.tuple xs), .d (.list ys)] => q (zipD xs ys)
  | _ => False
theorem zi_zipTL {X : Cx} {a b : Expr} {ta : TPa} {p pos tpos : Pos} {elts : List Expr} {kk : Nat} (hg : Gl X "zip") (hm : X.mg "zip" = none) (ha : ZA X [a, b] ta)
    (hs : starEach [a, b] X.env = (false, eval a X.env) :: starEach [b] X.env := by rfl) (hpl : (backTo pos (starEach [b] X.env)).any (·.1) = false := by rfl) :
    ZI X (.Tuple elts kk tpos) (.Call (.Name "zip" p) [a, b] [] pos) (iZipTLz ta) := pi_imp (pi_zipTL hg hm ha hs hpl) fun σ H R => by
  rintro ⟨P, Hc, δ, q, Rw, ht, post⟩
  refine ⟨P, Hc, δ, _, Rw, ht, fun Hc' H' vs ws l f R' rv hq => ?_⟩
  split at hq
  · rename_i xs ys
    obtain ⟨v, u, rfl, r, s⟩ := rv.two
    have z : RV X.K Hc' v (.tuple xs) := r
    have z' : RV X.K Hc' u (.list ys) := s
    cases z with
    | tup h1 hz h2 =>
      cases z' with
      | lst h3 _ h4 =>
        refine ⟨_, _, _, _, rfl, SqT.of (R'.coldH _ _ h1), SqL.of (R'.coldH _ _ h3), post Hc' H' _ _ l f R' (Wk.pairs (fun l Hc2 H2 σ2 δ2 le R2 => ⟨SqT.of (R2.coldH _ _ (le _ _ h1)), SqL.of (R2.coldH _ _ (le _ _ h3))⟩) (walk_zipTL rfl) (by rw [h2.len]; omega) ?_ fun i d e => ?_) hq⟩
        · unfold zipD
          rw [List.length_map, List.length_zip, h2.len, h4.len]
        · obtain ⟨x, y, e1, e2, rfl⟩ := zipD_at e
          obtain ⟨x', e3, r2⟩ := h2.get e1
          obtain ⟨y', e4, r3⟩ := h4.get e2
          exact ⟨x', y', x, y, e3, e4, rfl, r2, r3⟩
  · exact hq.elim
end Zl
end
section
set_option maxHeartbeats 1000000
namespace Zl
open PySem PySem.Spec PyProof.Rows L2
section
variable {P : Program} {w : World} {K : PySem.W.Frag} {mg : Str → Option Value} {base : Heap}
/-- indexes of waits, None of none -/
def idxD : Option Nat → D
  | none => .none
  | some i => .int (i : Nat)
def chsD (c : Chs) : D := .list (c.map idxD)
structure ChsIn (s : Sys) (c : Chs) : Prop where
  len : c.length = s.1
  ok : ∀ e i, cho c e = some i → ∃ w, s.2[i]? = some w
theorem wait_at {ws : List Wt} {i : Nat} {w : Wt} (h : ws[i]? = some w) : L2.atI (ws.map waitD) (i : Int) = some (waitD w) := atI_nat (by rw [List.getElem?_map, h]; rfl)
theorem zipIdx_snd {α : Type} (l : List α) : l.zipIdx.map (·.2) = List.range l.length := by
  apply List.ext_getElem
  · simp
  · intro i h1 h2
    simp
theorem cho_at {c : Chs} {x : Option Nat × Nat} (h : x ∈ c.zipIdx) : cho c x.2 = x.1 := by
  have e : c[x.2]? = some x.1 := List.mk_mem_zipIdx_iff_getElem?.mp h
  unfold cho
  rw [List.getD_eq_getElem?_getD, e]
  rfl
def pbcS (s : Sys) (fl : Pl) (c : Chs) (p : Pl) (a b e : Sl) : List Sl := [.w (.d (sysD s)), .w (.d (plD true fl)), .w (.d (chsD c)), .w (.d (.int (s.1 : Nat))), .w (.d (.tuple (s.2.map waitD))), .hl (p.map ordD), a, b, e, .un]
def sp_plan_by_chosen : Spz := fun ws q => ∃ (s : Sys) (fl : Pl) (c : Chs), ws = [.d (sysD s), .d (plD true fl), .d (chsD c)] ∧ SysIn s ∧ fl.length = s.1 ∧ ChsIn s c ∧ q (.d (plD true (pbc s fl c)))
theorem ok_plan_by_chosen (M : Mgz mg) (Dd : Vq.D1 K mg "plan_by_chosen" s_plan_by_chosen ["system", "floors", "chosen"]) (c_earliest_by : ZCal P w K mg base 2 "earliest_by" sp_earliest_by) : ZCal P w K mg base 3 "plan_by_chosen" sp_plan_by_chosen := by
  refine zcal false Dd sc_plan_by_chosen (fun ws q h => ?_) fun f cdv A outer s H E hG hr => ⟨_, (zb_cons (zs_asg (zv 0) (zg_tup rfl (zgs_cons (zg_name (i := 3) sc_plan_by_chosen.nd rfl (.inl rfl)) (zgs_cons (zg_name (i := 4) sc_plan_by_chosen.nd rfl (.inl rfl)) zgs_nil))))
      (zb_cons (zs_setLc (y := 5) (own := [("floor", 9), ("index", 8)]) rfl sc_plan_by_chosen.nd (zi_zipTL (by rfl) M.zip (za_cons (zv 1) (za_cons (zv 2) za_nil))) (blkOk_by (own := [("floor", 9), ("index", 8)]) (N := n_plan_by_chosen) (sc := defScope s_plan_by_chosen) (by first | decide +kernel | kernel_rfl | rfl)) (fun _ _ _ _ _ => (pg_tupK K rfl (n := 2) rfl (pgs_cons (pg_name (i := 9) sc_plan_by_chosen.nd rfl (.inl rfl)) (pgs_cons (pg_name (i := 8) sc_plan_by_chosen.nd rfl (.inl rfl)) pgs_nil)))) (gr_tup (n := 2) (gr_cons (gr_name (by decide)) (gr_cons (gr_name (by decide)) gr_nil))) (fun _ _ _ _ _ => (z_if (zt_isN (zv 8) znon (nomark _)) (zv 9) znon)))
      (zb_cons (zs_for PassesOwn.never rfl (zi_range1 rfl M.range (za_cons (zv 3) za_nil)) (zg_name (i := 6) sc_plan_by_chosen.nd rfl (.inl rfl)) (zb_one (zs_for PassesOwn.never rfl (zi_enumL rfl M.enumerate (za_cons (zv 2) za_nil)) (zg_tup rfl (zgs_cons (zg_name (i := 7) sc_plan_by_chosen.nd rfl (.inl rfl)) (zgs_cons (zg_name (i := 8) sc_plan_by_chosen.nd rfl (.inl rfl)) zgs_nil))) (zb_one (zs_if (zt_notN (zv 8) znon (nomark _)) (zb_one (zs_setL (j := 5) (z_callH hG c_earliest_by hr (by decide) rfl (za_cons (zv 5) (za_cons (z_ix (zv 4) (zv 8)) za_nil))) (zv 7) (fun h k => ps_asg h (pg_sub (pv 5) k set_list)))) zb_nil)))))
      (zb_one (zs_ret (z_ty t_tuple (by rfl) M.tuple (by decide +kernel) (za_cons (zv 5) za_nil))))))), fun ws Q0 h => ?_⟩
  · obtain ⟨s, fl, c, rfl, _⟩ := h
    rfl
  · obtain ⟨s, fl, c, rfl, hs, hf, hc, q⟩ := h
    have hl : fl.length = c.length := hf.trans hc.len.symm
    show zComp _ _ _ _ _ (zipD (fl.map ordD) (c.map idxD)) []
    rw [zipD_map]
    refine zComp_map (fun (x : Ord × Option Nat) => .tuple [ordD x.1, idxD x.2]) (fun x => ordD (if x.2 = none then x.1 else none)) (fl.zip c) (fun x hx k k0 h => ?_) ?_
    · obtain ⟨o, i⟩ := x
      cases i
      · exact h
      · exact h
    · have h1 := hs.ev
      refine ⟨⟨by omega, by omega⟩, ?_⟩
      show zLoop _ _ _ ((List.range s.1).map fun (i : Nat) => PyData.int (0 + i)) _
      refine zLoop_inv (fun (i : Nat) => PyData.int (0 + i)) (fun xs δ => ∃ (k : Nat) (a b e : Sl), xs.length + k = s.1 ∧ δ = pbcS s fl c (jay s fl c k) a b e) (fun x xs δ h k hk => ?_) (fun δ h => ?_) (List.range s.1) _ ⟨0, .un, .un, .un, by rw [List.length_range]; rfl, ?_⟩
      · obtain ⟨j, a, b, e, hj, rfl⟩ := h
        obtain ⟨j1, j2, j3⟩ := jay_ok (s := s) hl j
        show zLoop _ _ _ (enumD (c.map idxD)) _
        rw [enumD_map]
        refine zLoop_inv (fun (p : Option Nat × Nat) => .tuple [.int (p.2 : Nat), idxD p.1]) (fun xs δ => ∃ (dn : List (Option Nat × Nat)) (b e : Sl), c.zipIdx = dn ++ xs ∧ δ = pbcS s fl c (roundE s c (jay s fl c j) (dn.map (·.2))) (.w (.d (.int (0 + x)))) b e) (fun y ys δ h k2 hk2 => ?_) (fun δ h => ?_) c.zipIdx _ ⟨[], b, e, rfl, rfl⟩
        · obtain ⟨dn, b1, e1, hz, rfl⟩ := h
          have hy : y ∈ c.zipIdx := by rw [hz]; exact List.mem_append_right _ List.mem_cons_self
          have hcy := cho_at hy
          have hz2 : c.zipIdx = (dn ++ [y]) ++ ys := by rw [hz, List.append_assoc]; rfl
          obtain ⟨r1, r2, r3, r4, r5⟩ := roundE_ok (s := s) (c := c) (dn.map (·.2)) j1 j2
          have er : roundE s c (jay s fl c j) ((dn ++ [y]).map (·.2)) = updE s c (roundE s c (jay s fl c j) (dn.map (·.2))) y.2 := by
            unfold roundE
            rw [List.map_append, List.foldl_append]
            rfl
          obtain ⟨o, ev⟩ := y
          cases o with
          | none => exact hk2 _ ⟨dn ++ [(none, ev)], .w (.d (.int (ev : Nat))), .w (.d .none), hz2, by rw [er, updE_no hcy]; rfl⟩
          | some i =>
            obtain ⟨wt, hw⟩ := hc.ok ev i hcy
            show (match L2.atI (s.2.map waitD) ((i : Nat) : Int) with
              | some d => _
              | none => False)
            rw [wait_at hw]
            refine ⟨false, roundE s c (jay s fl c j) (dn.map (·.2)), wt, rfl, by rw [r1, hc.len]; exact (hs.ok wt (List.mem_of_getElem? hw)).2, ?_⟩
            have hev : ev < c.length := cho_lt hcy
            have ei : ixN ((roundE s c (jay s fl c j) (dn.map (·.2))).map ordD).length ((ev : Nat) : Int) = some ev := by
              unfold ixN
              rw [List.length_map, r1, if_pos (by omega), if_pos (by omega), Int.toNat_natCast]
            have es : updE s c (roundE s c (jay s fl c j) (dn.map (·.2))) ev = (roundE s c (jay s fl c j) (dn.map (·.2))).set ev (erl (roundE s c (jay s fl c j) (dn.map (·.2))) wt.2) := by
              have hcy : cho c ev = some i := hcy
              unfold updE
              rw [hcy]
              show List.set _ ev (erl _ (opts s i)) = _
              rw [opts_eq hw]
            have fin : ∀ o, erl (roundE s c (jay s fl c j) (dn.map (·.2))) wt.2 = o → k2 (pbcS s fl c (((roundE s c (jay s fl c j) (dn.map (·.2)))).set ev o) (.w (.d (.int (0 + x)))) (.w (.d (.int (ev : Nat)))) (.w (.d (.int (i : Nat))))) := fun o ho => by
              refine hk2 _ ⟨dn ++ [(some i, ev)], .w (.d (.int (ev : Nat))), .w (.d (.int (i : Nat))), hz2, ?_⟩
              rw [er, es, ho]
            cases ho : erl (roundE s c (jay s fl c j) (dn.map (·.2))) wt.2 with
            | none =>
              show (match ixN ((roundE s c (jay s fl c j) (dn.map (·.2))).map ordD).length ((ev : Nat) : Int) with
                | some m => _
                | none => False)
              rw [ei]
              have z := fin _ ho
              unfold pbcS at z
              rw [List.map_set] at z
              exact z
            | some v =>
              show (match ixN ((roundE s c (jay s fl c j) (dn.map (·.2))).map ordD).length ((ev : Nat) : Int) with
                | some m => _
                | none => False)
              rw [ei]
              have z := fin _ ho
              unfold pbcS at z
              rw [List.map_set] at z
              exact z
        · obtain ⟨dn, b1, e1, hz, rfl⟩ := h
          rw [List.append_nil] at hz
          refine hk _ ⟨j + 1, .w (.d (.int (0 + x))), b1, e1, by rw [List.length_cons] at hj; omega, ?_⟩
          rw [← hz, zipIdx_snd]
          rfl
      · obtain ⟨j, a, b, e, hj, rfl⟩ := h
        have hj : j = s.1 := by
          rw [List.length_nil] at hj
          omega
        subst hj
        exact q
      · have e : (fl.zip c).map (fun x => ordD (if x.2 = none then x.1 else none)) = (jay s fl c 0).map ordD := by
          show _ = (startP fl c).map ordD
          unfold startP
          rw [List.map_map]
          rfl
        rw [e]
        rfl
end
end Zl
end
section
set_option maxHeartbeats 1000000
namespace Zl
open PySem PySem.Spec PyProof.Rows L2
/-! ### waits chosen anew from a dict -/
def lk (fo : List (Nat × Nat)) (e : Nat) : Option Nat := (fo.find? fun x => decide (x.1 = e)).map (·.2)
def newO (fo : List (Nat × Nat)) (x : Option Nat × Nat) : Option Nat := match lk fo x.2 with
  | some i => some i
  | none => x.1
def newC (c : Chs) (fo : List (Nat × Nat)) : Chs := c.zipIdx.map (newO fo)
theorem dct_fk : ∀ fo : List (Nat × Nat), dctW (.d (dictD fo)) = some (fo.map fkD)
  | [] => rfl
  | x :: fo => by
    have h := dct_fk fo
    unfold dctW dictD at h ⊢
    change List.mapM _ _ = _ at h
    change List.mapM _ (_ :: _) = _
    rw [List.mapM_cons, h]
    rfl
theorem look_fk (fo : List (Nat × Nat)) (e : Nat) : lookD (fo.map fkD) (.inl (e : Int)) = (lk fo e).map fun i => .int (i : Nat) := by
  unfold lookD lk
  rw [List.find?_map]
  have h : ((fun kv : Key × D => decide (kv.1 = (.inl (e : Int) : Key))) ∘ fkD) = fun x : Nat × Nat => decide (x.1 = e) := by
    funext x
    show decide ((Sum.inl (x.1 : Int) : Key) = Sum.inl (e : Int)) = _
    by_cases q : x.1 = e
    · rw [decide_eq_true q, decide_eq_true (by rw [q])]
    · rw [decide_eq_false q, decide_eq_false]
      intro z
      injection z with z
      omega
  rw [h]
  cases fo.find? fun x => decide (x.1 = e) <;> rfl
theorem lk_mem {fo : List (Nat × Nat)} {e i : Nat} (h : lk fo e = some i) : (e, i) ∈ fo := by
  unfold lk at h
  cases q : fo.find? fun x => decide (x.1 = e) with
  | none => rw [q] at h; cases h
  | some x =>
    rw [q] at h
    have h : some x.2 = some i := h
    cases h
    have h1 := List.find?_some q
    have h2 := List.mem_of_find?_eq_some q
    have h1 := of_decide_eq_true h1
    rw [← h1]
    exact h2
theorem new_at (c : Chs) (fo : List (Nat × Nat)) {e : Nat} (he : e < c.length) : cho (newC c fo) e = newO fo (cho c e, e) := by
  unfold newC cho
  rw [List.getD_eq_getElem?_getD, List.getElem?_map, List.getElem?_zipIdx, List.getD_eq_getElem?_getD, List.getElem?_eq_getElem he]
  simp
theorem new_len (c : Chs) (fo : List (Nat × Nat)) : (newC c fo).length = c.length := by
  unfold newC
  rw [List.length_map, List.length_zipIdx]
theorem sw_new {s : Sys} {p : Pl} {c : Chs} {fo : List (Nat × Nat)} (hs : SysIn s) (hl : c.length = s.1) (W : WNK s p fo) (hn : fo ≠ []) : Sw s p c (newC c fo) := by
  refine ⟨new_len c fo, fun e => ?_, ?_⟩
  · by_cases he : e < c.length
    · rw [new_at c fo he]
      unfold newO
      cases q : lk fo e with
      | none => exact .inl rfl
      | some i =>
        obtain ⟨w, h1, h2, h3⟩ := W.all _ (lk_mem q)
        exact .inr ⟨i, w, rfl, h1, h2, h3⟩
    · refine .inl ?_
      unfold cho
      rw [List.getD_eq_getElem?_getD, List.getD_eq_getElem?_getD, List.getElem?_eq_none (by rw [new_len]; omega), List.getElem?_eq_none (by omega)]
  · obtain ⟨x, fo', rfl⟩ : ∃ x fo', fo = x :: fo' := by
      cases fo with
      | nil => exact absurd rfl hn
      | cons x fo' => exact ⟨x, fo', rfl⟩
    obtain ⟨w, h1, h2, h3⟩ := W.all x List.mem_cons_self
    have he : x.1 < c.length := by
      rw [hl, ← h2]
      exact (hs.ok w (List.mem_of_getElem? h1)).1
    refine ⟨x.1, x.2, w, he, ?_, h1, h3⟩
    rw [new_at _ _ he]
    have e : lk (x :: fo') x.1 = some x.2 := by
      unfold lk
      rw [List.find?_cons, decide_eq_true rfl]
      rfl
    unfold newO
    rw [e]
theorem pl_ext {p r : Pl} (h : p.length = r.length) (e : ∀ i, ord p i = ord r i) : p = r := by
  refine List.ext_getElem h fun i h1 h2 => ?_
  have z := e i
  unfold ord at z
  rw [List.getD_eq_getElem?_getD, List.getD_eq_getElem?_getD, List.getElem?_eq_getElem h1, List.getElem?_eq_getElem h2] at z
  exact z
theorem pbc_start {s : Sys} {fl : Pl} (hf : fl.length = s.1) : fl = pbc s fl (List.replicate s.1 none) := by
  have hl : fl.length = (List.replicate s.1 (none : Option Nat)).length := by rw [List.length_replicate]; exact hf
  obtain ⟨a, b, d⟩ := jay_ok (s := s) hl s.1
  refine pl_ext (by rw [hl]; exact a.symm) fun i => (d i ?_).symm
  unfold cho
  rw [List.getD_eq_getElem?_getD, List.getElem?_replicate]
  split <;> rfl
/-- what the search gives: the least plan from floors, and chosen waits that hold it up -/
structure LC (s : Sys) (fl : Pl) (c : Chs) (p : Pl) : Prop where
  inv : LInv s fl c p
  keeps : keepsM s p = true
  least : ∀ q : Pl, q.length = s.1 → keepsM s q = true → Le2 fl q → Le2 p q
/-- the least plan from floors -/
structure LF (s : Sys) (fl p : Pl) : Prop where
  len : p.length = s.1
  keeps : keepsM s p = true
  low : Le2 fl p
  least : ∀ q : Pl, q.length = s.1 → keepsM s q = true → Le2 fl q → Le2 p q
theorem LC.lf {s : Sys} {fl : Pl} {c : Chs} {p : Pl} (h : LC s fl c p) : LF s fl p := ⟨h.inv.plen, h.keeps, h.inv.fl, h.least⟩
/-- the program's search, turn by turn -/
def lacIt (s : Sys) (fl : Pl) : Nat → Chs × Pl
  | 0 => (List.replicate s.1 none, fl)
  | k + 1 => if wnkF s (lacIt s fl k).2 = [] then lacIt s fl k else (newC (lacIt s fl k).1 (wnkF s (lacIt s fl k).2), pbc s fl (newC (lacIt s fl k).1 (wnkF s (lacIt s fl k).2)))
structure LD (s : Sys) (fl : Pl) (c : Chs) (p : Pl) : Prop where
  nil : wnkF s p = []
  at' : ∃ k, lacIt s fl k = (c, p)
theorem lac_stay {s : Sys} {fl : Pl} {k : Nat} (h : wnkF s (lacIt s fl k).2 = []) : ∀ j, lacIt s fl (k + j) = lacIt s fl k
  | 0 => rfl
  | j + 1 => by
    show (if wnkF s (lacIt s fl (k + j)).2 = [] then lacIt s fl (k + j) else _) = _
    rw [lac_stay h j, if_pos h]
theorem LD.uniq {s : Sys} {fl : Pl} {c c' : Chs} {p p' : Pl} (h : LD s fl c p) (g : LD s fl c' p') : c = c' ∧ p = p' := by
  obtain ⟨k, hk⟩ := h.at'
  obtain ⟨j, hj⟩ := g.at'
  have h1 := lac_stay (s := s) (fl := fl) (k := k) (by rw [hk]; exact h.nil) j
  have h2 := lac_stay (s := s) (fl := fl) (k := j) (by rw [hj]; exact g.nil) k
  rw [Nat.add_comm, h2, hj, hk] at h1
  injection h1 with a b
  exact ⟨a.symm, b.symm⟩
section
variable {P : Program} {w : World} {K : PySem.W.Frag} {mg : Str → Option Value} {base : Heap}
def sp_least_and_chosen : Spz := fun ws q => ∃ (s : Sys) (fl : Pl), ws = [.d (sysD s), .d (plD true fl)] ∧ SysIn s ∧ fl.length = s.1 ∧ ∀ c p, LC s fl c p → LD s fl c p → q (.d (.tuple [plD true p, chsD c]))
def lacS (s : Sys) (fl : Pl) (c : Chs) (p : Pl) (fo : List (Nat × Nat)) : List Sl := [.w (.d (sysD s)), .w (.d (plD true fl)), .w (.d (chsD c)), .w (.d (plD true p)), .w (.d (dictD fo)), .un, .un]
theorem ok_least_and_chosen (M : Mgz mg) (Dd : Vq.D1 K mg "least_and_chosen" s_least_and_chosen ["system", "floors"]) (c_plan_by_chosen : ZCal P w K mg base 3 "plan_by_chosen" sp_plan_by_chosen) (c_waits_not_kept : ZCal P w K mg base 3 "waits_not_kept" sp_waits_not_kept) : ZCal P w K mg base 4 "least_and_chosen" sp_least_and_chosen := by
  refine zcal false Dd sc_least_and_chosen (fun ws q h => ?_) fun f cdv A outer s H E hG hr => ⟨_, (zb_cons (zs_set (i := 2) sc_least_and_chosen.nd rfl (.inl rfl) (zfz (z_rep (zfz (z_lst (za_cons znon za_nil))) (z_ix (zv 0) zint))))
      (zb_cons (zs_set (i := 3) sc_least_and_chosen.nd rfl (.inl rfl) (z_ty t_tuple (by rfl) M.tuple (by decide +kernel) (za_cons (zv 1) za_nil)))
      (zb_cons (zs_set (i := 4) sc_least_and_chosen.nd rfl (.inr rfl) (z_call hG c_waits_not_kept hr (by decide) rfl (za_cons (zv 0) (za_cons (zv 3) za_nil))))
      (zb_cons (zs_while PassesOwn.never (zt_truth (zv 4) (by intro _; rfl)) (zb_cons (zs_cold (zs_setLc (y := 2) (own := [("event", 5), ("index", 6)]) rfl sc_least_and_chosen.nd (zi_enumL rfl M.enumerate (za_cons (zv 2) za_nil)) (blkOk_by (own := [("event", 5), ("index", 6)]) (N := n_least_and_chosen) (sc := defScope s_least_and_chosen) (by first | decide +kernel | kernel_rfl | rfl)) (fun _ _ _ _ _ => (pg_tupK K rfl (n := 2) rfl (pgs_cons (pg_name (i := 5) sc_least_and_chosen.nd rfl (.inl rfl)) (pgs_cons (pg_name (i := 6) sc_least_and_chosen.nd rfl (.inl rfl)) pgs_nil)))) (gr_tup (n := 2) (gr_cons (gr_name (by decide)) (gr_cons (gr_name (by decide)) gr_nil))) (fun _ _ _ _ _ => (z_dget2 (hu_of hr) (zv 4) (zv 5) (zv 6) ⟨by rfl, by rfl, by rfl, by rfl⟩))))
      (zb_cons (zs_set (i := 3) sc_least_and_chosen.nd rfl (.inl rfl) (z_call hG c_plan_by_chosen hr (by decide) rfl (za_cons (zv 0) (za_cons (zv 1) (za_cons (zv 2) za_nil)))))
      (zb_one (zs_set (i := 4) sc_least_and_chosen.nd rfl (.inr rfl) (z_call hG c_waits_not_kept hr (by decide) rfl (za_cons (zv 0) (za_cons (zv 3) za_nil))))))))
      (zb_one (zs_ret (z_tup (za_cons (zv 3) (za_cons (zv 2) za_nil))))))))), fun ws Q0 h => ?_⟩
  · obtain ⟨s, fl, rfl, _⟩ := h
    rfl
  · obtain ⟨s, fl, rfl, hs, hf, q⟩ := h
    have hev := hs.ev
    refine ⟨⟨by omega, by omega, by rw [sizeLine_eq]; show 1 * s.1 ≤ _; omega⟩, ?_⟩
    refine ⟨s, fl, rfl, hs, hf, fun fo hfo => ?_⟩
    refine ⟨fun m δ => ∃ c p fo, δ = lacS s fl c p fo ∧ LInv s fl c p ∧ (∀ i, some i ∈ c → i < s.2.length) ∧ WNK s p fo ∧ p = pbc s fl c ∧ (∃ k, lacIt s fl k = (c, p)) ∧ m = above s fl p, ⟨above s fl fl, List.replicate s.1 none, fl, fo, ?_, linv_start hf, fun i hi => ?_, hfo, pbc_start hf, ⟨0, rfl⟩, rfl⟩, ?_⟩
    · have e : (List.replicate s.1 [PyData.none]).flatten = (List.replicate s.1 (none : Option Nat)).map idxD := by
        rw [List.flatten_replicate_singleton, List.map_replicate]
        rfl
      show _ = [_, _, Sl.w (.d (.list ((List.replicate s.1 (none : Option Nat)).map idxD))), _, _, _, _]
      rw [← e]
      rfl
    · have z := List.eq_of_mem_replicate hi
      cases z
    · rintro m δ ⟨c, p, fo, rfl, I, hc, Wn, hp, hit, rfl⟩
      cases fo with
      | nil => exact q c p ⟨I, Wn.none rfl, fun r h1 h2 h3 => linv_least hs hf I h1 h2 h3 hp⟩ ⟨Wn.fn.symm, hit⟩
      | cons x fo => 
        have hsw := sw_new hs I.clen Wn (List.cons_ne_nil x fo)
        obtain ⟨I2, up, st⟩ := linv_step hs hf I hsw
        have hc2 : ∀ i, some i ∈ newC c (x :: fo) → i < s.2.length := fun i hi => by
          obtain ⟨y, hy, ey⟩ := List.mem_map.mp hi
          unfold newO at ey
          cases q2 : lk (x :: fo) y.2 with
          | none =>
            rw [q2] at ey
            have ey : y.1 = some i := ey
            refine hc i ?_
            rw [← ey]
            exact List.fst_mem_of_mem_zipIdx hy
          | some j =>
            rw [q2] at ey
            have ey : some j = some i := ey
            cases ey
            obtain ⟨w, h1, _⟩ := Wn.all _ (lk_mem q2)
            exact (List.getElem?_eq_some_iff.mp h1).1
        have hin : ChsIn s (newC c (x :: fo)) := ⟨I2.clen, fun e i h => by
          obtain ⟨w, h1, _⟩ := I2.ev e i h
          exact ⟨w, h1⟩⟩
        show zComp _ _ _ _ _ (enumD (c.map idxD)) []
        rw [enumD_map]
        refine zComp_map (fun (y : Option Nat × Nat) => .tuple [.int (y.2 : Nat), idxD y.1]) (fun y => idxD (newO (x :: fo) y)) c.zipIdx (fun y hy k k0 h => ?_) ?_
        · have e1 := dct_fk (x :: fo)
          have e2 := look_fk (x :: fo) y.2
          show (match dctW (.d (dictD (x :: fo))) with
            | some _ => _
            | none => False)
          rw [e1]
          show (match dctW (.d (dictD (x :: fo))), (some (.inl (y.2 : Int)) : Option Key), W.d (idxD y.1) with
            | some xs, some k, .d d => _
            | _, _, _ => False)
          rw [e1]
          show k ((lookD ((x :: fo).map fkD) (.inl (y.2 : Int))).getD (idxD y.1))
          rw [e2]
          have e3 : ((lk (x :: fo) y.2).map fun i => PyData.int (i : Nat)).getD (idxD y.1) = idxD (newO (x :: fo) y) := by
            unfold newO
            cases lk (x :: fo) y.2 <;> rfl
          rw [e3]
          exact h
        · have e : c.zipIdx.map (fun y => idxD (newO (x :: fo) y)) = (newC c (x :: fo)).map idxD := by
            unfold newC
            rw [List.map_map]
            rfl
          rw [e]
          refine ⟨s, fl, newC c (x :: fo), rfl, hs, hf, hin, ?_⟩
          refine ⟨s, pbc s fl (newC c (x :: fo)), rfl, hs, I2.plen, fun fo2 hfo2 => ?_⟩
          have hit2 : ∃ k, lacIt s fl k = (newC c (x :: fo), pbc s fl (newC c (x :: fo))) := by
            obtain ⟨k, hk⟩ := hit
            refine ⟨k + 1, ?_⟩
            show (if wnkF s (lacIt s fl k).2 = [] then lacIt s fl k else (newC (lacIt s fl k).1 (wnkF s (lacIt s fl k).2), pbc s fl (newC (lacIt s fl k).1 (wnkF s (lacIt s fl k).2)))) = _
            rw [hk, ← Wn.fn, if_neg (List.cons_ne_nil x fo)]
          exact ⟨_, above_lt I2.clen hc2 up st, newC c (x :: fo), _, fo2, rfl, I2, hc2, hfo2, rfl, hit2, rfl⟩
end
end Zl
end
section
set_option maxHeartbeats 1000000
namespace Zl
open PySem PySem.Spec PyProof.Rows L2
section
variable {P : Program} {w : World} {K : PySem.W.Frag} {mg : Str → Option Value} {base : Heap}
def zeros (n : Nat) : Pl := List.replicate n (some 0)
/-- the least plan -/
abbrev LP (s : Sys) (p : Pl) : Prop := LF s (zeros s.1) p
def sp_least_plan : Spz := fun ws q => ∃ (s : Sys), ws = [.d (sysD s)] ∧ SysIn s ∧ ∀ p, LP s p → q (.d (plD true p))
theorem ok_least_plan (M : Mgz mg) (Dd : Vq.D1 K mg "least_plan" s_least_plan ["system"]) (c_least_and_chosen : ZCal P w K mg base 4 "least_and_chosen" sp_least_and_chosen) : ZCal P w K mg base 5 "least_plan" sp_least_plan := by
  refine zcal false Dd sc_least_plan (fun ws q h => ?_) fun f cdv A outer s H E hG hr => ⟨_, (zb_cons (zs_asg (z_call hG c_least_and_chosen hr (by decide) rfl (za_cons (zv 0) (za_cons (z_repT (z_tup (za_cons zint za_nil)) (z_ix (zv 0) zint)) za_nil))) (zg_tup rfl (zgs_cons (zg_name (i := 1) sc_least_plan.nd rfl (.inl rfl)) (zgs_cons (zg_name (i := 2) sc_least_plan.nd rfl (.inl rfl)) zgs_nil))))
      (zb_one (zs_ret (zv 1)))), fun ws Q0 h => ?_⟩
  · obtain ⟨s, rfl, _⟩ := h
    rfl
  · obtain ⟨s, rfl, hs, q⟩ := h
    have hev := hs.ev
    refine ⟨⟨by simp, by omega, by omega, by decide⟩, ?_⟩
    refine ⟨s, zeros s.1, ?_, hs, by unfold zeros; rw [List.length_replicate], fun c p hc _ => ?_⟩
    · have e : (List.replicate s.1 [PyData.int 0]).flatten = (zeros s.1).map ordD := by
        unfold zeros
        rw [List.flatten_replicate_singleton, List.map_replicate]
        rfl
      show _ = [_, W.d (.tuple ((zeros s.1).map ordD))]
      rw [← e]
      rfl
    · exact q p hc.lf
def sp_least_from : Spz := fun ws q => ∃ (s : Sys) (fl : Pl), ws = [.d (sysD s), .d (plD true fl)] ∧ SysIn s ∧ fl.length = s.1 ∧ ∀ p, LF s fl p → q (.d (plD true p))
section
def sp_l_later : Spz := sp_later
theorem ok_l_later (M : Mgz mg) (Dd : Vq.D1 K mg "_law_later" s_l_later ["_law_order", "_law_delay"])  : ZCal P w K mg base 1 "_law_later" sp_l_later := by
  refine zcal false Dd sc_l_later (fun ws q h => ?_) fun f cdv A outer s H E hG hr => ⟨_, (zb_one (zs_ret (z_if (zt_isN (zv 0) znon (nomark _)) znon (z_add (zv 0) (zv 1))))), fun ws Q0 h => ?_⟩
  · obtain ⟨o, d, rfl, _⟩ := h
    rfl
  · obtain ⟨o, d, rfl, q⟩ := h
    cases o <;> exact q
def sp_l_not_above : Spz := sp_not_above
theorem ok_l_not_above (M : Mgz mg) (Dd : Vq.D1 K mg "_law_not_above" s_l_not_above ["_law_one", "_law_other"])  : ZCal P w K mg base 1 "_law_not_above" sp_l_not_above := by
  refine zcal false Dd sc_l_not_above (fun ws q h => ?_) fun f cdv A outer s H E hG hr => ⟨_, (zb_one (zs_ret (z_or (z_isN (zv 1) znon (nomark _)) (z_one (z_and (z_notN (zv 0) znon (nomark _)) (z_one (z_le (zv 0) (zv 1) (nomark _)))))))), fun ws Q0 h => ?_⟩
  · obtain ⟨a, b, rfl, _⟩ := h
    rfl
  · obtain ⟨a, b, rfl, q⟩ := h
    cases a <;> cases b <;> exact q
def sp_l_lesser : Spz := fun ws q => ∃ (a b : Ord), ws = [.d (ordD a), .d (ordD b)] ∧ q (.d (ordD (if naM a b = true then a else b)))
theorem ok_l_lesser (M : Mgz mg) (Dd : Vq.D1 K mg "_law_lesser" s_l_lesser ["_law_one", "_law_other"]) (c_l_not_above : ZCal P w K mg base 1 "_law_not_above" sp_l_not_above) : ZCal P w K mg base 2 "_law_lesser" sp_l_lesser := by
  refine zcal false Dd sc_l_lesser (fun ws q h => ?_) fun f cdv A outer s H E hG hr => ⟨_, (zb_one (zs_ret (z_if (zt_val (z_call hG c_l_not_above hr (by decide) rfl (za_cons (zv 0) (za_cons (zv 1) za_nil)))) (zv 0) (zv 1)))), fun ws Q0 h => ?_⟩
  · obtain ⟨a, b, rfl, _⟩ := h
    rfl
  · obtain ⟨a, b, rfl, q⟩ := h
    refine ⟨a, b, rfl, ?_⟩
    cases e : naM a b
    · rw [e] at q
      exact q
    · rw [e] at q
      exact q
def sp_l_least_order : Spz := fun ws q => ∃ (os : List Ord), ws = [.d (.list (os.map ordD))] ∧ q (.d (ordD (lo os)))
theorem lo_cons (o : Ord) (os : List Ord) : naM (lo (os ++ [o])) (lo os) = true ∧ lo (os ++ [o]) = if naM (lo os) o = true then lo os else o := by
  have h1 : naM (lo (os ++ [o])) (lo os) = true := lo_ge fun x hx => lo_le (List.mem_append_left _ hx)
  have h2 : naM (lo (os ++ [o])) o = true := lo_le (List.mem_append_right _ List.mem_cons_self)
  refine ⟨h1, ?_⟩
  by_cases e : naM (lo os) o = true
  · rw [if_pos e]
    refine naM_anti h1 (lo_ge fun x hx => ?_)
    rcases List.mem_append.mp hx with z | z
    · exact lo_le z
    · rw [List.mem_singleton.mp z]
      exact e
  · rw [if_neg e]
    refine naM_anti h2 (lo_ge fun x hx => ?_)
    rcases List.mem_append.mp hx with z | z
    · exact naM_trans (naM_total (Bool.eq_false_iff.mpr e)) (lo_le z)
    · rw [List.mem_singleton.mp z]
      exact naM_refl _
theorem ok_l_least_order (M : Mgz mg) (Dd : Vq.D1 K mg "_law_least_order" s_l_least_order ["_law_orders"]) (c_l_lesser : ZCal P w K mg base 2 "_law_lesser" sp_l_lesser) : ZCal P w K mg base 3 "_law_least_order" sp_l_least_order := by
  refine zcal false Dd sc_l_least_order (fun ws q h => ?_) fun f cdv A outer s H E hG hr => ⟨_, (zb_cons (zs_set (i := 1) sc_l_least_order.nd rfl (.inl rfl) znon)
      (zb_cons (zs_for PassesOwn.never rfl (zi_seq (zv 0)) (zg_name (i := 2) sc_l_least_order.nd rfl (.inl rfl)) (zb_one (zs_set (i := 1) sc_l_least_order.nd rfl (.inl rfl) (z_call hG c_l_lesser hr (by decide) rfl (za_cons (zv 1) (za_cons (zv 2) za_nil))))))
      (zb_one (zs_ret (zv 1))))), fun ws Q0 h => ?_⟩
  · obtain ⟨os, rfl, _⟩ := h
    rfl
  · obtain ⟨os, rfl, q⟩ := h
    refine zLoop_inv ordD (fun xs δ => ∃ dn b, os = dn ++ xs ∧ δ = [.w (.d (.list (os.map ordD))), .w (.d (ordD (lo dn))), b]) (fun x xs δ h k hk => ?_) (fun δ h => ?_) os _ ⟨[], .un, rfl, rfl⟩
    · obtain ⟨dn, b, e, rfl⟩ := h
      refine ⟨_, _, rfl, hk _ ⟨dn ++ [x], .w (.d (ordD x)), by rw [e, List.append_assoc]; rfl, ?_⟩⟩
      rw [(lo_cons x dn).2]
      rfl
    · obtain ⟨dn, b, e, rfl⟩ := h
      rw [List.append_nil] at e
      rw [← e]
      exact q
def sp_l_first : Spz := sp_earliest_by
theorem ok_l_first (M : Mgz mg) (Dd : Vq.D1 K mg "_law_first" s_l_first ["_law_plan", "_law_wait"]) (c_l_later : ZCal P w K mg base 1 "_law_later" sp_l_later) (c_l_least_order : ZCal P w K mg base 3 "_law_least_order" sp_l_least_order) : ZCal P w K mg base 4 "_law_first" sp_l_first := by
  refine zcal false Dd sc_l_first (fun ws q h => ?_) fun f cdv A outer s H E hG hr => ⟨_, (zb_one (zs_ret (z_call hG c_l_least_order hr (by decide) rfl (za_cons (zfz (z_lc (own := [("_law_other", 2), ("_law_delay", 3)]) rfl sc_l_first.nd (zi_seq (z_ix (zv 1) zint)) (blkOk_by (own := [("_law_other", 2), ("_law_delay", 3)]) (N := n_l_first) (sc := defScope s_l_first) (by first | decide +kernel | kernel_rfl | rfl)) (fun _ _ _ _ _ => (pg_tupK K rfl (n := 2) rfl (pgs_cons (pg_name (i := 2) sc_l_first.nd rfl (.inl rfl)) (pgs_cons (pg_name (i := 3) sc_l_first.nd rfl (.inl rfl)) pgs_nil)))) (gr_tup (n := 2) (gr_cons (gr_name (by decide)) (gr_cons (gr_name (by decide)) gr_nil))) (fun _ _ _ _ _ => (z_call hG c_l_later hr (by decide) rfl (za_cons (z_ix (zv 0) (zv 2)) (za_cons (zv 3) za_nil)))))) za_nil)))), fun ws Q0 h => ?_⟩
  · obtain ⟨b, p, w, rfl, _⟩ := h
    rfl
  · obtain ⟨b, p, w, rfl, hw, q⟩ := h
    refine zComp_map optD (fun o => ordD (laterM (ord p o.1) o.2)) w.2 (fun o ho k k0 h => ?_) ?_
    · cases b
      · show (match L2.atI (List.map ordD p) ((o.1 : Nat) : Int) with
          | some d => _
          | none => False)
        rw [ord_at (hw o ho)]
        exact ⟨_, _, rfl, h⟩
      · show (match L2.atI (List.map ordD p) ((o.1 : Nat) : Int) with
          | some d => _
          | none => False)
        rw [ord_at (hw o ho)]
        exact ⟨_, _, rfl, h⟩
    · refine ⟨w.2.map fun (o : Opt) => laterM (ord p o.1) o.2, ?_, q⟩
      rw [List.map_map]
      rfl
def sp_l_is_kept : Spz := sp_keeps_wait
theorem ok_l_is_kept (M : Mgz mg) (Dd : Vq.D1 K mg "_law_is_kept" s_l_is_kept ["_law_plan", "_law_wait"]) (c_l_first : ZCal P w K mg base 4 "_law_first" sp_l_first) (c_l_not_above : ZCal P w K mg base 1 "_law_not_above" sp_l_not_above) : ZCal P w K mg base 5 "_law_is_kept" sp_l_is_kept := by
  refine zcal false Dd sc_l_is_kept (fun ws q h => ?_) fun f cdv A outer s H E hG hr => ⟨_, (zb_one (zs_ret (z_call hG c_l_not_above hr (by decide) rfl (za_cons (z_call hG c_l_first hr (by decide) rfl (za_cons (zv 0) (za_cons (zv 1) za_nil))) (za_cons (z_ix (zv 0) (z_ix (zv 1) zint)) za_nil))))), fun ws Q0 h => ?_⟩
  · obtain ⟨b, p, w, rfl, _⟩ := h
    rfl
  · obtain ⟨b, p, w, rfl, hw, q⟩ := h
    refine ⟨b, p, w, rfl, hw.2, ?_⟩
    cases b
    · show (match L2.atI (List.map ordD p) ((w.1 : Nat) : Int) with
        | some d => _
        | none => False)
      rw [ord_at hw.1]
      exact ⟨_, _, rfl, q⟩
    · show (match L2.atI (List.map ordD p) ((w.1 : Nat) : Int) with
        | some d => _
        | none => False)
      rw [ord_at hw.1]
      exact ⟨_, _, rfl, q⟩
def sp_l_keeps : Spz := sp_keeps
theorem filt_nil {s : Sys} {p : Pl} : ((s.2.filterMap fun w => if kw p w = true then none else some (waitD w)).isEmpty) = keepsM s p := by
  unfold keepsM
  induction s.2 with
  | nil => rfl
  | cons w ws ih =>
    rw [List.all_cons]
    by_cases e : kw p w = true
    · rw [List.filterMap_cons_none (by rw [if_pos e]), ih, e, Bool.true_and]
    · rw [List.filterMap_cons_some (by rw [if_neg e])]
      rw [Bool.eq_false_iff.mpr e, Bool.false_and]
      rfl
theorem ok_l_keeps (M : Mgz mg) (Dd : Vq.D1 K mg "_law_keeps" s_l_keeps ["_law_system", "_law_plan"]) (c_l_is_kept : ZCal P w K mg base 5 "_law_is_kept" sp_l_is_kept) : ZCal P w K mg base 6 "_law_keeps" sp_l_keeps := by
  refine zcal false Dd sc_l_keeps (fun ws q h => ?_) fun f cdv A outer s H E hG hr => ⟨_, (zb_one (zs_ret (z_eqD (Room.units hr) (zfz (z_lci (own := [("_law_wait", 2)]) rfl sc_l_keeps.nd (zi_seq (z_ix (zv 0) zint)) (blkOk_by (own := [("_law_wait", 2)]) (N := n_l_keeps) (sc := defScope s_l_keeps) (by first | decide +kernel | kernel_rfl | rfl)) (fun _ _ _ _ _ => (pg_name (i := 2) sc_l_keeps.nd rfl (.inl rfl))) (gr_name (by decide)) (fun _ _ _ _ _ => (zt_not (zt_val (z_call hG c_l_is_kept hr (by decide) rfl (za_cons (zv 1) (za_cons (zv 2) za_nil)))))) (fun _ _ _ _ _ => (zv 2)))) (zfz (z_lst za_nil)) (nomark _)))), fun ws Q0 h => ?_⟩
  · obtain ⟨s, p, b, rfl, _⟩ := h
    rfl
  · obtain ⟨s, p, b, rfl, hw, q⟩ := h
    refine zComp_fm waitD (fun w => if kw p w = true then none else some (waitD w)) s.2 [] (fun w hwm k k0 h1 h2 => ?_) ?_
    · refine ⟨b, p, w, rfl, hw w hwm, ?_⟩
      cases e : kw p w
      · exact h1 _ (by rw [e]; rfl)
      · exact h2 (by rw [e]; rfl)
    · refine ⟨(Sh.lst (k := 3) fun x hx => ?_).shp (by decide), (Sh.lst (k := 0) (fun x hx => by cases hx)).shp (by decide), ?_⟩
      · obtain ⟨y, _, hy⟩ := List.mem_filterMap.mp hx
        by_cases e : kw p y = true
        · rw [if_pos e] at hy; cases hy
        · rw [if_neg e] at hy
          cases hy
          exact sh_wait y
      · rw [List.nil_append, eqv_nil, filt_nil, Bool.false_xor]
        exact q
end
end
end Zl
end
section
set_option maxHeartbeats 1000000
namespace Zl
open PySem PySem.Spec PyProof.Rows L2
section
variable {P : Program} {w : World} {K : PySem.W.Frag} {mg : Str → Option Value} {base : Heap}
def sp_l_some : Spz := fun ws q => ∃ xs : List D, ws = [.bag, .d (.list xs)] ∧ 0 < xs.length ∧ xs.length < 2 ^ 20 ∧ ∀ x ∈ xs, q (.d x)
theorem ok_l_some (M : Mgz mg) (Dd : Vq.D1 K mg "_law_some" s_l_some ["_law_bag_here", "_law_things"]) (c_l_take : ZCal P w K mg base 1 "_law_take" sp_l_take) : ZCal P w K mg base 2 "_law_some" sp_l_some := by
  refine zcal false Dd sc_l_some (fun ws q h => ?_) fun f cdv A outer s H E hG hr => ⟨_, (zb_one (zs_ret (z_ix (zv 1) (z_call hG c_l_take hr (by decide) rfl (za_cons (zv 0) (za_cons (z_b b_len (by rfl) M.len (by decide +kernel) (za_cons (zv 1) za_nil)) za_nil)))))), fun ws Q0 h => ?_⟩
  · obtain ⟨xs, rfl, _⟩ := h
    rfl
  · obtain ⟨xs, rfl, h1, h2, q⟩ := h
    refine ⟨(xs.length : Nat), rfl, by omega, by omega, fun j j1 j2 => ?_⟩
    obtain ⟨i, rfl⟩ := Int.eq_ofNat_of_zero_le j1
    have hi : i < xs.length := by omega
    show (match L2.atI xs (i : Int) with
      | some d => _
      | none => False)
    rw [atI_nat (List.getElem?_eq_getElem hi)]
    exact q _ (List.getElem_mem hi)
def sp_l_mixed : Spz := fun ws q => ∃ xs : List D, ws = [.bag, .d (.list xs)] ∧ xs.length ≤ 1000 ∧ ∀ ys : List D, ys.Perm xs → q (.d (.list ys))
theorem ins_perm {α : Type} (xs : List α) (i : Nat) (x : α) : (xs.take i ++ [x] ++ xs.drop i).Perm (xs ++ [x]) := by
  have h : (xs.take i ++ [x] ++ xs.drop i).Perm (x :: (xs.take i ++ xs.drop i)) := by
    rw [List.append_assoc]
    exact List.perm_middle
  rw [List.take_append_drop] at h
  exact h.trans (List.perm_append_comm (l₁ := [x]) (l₂ := xs))
theorem ok_l_mixed (M : Mgz mg) (Dd : Vq.D1 K mg "_law_mixed" s_l_mixed ["_law_bag_here", "_law_things"]) (c_l_take : ZCal P w K mg base 1 "_law_take" sp_l_take) : ZCal P w K mg base 2 "_law_mixed" sp_l_mixed := by
  refine zcal false Dd sc_l_mixed (fun ws q h => ?_) fun f cdv A outer s H E hG hr => ⟨_, (zb_cons (zs_set (i := 2) sc_l_mixed.nd rfl (.inl rfl) (z_lst za_nil))
      (zb_cons (zs_for PassesOwn.never rfl (zi_seq (zv 1)) (zg_name (i := 3) sc_l_mixed.nd rfl (.inl rfl)) (zb_one (zs_hotL (i := 2) m_insert (fun h => ps_expr (pe_bm PySem.F.plainAttrs_list PySem.F.slot_list_insert PySem.F.type_list_insert mt_insert (pv 2) h)) (za_cons (z_call hG c_l_take hr (by decide) rfl (za_cons (zv 0) (za_cons (z_add (z_b b_len (by rfl) M.len (by decide +kernel) (za_cons (zv 2) za_nil)) zint) za_nil))) (za_cons (zv 3) za_nil)))))
      (zb_one (zs_ret (zv 2))))), fun ws Q0 h => ?_⟩
  · obtain ⟨xs, rfl, _⟩ := h
    rfl
  · obtain ⟨xs, rfl, h1, q⟩ := h
    refine zLoop_id (fun rs δ => ∃ dn ys b, xs = dn ++ rs ∧ ys.Perm dn ∧ δ = [.w .bag, .w (.d (.list xs)), .hl ys, b]) (fun x rs δ h k hk => ?_) (fun δ h => ?_) xs _ ⟨[], [], .un, rfl, .refl _, rfl⟩
    · obtain ⟨dn, ys, b, e, hp, rfl⟩ := h
      have hl : ys.length ≤ 1000 := by
        rw [hp.length_eq]
        have : dn.length ≤ xs.length := by rw [e, List.length_append]; omega
        omega
      refine ⟨(ys.length : Nat) + 1, rfl, by omega, by omega, fun j j1 j2 => ?_⟩
      refine ⟨by rw [sizeLine_eq]; omega, j1, by omega, hk _ ⟨dn ++ [x], _, .w (.d x), by rw [e, List.append_assoc]; rfl, (ins_perm ys j.toNat x).trans (hp.append_right [x]), rfl⟩⟩
    · obtain ⟨dn, ys, b, e, hp, rfl⟩ := h
      rw [List.append_nil] at e
      rw [← e] at hp
      exact q ys hp
def seqD : D → Bool
  | .tuple _ => true
  | .list _ => true
  | .int _ => true
  | .bool _ => true
  | .none => true
  | _ => false
def sp_l_alike : Spz := fun ws q => ∃ (d : D) (k n : Nat), ws = [.d d, .d d] ∧ seqD d = true ∧ Sh k d ∧ Vq.Gd k n d ∧ k ≤ 60 ∧ n ≤ 20000 ∧ q (.d (.bool true))
theorem ok_l_alike (M : Mgz mg) (Dd : Vq.D1 K mg "_law_alike" s_l_alike ["_law_found", "_law_due"])  : ZCal P w K mg base 1 "_law_alike" sp_l_alike := by
  refine zcal false Dd sc_l_alike (fun ws q h => ?_) fun f cdv A outer s H E hG hr => ⟨_, (zb_one (zs_ret (z_and (z_eqD (Room.units hr) (zv 0) (zv 1) (nomark _)) (z_one (z_eq (z_b (b_repr hG (Room.units hr)) (by rfl) M.repr (by decide +kernel) (za_cons (zv 0) za_nil)) (z_b (b_repr hG (Room.units hr)) (by rfl) M.repr (by decide +kernel) (za_cons (zv 1) za_nil)) (nomark _)))))), fun ws Q0 h => ?_⟩
  · obtain ⟨d, k, n, rfl, _⟩ := h
    rfl
  · obtain ⟨d, k, n, rfl, h1, h2, h3, hk, hn, q⟩ := h
    refine ⟨h2.shp (by omega), h2.shp (by omega), ?_⟩
    rw [h2.refl]
    have hd := h2.f.1
    cases d with
    | tuple xs =>
      refine ⟨hd, ⟨k, n, h3, hk, hn⟩, trivial, hd, ⟨k, n, h3, hk, hn⟩, trivial, ?_⟩
      have e : decide (PyData.shown (.tuple xs) = PyData.shown (.tuple xs)) = true := decide_eq_true rfl
      rw [← e] at q
      exact q
    | list xs =>
      refine ⟨hd, ⟨k, n, h3, hk, hn⟩, trivial, hd, ⟨k, n, h3, hk, hn⟩, trivial, ?_⟩
      have e : decide (PyData.shown (.list xs) = PyData.shown (.list xs)) = true := decide_eq_true rfl
      rw [← e] at q
      exact q
    | int xs =>
      refine ⟨hd, ⟨k, n, h3, hk, hn⟩, trivial, hd, ⟨k, n, h3, hk, hn⟩, trivial, ?_⟩
      have e : decide (PyData.shown (.int xs) = PyData.shown (.int xs)) = true := decide_eq_true rfl
      rw [← e] at q
      exact q
    | bool xs =>
      refine ⟨hd, ⟨k, n, h3, hk, hn⟩, trivial, hd, ⟨k, n, h3, hk, hn⟩, trivial, ?_⟩
      have e : decide (PyData.shown (.bool xs) = PyData.shown (.bool xs)) = true := decide_eq_true rfl
      rw [← e] at q
      exact q
    | none =>
      refine ⟨hd, ⟨k, n, h3, hk, hn⟩, trivial, hd, ⟨k, n, h3, hk, hn⟩, trivial, ?_⟩
      have e : decide (PyData.shown .none = PyData.shown .none) = true := decide_eq_true rfl
      rw [← e] at q
      exact q
    | _ => cases h1
/-! ### what is drawn -/
theorem mem_cut {xs : List D} {a b : Option Int} {x : D} (h : x ∈ cutD xs a b) : x ∈ xs := List.mem_of_mem_drop (List.mem_of_mem_take h)
theorem cut_to (xs : List D) (j : Nat) : cutD xs none (some (j : Int)) = xs.take j := by
  unfold cutD
  rw [HT.sIx_none, HT.sIx_nat, List.drop_zero, Nat.sub_zero]
  by_cases h : j ≤ xs.length
  · rw [Nat.min_eq_left h]
  · rw [Nat.min_eq_right (by omega), List.take_length, List.take_of_length_le (by omega)]
theorem ints_mem {R : Int → Prop} : ∀ {xs : List D}, (∀ x ∈ xs, ∃ i : Int, R i ∧ x = .int i) → ∃ ns : List Int, xs = ns.map PyData.int ∧ ∀ i ∈ ns, R i
  | [], _ => ⟨[], rfl, fun i h => by cases h⟩
  | x :: xs, h => by
    obtain ⟨i, h1, rfl⟩ := h x List.mem_cons_self
    obtain ⟨ns, e, h2⟩ := ints_mem fun y hy => h y (List.mem_cons_of_mem _ hy)
    refine ⟨i :: ns, by rw [e]; rfl, fun j hj => ?_⟩
    rcases List.mem_cons.mp hj with rfl | hj
    · exact h1
    · exact h2 j hj
theorem rng_mem {n : Nat} {x : D} (h : x ∈ rngD 0 n) : ∃ i : Int, (0 ≤ i ∧ i < n) ∧ x = .int i := by
  obtain ⟨i, hi, rfl⟩ := List.mem_map.mp h
  have := List.mem_range.mp hi
  exact ⟨0 + (i : Nat), by omega, rfl⟩
theorem rng_len (n : Nat) : (rngD 0 n).length = n := by
  unfold rngD
  rw [List.length_map, List.length_range]
def Dl (d : Int) : Prop := d.natAbs ≤ 500
def sp_l_delay : Spz := fun ws q => ws = [.bag] ∧ ∀ d : Int, Dl d → q (.d (.int d))
def OptB (n : Nat) (o : Opt) : Prop := o.1 < n ∧ Dl o.2
/-- options of events that differ -/
def Nd (os : List Opt) : Prop := (os.map (·.1)).Nodup
theorem cut_sub (xs : List D) (a b : Option Int) : (cutD xs a b).Sublist xs := (List.take_sublist _ _).trans (List.drop_sublist _ _)
theorem map_nd {α β : Type} {f : α → β} (hf : ∀ a b, f a = f b → a = b) {l : List α} : (l.map f).Nodup ↔ l.Nodup := by
  unfold List.Nodup
  rw [List.pairwise_map]
  exact ⟨fun h => h.imp fun q e => q (congrArg f e), fun h => h.imp fun q e => q (hf _ _ e)⟩
theorem cut_nd {ys xs : List D} {a b : Option Int} {ns : List Int} (h : xs.Nodup) (hp : ys.Perm xs) (e : cutD ys a b = ns.map PyData.int) : ns.Nodup := by
  have z := (cut_sub ys a b).nodup (hp.nodup_iff.mpr h)
  rw [e] at z
  exact (map_nd fun a b q => by cases q; rfl).mp z
theorem rng_nd (n : Nat) : (rngD 0 n).Nodup := (map_nd fun a b q => by
  have q := PyData.int.inj q
  omega).mpr List.nodup_range
theorem fst_nd {os : List Opt} (h : (os.map fun o => (o.1 : Int)).Nodup) : Nd os := by
  have e : (os.map fun o => (o.1 : Int)) = (os.map (·.1)).map fun (i : Nat) => (i : Int) := by
    rw [List.map_map]
    rfl
  rw [e] at h
  exact (map_nd fun a b q => by omega).mp h
theorem al2_fst {R : Int → Opt → Prop} (hR : ∀ i o, R i o → (o.1 : Int) = i) : ∀ {xs : List Int} {os : List Opt}, Al2 R xs os → (os.map fun o => (o.1 : Int)) = xs
  | _, _, .nil => rfl
  | _, _, .cons r t => by rw [List.map_cons, al2_fst hR t, hR _ _ r]
def OptsB (n m : Nat) (os : List Opt) : Prop := os.length ≤ m ∧ (∀ o ∈ os, OptB n o) ∧ Nd os
def sp_l_options : Spz := fun ws q => ∃ n m : Nat, ws = [.bag, .d (.int n), .d (.int m)] ∧ n ≤ 1000 ∧ m ≤ 1000 ∧ ∀ os, OptsB n n os → q (.d (.tuple (os.map optD)))
def sp_l_drawn_plan : Spz := fun ws q => ∃ n : Nat, ws = [.bag, .d (.int n)] ∧ n ≤ 1000 ∧ ∀ p : Pl, p.length = n → (∀ o ∈ p, ∀ i, o = some i → i.natAbs ≤ 11) → q (.d (plD true p))
theorem ok_l_drawn_plan (M : Mgz mg) (Dd : Vq.D1 K mg "_law_drawn_plan" s_l_drawn_plan ["_law_bag_here", "_law_many"]) (c_l_some : ZCal P w K mg base 2 "_law_some" sp_l_some) : ZCal P w K mg base 3 "_law_drawn_plan" sp_l_drawn_plan := by
  refine zcal false Dd sc_l_drawn_plan (fun ws q h => ?_) fun f cdv A outer s H E hG hr => ⟨_, (zb_one (zs_ret (z_ty t_tuple (by rfl) M.tuple (by decide +kernel) (za_cons (zfz (z_lc (own := [("_law_event", 2)]) rfl sc_l_drawn_plan.nd (zi_range1 rfl M.range (za_cons (zv 1) za_nil)) (blkOk_by (own := [("_law_event", 2)]) (N := n_l_drawn_plan) (sc := defScope s_l_drawn_plan) (by first | decide +kernel | kernel_rfl | rfl)) (fun _ _ _ _ _ => (pg_name (i := 2) sc_l_drawn_plan.nd rfl (.inl rfl))) (gr_name (by decide)) (fun _ _ _ _ _ => (z_call hG c_l_some hr (by decide) rfl (za_cons (zv 0) (za_cons (zfz (z_lst (za_cons zint (za_cons zint (za_cons zint (za_cons zint (za_cons zint (za_cons (z_neg zint) (za_cons zint (za_cons znon za_nil)))))))))) za_nil)))))) za_nil)))), fun ws Q0 h => ?_⟩
  · obtain ⟨n, rfl, _⟩ := h
    rfl
  · obtain ⟨n, rfl, h1, q⟩ := h
    refine ⟨⟨by omega, by omega⟩, ?_⟩
    refine zComp_any (fun (i : Nat) => PyData.int (0 + i)) ordD (fun _ o => ∀ i, o = some i → i.natAbs ≤ 11) (List.range n) [] (fun x hx k k0 h => ?_) fun p hp => ?_
    · refine ⟨([some 0, some 1, some 2, some 4, some 7, some (-3), some 11, none] : List Ord).map ordD, rfl, by decide, by decide, fun y hy => ?_⟩
      obtain ⟨o, ho, rfl⟩ := List.mem_map.mp hy
      refine h o fun i hi => ?_
      subst hi
      exact (by decide : ∀ o ∈ ([some 0, some 1, some 2, some 4, some 7, some (-3), some 11, none] : List Ord), (o.getD 0).natAbs ≤ 11) _ ho
    · refine q p (by rw [hp.len, List.length_range]) fun o ho => ?_
      obtain ⟨_, _, h⟩ := hp.mem o ho
      exact h
end
end Zl
end
section
set_option maxHeartbeats 1000000
namespace Zl
open PySem PySem.Spec PyProof.Rows L2
theorem perm_map {α β : Type} {f : α → β} {es l : List β} (h : es.Perm l) : ∀ {xs : List α}, l = xs.map f → ∃ ys : List α, ys.Perm xs ∧ es = ys.map f := by
  induction h with
  | nil =>
    intro xs e
    cases xs with
    | nil => exact ⟨[], .refl _, rfl⟩
    | cons _ _ => cases e
  | cons x p ih =>
    intro xs e
    cases xs with
    | nil => cases e
    | cons y xs =>
      injection e with e1 e2
      obtain ⟨ys, h1, h2⟩ := ih e2
      exact ⟨y :: ys, h1.cons y, by rw [h2, e1]; rfl⟩
  | swap x y l =>
    intro xs e
    match xs, e with
    | a :: b :: xs, e =>
      injection e with e1 e2
      injection e2 with e2 e3
      exact ⟨b :: a :: xs, .swap a b xs, by rw [e1, e2, e3]; rfl⟩
  | trans _ _ ih1 ih2 =>
    intro xs e
    obtain ⟨ys, h1, h2⟩ := ih2 e
    obtain ⟨zs, h3, h4⟩ := ih1 h2
    exact ⟨zs, h3.trans h1, h4⟩
def WtB (n : Nat) (w : Wt) : Prop := w.1 < n ∧ OptsB n 20 w.2
structure SysB (n m : Nat) (s : Sys) : Prop where
  ev : s.1 = n
  many : s.2.length ≤ m
  ok : ∀ w ∈ s.2, WtB n w
section
variable {P : Program} {w : World} {K : PySem.W.Frag} {mg : Str → Option Value} {base : Heap}
def sp_l_with_option : Spz := fun ws q => ∃ (os : List Opt) (a : Nat) (d : Int), ws = [.d (.tuple (os.map optD)), .d (.int a), .d (.int d)] ∧ os.length ≤ 1000 ∧ ∀ os' : List Opt, (os'.length ≤ os.length + 1 ∧ os'.length = (os.filter fun o => !decide (o.1 = a)).length + 1 ∧ (Nd os → Nd os')) → (∀ o ∈ os', o ∈ os ∨ o = (a, d)) → (a, d) ∈ os' → q (.d (.tuple (os'.map optD)))
def sp_l_any_system : Spz := fun ws q => ∃ n m : Nat, ws = [.bag, .d (.int n), .d (.int m)] ∧ n ≤ 10 ∧ m ≤ 1000 ∧ ∀ s, SysB n m s → q (.d (sysD s))
theorem dec_lt {a b : Int} (h : a < b) : decide (a < b) = true := decide_eq_true h
end
end Zl
end
section
set_option maxHeartbeats 1000000
namespace Zl
open PySem PySem.Spec PyProof.Rows L2
/-! ### xs[i] op= e, of integers -/
theorem get_lst {X : Cx} : PGet X (rIxL X.K) := by
  intro pins s σ H o i ov iv Q I ro ri h
  obtain ⟨p, xs, k, z, rfl, rfl, hq, he, q⟩ := h
  cases ro
  obtain ⟨t, rfl⟩ := ri
  obtain ⟨its, r, pl, hz⟩ := I.list hq
  obtain ⟨j, h1, h2, h3, h4, h5⟩ := atI_get he
  obtain ⟨w, ew, rw'⟩ := r.get h2
  have hl := r.length
  have hn := line63
  have fin : EP X pins σ Q w s := ⟨z, H, I, rw', q⟩
  have hs : its.toArray.size = xs.length := by rw [List.size_toArray]; exact hl.symm
  by_cases h0 : 0 ≤ k
  · have hj : k.toNat = j := Option.some.inj ((seqIndex_of h0 h5).symm.trans h1)
    exact wpAny_getItem_list pl.isList h0 (by omega) (by rw [hj]; simpa using ew) fin
  · have hj : (k + (its.toArray.size : Int)).toNat = j := by
      rw [hs]
      exact Option.some.inj ((seqIndex_neg (by omega) h4).symm.trans h1)
    exact wpAny_getItem_list_neg pl.isList (by omega) (by omega) (by omega) (by rw [hj]; simpa using ew) fin
def zAugL (j : Nat) (g : Int → Int → Int) (ti te : TP) : TZ := fun N δ => match δ[j]? with
  | some (.hl xs) => ti δ fun z => (match z with
    | .d (.int i) => (match ixN xs.length i with
      | some m => (match xs[m]? with
        | some (.int a) => te δ fun w => (match w with
          | .d (.int b) => N.nx (δ.set j (.hl (xs.set m (.int (g a b)))))
          | _ => False)
        | _ => False)
      | none => False)
    | _ => False)
  | _ => False
section
variable {X : Cx} {e k : Expr} {te tk : TP} {pos pos' : Pos}
theorem zs_augL {x : Str} {np tpos : Pos} {j : Nat} {op : Operator} {g : Int → Int → Int} (hvar : PE X (.Name x np) (tVar j)) (hi : ZE X k tk) (he : ZE X e te) (ho : PIp X op (ipI g))
    (hst : ∀ ov iv new, augStore k ov iv new = (do holding [new, ov, iv] (setItem ov iv new); release [new, ov, iv] []; pure .next) := by intros; rfl) :
    ZS X (.AugAssign (.Subscript (.Name x np) k tpos) op e pos) (zAugL j g tk te) := ps_imp (ps_augS hvar hi get_lst he ho set_list hst) fun Dn σ H => by
  rintro ⟨P, Hc, δ, N, R, h, E⟩
  unfold zAugL at h
  split at h
  · rename_i xs e1
    obtain ⟨a, vs, h1, h2, h3, h4, h5, h6, h7⟩ := R.slL e1
    refine ⟨.ref a, h1, P, Hc, δ, _, R, h, fun Hc' H' v w l f R' rv hq => ?_⟩
    split at hq
    · rename_i i
      split at hq
      · rename_i m em
        split at hq
        · rename_i b eb
          obtain ⟨a', vs', z1, z2, z3, z4, z5, z6, z7⟩ := R'.slL e1
          rw [h1] at z1
          cases z1
          obtain ⟨y, ey, ry⟩ := z6.get eb
          cases ry
          refine ⟨a, vs', i, .int b, rfl, rv.int, SqL.of z3, ?_, ?_⟩
          · unfold L2.atI
            rw [z6.len, em]
            exact ey
          · refine ⟨P, Hc', δ, _, R', hq, fun Hc2 H2 u z l2 f2 R2 ru hq2 => ?_⟩
            split at hq2
            · rename_i c
              refine ⟨b, c, rfl, ru.int, ?_⟩
              obtain ⟨a2, vs2, w1, w2, w3, w4, w5, w6, w7⟩ := R2.slL e1
              rw [h1] at w1
              cases w1
              exact ⟨a, vs2, i, m, rfl, rv.int, w3, by rw [w6.len]; exact em, E.nx Hc2 _ σ _ (l.trans l2) (R2.putL e1 h1 (w6.set (y := .int (g b c)) (.int _) m) (by rw [List.length_set]; exact w7)) hq2⟩
            · exact hq2.elim
        · exact hq.elim
      · exact hq.elim
    · exact hq.elim
  · exact h.elim
end
end Zl
end
section
set_option maxHeartbeats 1000000
namespace Zl
open PySem PySem.Spec PyProof.Rows L2
def PlB (k : Nat) (p : Pl) : Prop := ∀ o ∈ p, ∀ i, o = some i → i.natAbs ≤ k
theorem PlB.at {k : Nat} {p : Pl} (h : PlB k p) {e : Nat} {i : Int} (he : ord p e = some i) : i.natAbs ≤ k := by
  unfold ord at he
  rw [List.getD_eq_getElem?_getD] at he
  cases q : p[e]? with
  | none => rw [q] at he; cases he
  | some o =>
    rw [q] at he
    exact h o (List.mem_of_getElem? q) i he
theorem rngD0 (n : Nat) : rngD 0 n = (List.range n).map fun (i : Nat) => PyData.int (i : Nat) := by
  unfold rngD
  refine List.map_congr_left fun i _ => ?_
  rw [Int.zero_add]
def haps (n : Nat) (p : Pl) : List Nat := (List.range n).filter fun i => (ord p i).isSome
theorem haps_eq (n : Nat) (p : Pl) : (List.range n).filterMap (fun i => if ord p i = none then none else some (PyData.int (i : Nat))) = (haps n p).map fun (i : Nat) => PyData.int i := by
  unfold haps
  rw [← List.filterMap_eq_map, List.filterMap_filter]
  congr 1
  funext i
  cases h : ord p i with
  | none => simp
  | some v => simp
theorem kw_some {p : Pl} {e : Nat} {os : List Opt} {v : Int} (hv : ord p e = some v) {o : Opt} (ho : o ∈ os) {u : Int} (hu : ord p o.1 = some u) (h : u + o.2 ≤ v) : kw p (e, os) = true := by
  have z := erl_le (p := p) ho
  rw [hu] at z
  refine naM_trans z ?_
  show naM (some (u + o.2)) (ord p e) = true
  rw [hv]
  exact decide_eq_true h
section
variable {P : Program} {w : World} {K : PySem.W.Frag} {mg : Str → Option Value} {base : Heap}
def sp_l_planned_system : Spz := fun ws q => ∃ n m : Nat, ws = [.bag, .d (.int n), .d (.int m)] ∧ n ≤ 10 ∧ m ≤ 1000 ∧ ∀ s p, SysB n m s → p.length = n → PlB 11 p → keepsM s p = true → q (.d (.tuple [sysD s, plD true p]))
def plsS (n m : Nat) (p : Pl) (wl : List Wt) (hp : List Nat) (a b c d : Sl) : List Sl := [.w .bag, .w (.d (.int (n : Nat))), .w (.d (.int (m : Nat))), .w (.d (plD true p)), .hl (wl.map waitD), .w (.d (.list (hp.map fun (i : Nat) => .int i))), a, b, c, d]
end
end Zl
end
section
set_option maxHeartbeats 1000000
namespace Zl
open PySem PySem.Spec PyProof.Rows L2
theorem put_len (kvs : List (Key × D)) (k : Key) (v : D) : (putKD kvs k v).length ≤ kvs.length + 1 := by
  unfold putKD
  split
  · rw [List.length_map]; omega
  · rw [List.length_append]; simp
theorem look_map {kvs : List (Key × D)} {k : Key} {v : D} (k2 : Key) : lookD (kvs.map fun kv => if kv.1 = k then (kv.1, v) else kv) k2 = if k2 = k then (lookD kvs k2).map (fun _ => v) else lookD kvs k2 := by
  induction kvs with
  | nil => unfold lookD; split <;> rfl
  | cons x xs ih =>
    unfold lookD at ih ⊢
    rw [List.map_cons, List.find?_cons, List.find?_cons]
    by_cases h : x.1 = k
    · rw [if_pos h]
      by_cases g : x.1 = k2
      · rw [decide_eq_true g, if_pos (g.symm.trans h)]
        rfl
      · rw [decide_eq_false g]
        exact ih
    · rw [if_neg h]
      by_cases g : x.1 = k2
      · rw [decide_eq_true g, if_neg (fun z => h (g.trans z))]
      · rw [decide_eq_false g]
        exact ih
theorem look_put (kvs : List (Key × D)) (k : Key) (v : D) (k2 : Key) : lookD (putKD kvs k v) k2 = if k2 = k then some v else lookD kvs k2 := by
  unfold putKD
  by_cases h : (kvs.any fun kv => decide (kv.1 = k)) = true
  · rw [if_pos h, look_map]
    by_cases g : k2 = k
    · rw [if_pos g, if_pos g, g]
      rw [List.any_eq_true] at h
      obtain ⟨x, hx, hd⟩ := h
      unfold lookD
      cases e : kvs.find? fun kv => decide (kv.1 = k) with
      | none =>
        have := List.find?_eq_none.mp e x hx
        exact absurd hd this
      | some y => rfl
    · rw [if_neg g, if_neg g]
  · rw [if_neg h]
    unfold lookD
    rw [List.find?_append]
    by_cases g : k2 = k
    · rw [if_pos g, g]
      have e : kvs.find? (fun kv => decide (kv.1 = k)) = none := by
        rw [List.find?_eq_none]
        intro x hx hd
        exact h (List.any_eq_true.mpr ⟨x, hx, hd⟩)
      rw [e]
      simp
    · rw [if_neg g]
      have e : ([(k, v)] : List (Key × D)).find? (fun kv => decide (kv.1 = k2)) = none := by
        rw [List.find?_cons, decide_eq_false (fun z => g z.symm)]
        rfl
      rw [e]
      simp
end Zl
end
section
set_option maxHeartbeats 1000000
namespace Zl
open PySem PySem.Spec PyProof.Rows L2
section
variable {P : Program} {w : World} {K : PySem.W.Frag} {mg : Str → Option Value} {base : Heap}
def natsD (ls : List Nat) : D := .list (ls.map fun (i : Nat) => PyData.int (i : Nat))
/-- waits that bar one another, shown by weights -/
structure BarW (n : Nat) (ls : List Nat) (wl : List Wt) : Prop where
  heads : wl.map (·.1) = ls
  pot : ∃ v : Nat → Int, ∀ w ∈ wl, ∀ o ∈ w.2, o.1 ∈ ls ∧ v w.1 < v o.1 + (n : Int) * o.2
def pvK (kvs : List (Key × D)) (e : Nat) : Int := match lookD kvs (.inl (e : Int)) with
  | some (.int v) => v
  | _ => 0
theorem pvK_eq {kvs : List (Key × D)} {e : Nat} {v : Int} (h : lookD kvs (.inl (e : Int)) = some (.int v)) : pvK kvs e = v := by
  unfold pvK
  rw [h]
def sp_l_barring_waits : Spz := fun ws q => ∃ (n : Nat) (ls : List Nat), ws = [.bag, .d (.int n), .d (natsD ls)] ∧ n ≤ 10 ∧ ls.length ≤ 10 ∧ ls.Nodup ∧ (∀ e ∈ ls, e < n) ∧ ∀ wl : List Wt, wl.length = ls.length → (∀ w ∈ wl, WtB n w) → BarW n ls wl → q (.d (.list (wl.map waitD)))
end
end Zl
end
section
set_option maxHeartbeats 1000000
namespace Zl
open PySem PySem.Spec PyProof.Rows L2
section
variable {P : Program} {w : World} {K : PySem.W.Frag} {mg : Str → Option Value} {base : Heap}
theorem sum_le {k : Nat} : ∀ {ds : List Int}, (∀ d ∈ ds, d.natAbs ≤ k) → ds.sum.natAbs ≤ k * ds.length
  | [], _ => Nat.zero_le _
  | d :: ds, h => by
    have h1 := h d List.mem_cons_self
    have h2 := sum_le fun e he => h e (List.mem_cons_of_mem _ he)
    rw [List.sum_cons, List.length_cons, Nat.mul_add, Nat.mul_one]
    omega
def sp_l_ring_system : Spz := fun ws q => ∃ (n : Nat) (t : Int), ws = [.bag, .d (.int n), .d (.int t)] ∧ 0 < n ∧ n ≤ 10 ∧ t.natAbs ≤ 10 ∧ ∀ s, SysB n 20 s → q (.d (sysD s))
theorem nats_of {n : Nat} : ∀ {ns : List Int}, (∀ i ∈ ns, 0 ≤ i ∧ i < n) → ∃ ls : List Nat, ns = ls.map (fun (i : Nat) => (i : Int)) ∧ ∀ e ∈ ls, e < n
  | [], _ => ⟨[], rfl, fun e h => by cases h⟩
  | x :: xs, h => by
    obtain ⟨h1, h2⟩ := h x List.mem_cons_self
    obtain ⟨i, rfl⟩ := Int.eq_ofNat_of_zero_le h1
    obtain ⟨ls, e, h3⟩ := nats_of fun y hy => h y (List.mem_cons_of_mem _ hy)
    refine ⟨i :: ls, by rw [e]; rfl, fun j hj => ?_⟩
    rcases List.mem_cons.mp hj with rfl | hj
    · omega
    · exact h3 j hj
def sp_l_barred_system : Spz := fun ws q => ∃ n m : Nat, ws = [.bag, .d (.int n), .d (.int m)] ∧ n ≤ 10 ∧ m ≤ 200 ∧ ∀ s, SysB n (m + 10) s → q (.d (sysD s))
end
end Zl
end
section
set_option maxHeartbeats 1000000
namespace Zl
open PySem PySem.Spec PyProof.Rows L2
section
variable {P : Program} {w : World} {K : PySem.W.Frag} {mg : Str → Option Value} {base : Heap}
theorem mul2 (m : Nat) (h : m ≤ 100) : CMul 2 (m : Int) := .inl ⟨by decide, by decide⟩
def sp_l_system : Spz := fun ws q => ∃ n m : Nat, ws = [.bag, .d (.int n), .d (.int m)] ∧ 0 < n ∧ n ≤ 10 ∧ m ≤ 100 ∧ ∀ s k, k ≤ n → SysB k (2 * m + 20) s → q (.d (sysD s))
end
end Zl
end
section
set_option maxHeartbeats 1000000
namespace Zl
/-! ### the least plan from floors: there is one, and how late it is -/
section
variable {s : Sys} {fl p r : Pl} {c : Chs}
theorem LF.uniq (h : LF s fl p) (g : LF s fl r) : p = r := pl_ext (h.len.trans g.len.symm) fun e => naM_anti (h.least r g.len g.keeps g.low e) (g.least p h.len h.keeps h.low e)
theorem cho_set {e : Nat} {o : Option Nat} (h : e < c.length) (i : Nat) : cho (c.set e o) i = if i = e then o else cho c i := by
  unfold cho
  rw [List.getD_eq_getElem?_getD, List.getD_eq_getElem?_getD, List.getElem?_set]
  by_cases q : i = e
  · subst q
    rw [if_pos rfl, if_pos rfl, if_pos h]
    rfl
  · rw [if_neg (fun z => q z.symm), if_neg q]
theorem sw_one (hs : SysIn s) (hl : c.length = s.1) (h : keepsM s p = false) : ∃ c', Sw s p c c' ∧ ∀ i, some i ∈ c' → some i ∈ c ∨ i < s.2.length := by
  have h1 : ∃ w ∈ s.2, kw p w = false := by
    refine Classical.byContradiction fun n => ?_
    have z : keepsM s p = true := List.all_eq_true.mpr fun w hw => by
      cases e : kw p w with
      | true => rfl
      | false => exact absurd ⟨w, hw, e⟩ n
    rw [z] at h
    cases h
  obtain ⟨w, hw, hk⟩ := h1
  obtain ⟨i, hi, rfl⟩ := List.mem_iff_getElem.mp hw
  have he : (s.2[i]).1 < c.length := by rw [hl]; exact (hs.ok _ hw).1
  refine ⟨c.set (s.2[i]).1 (some i), ⟨List.length_set, fun e => ?_, (s.2[i]).1, i, s.2[i], he, ?_, List.getElem?_eq_getElem hi, hk⟩, fun j hj => ?_⟩
  · rw [cho_set he]
    by_cases q : e = (s.2[i]).1
    · rw [if_pos q]
      exact .inr ⟨i, s.2[i], rfl, List.getElem?_eq_getElem hi, q.symm, by rw [q]; exact hk⟩
    · rw [if_neg q]
      exact .inl rfl
  · rw [cho_set he, if_pos rfl]
  · rcases List.mem_or_eq_of_mem_set hj with z | z
    · exact .inl z
    · cases z
      exact .inr hi
theorem lc_ex (hs : SysIn s) (hf : fl.length = s.1) : ∃ c p, LC s fl c p := by
  have key : ∀ (m : Nat) (c : Chs) (p : Pl), LInv s fl c p → (∀ i, some i ∈ c → i < s.2.length) → p = pbc s fl c → above s fl p = m → ∃ c p, LC s fl c p := by
    intro m
    induction m using Nat.strongRecOn with
    | _ m ih =>
      intro c p I hc hp hm
      cases hk : keepsM s p with
      | true => exact ⟨c, p, I, hk, fun r h1 h2 h3 => linv_least hs hf I h1 h2 h3 hp⟩
      | false =>
        obtain ⟨c', W, hc'⟩ := sw_one hs I.clen hk
        obtain ⟨I2, up, st⟩ := linv_step hs hf I W
        have hc2 : ∀ i, some i ∈ c' → i < s.2.length := fun i hi => (hc' i hi).elim (hc i) id
        exact ih _ (hm ▸ above_lt I2.clen hc2 up st) c' _ I2 hc2 rfl rfl
  exact key _ _ fl (linv_start hf) (fun i hi => by cases List.eq_of_mem_replicate hi) (pbc_start hf) rfl
/-- no order is later than the greatest floor and as many greatest delays as there are events -/
theorem lc_bound (hs : SysIn s) (h : LC s fl c p) {F D : Int} (hF : ∀ e i, ord fl e = some i → i ≤ F) (hD0 : 0 ≤ D) (hD : ∀ w ∈ s.2, ∀ o ∈ w.2, o.2 ≤ D) {e : Nat} {v : Int} (hv : ord p e = some v) : v ≤ F + s.1 * D := by
  obtain ⟨u, N, hN, hu⟩ := h.inv.cert
  have hR : InR s c.length := by rw [h.inv.clen]; exact inR_of hs
  have key : ∀ (k : Nat) (e : Nat), e < c.length → ((List.range c.length).filter fun x => (ord p x).isSome && decide (u e - N * valO (ord p e) < u x - N * valO (ord p x))).length ≤ k → ∀ v, ord p e = some v → v ≤ F + k * D := by
    intro k
    induction k with
    | zero =>
      intro e he hk v hv
      cases hc : cho c e with
      | none =>
        rw [h.inv.un e hc] at hv
        have := hF e v hv
        omega
      | some i =>
        have hx := h.inv.ch e i hc
        rw [hv] at hx
        obtain ⟨o, ho, x, ex, es⟩ := erl_some hx.symm
        have hphi : u e - N * v < u o.1 - N * x := by
          have a := hu e i hc o ho
          rw [← es, Int.mul_add]
          omega
        have hm : o.1 ∈ (List.range c.length).filter fun x => (ord p x).isSome && decide (u e - N * valO (ord p e) < u x - N * valO (ord p x)) := by
          rw [List.mem_filter]
          refine ⟨List.mem_range.mpr (hR i o ho), ?_⟩
          rw [ex, hv]
          exact decide_eq_true hphi
        have := List.length_pos_of_mem hm
        omega
    | succ k ih =>
      intro e he hk v hv
      have hkD : 0 ≤ (k : Int) * D := Int.mul_nonneg (by omega) hD0
      have e1 : ((k + 1 : Nat) : Int) * D = (k : Int) * D + D := by
        rw [Int.natCast_add, Int.add_mul]
        simp
      cases hc : cho c e with
      | none =>
        rw [h.inv.un e hc] at hv
        have := hF e v hv
        omega
      | some i =>
        have hx := h.inv.ch e i hc
        rw [hv] at hx
        obtain ⟨o, ho, x, ex, es⟩ := erl_some hx.symm
        have hphi : u e - N * v < u o.1 - N * x := by
          have a := hu e i hc o ho
          rw [← es, Int.mul_add]
          omega
        have hlt := hR i o ho
        have hcount := count_lt (n := c.length) (y := o.1) (f := fun x => (ord p x).isSome && decide (u o.1 - N * valO (ord p o.1) < u x - N * valO (ord p x))) (g := fun x => (ord p x).isSome && decide (u e - N * valO (ord p e) < u x - N * valO (ord p x))) (fun z hz h => by
          rw [Bool.and_eq_true] at h ⊢
          refine ⟨h.1, decide_eq_true ?_⟩
          have h3 := of_decide_eq_true h.2
          rw [hv]
          rw [ex] at h3
          show u e - N * v < _
          exact Int.lt_trans hphi h3) hlt (by rw [decide_eq_false (Int.lt_irrefl _), Bool.and_false]) (by
          rw [ex, hv, Option.isSome_some, Bool.true_and]
          exact decide_eq_true hphi)
        have hxb := ih o.1 hlt (by omega) x ex
        obtain ⟨w, hw1, hw2⟩ := h.inv.ev e i hc
        have hd := hD w (List.mem_of_getElem? hw1) o (by rw [← opts_eq hw1]; exact ho)
        omega
  have he : e < c.length := by
    by_cases q : e < c.length
    · exact q
    · rw [ord_out (r := p) (by rw [h.inv.plen, ← h.inv.clen]; omega)] at hv
      cases hv
  have := key c.length e he (by
    have := List.length_filter_le (fun x => (ord p x).isSome && decide (u e - N * valO (ord p e) < u x - N * valO (ord p x))) (List.range c.length)
    rw [List.length_range] at this
    exact this) v hv
  rw [← h.inv.clen]
  exact this
/-- one least plan, and its bounds -/
theorem lf_ex (hs : SysIn s) (hf : fl.length = s.1) : ∃ p, LF s fl p ∧ ∀ (F D : Int), (∀ e i, ord fl e = some i → i ≤ F) → 0 ≤ D → (∀ w ∈ s.2, ∀ o ∈ w.2, o.2 ≤ D) → ∀ e v, ord p e = some v → v ≤ F + s.1 * D := by
  obtain ⟨c, p, h⟩ := lc_ex hs hf
  exact ⟨p, h.lf, fun F D h1 h2 h3 e v hv => lc_bound hs h h1 h2 h3 hv⟩
end
end Zl
end
section
set_option maxHeartbeats 1000000
namespace Zl
open PySem PySem.Spec PyProof.Rows L2
/-- delays, options, waits as they may be -/
def Dv (d : Int) : Prop := d.natAbs ≤ 1000
def WtV (n : Nat) (w : Wt) : Prop := w.1 < n ∧ w.2.length ≤ 20 ∧ ∀ o ∈ w.2, o.1 < n ∧ Dv o.2
theorem WtB.v {n : Nat} {w : Wt} (h : WtB n w) : WtV n w := ⟨h.1, h.2.1, fun o ho => ⟨(h.2.2.1 o ho).1, Nat.le_trans (h.2.2.1 o ho).2 (by decide)⟩⟩
/-- a system as they are drawn -/
structure SysV (s : Sys) : Prop where
  ev : s.1 ≤ 10
  many : s.2.length ≤ 250
  ok : ∀ w ∈ s.2, WtV s.1 w
theorem SysV.sysIn {s : Sys} (h : SysV s) : SysIn s := ⟨Nat.le_trans h.ev (by decide), Nat.le_trans h.many (by decide), fun w hw => ⟨(h.ok w hw).1, fun o ho => ((h.ok w hw).2.2 o ho).1⟩⟩
theorem SysB.v {n m : Nat} {s : Sys} (h : SysB n m s) (hn : n ≤ 10) (hm : m ≤ 250) : SysV s := ⟨h.ev ▸ hn, Nat.le_trans h.many hm, fun w hw => by rw [h.ev]; exact (h.ok w hw).v⟩
/-- plans on the way: not too late, below the least one -/
structure PIn (s : Sys) (B : Int) (fl p r : Pl) : Prop where
  len : r.length = s.1
  ok : ∀ e i, ord r e = some i → i ≤ B
  low : Le2 fl r
  up : Le2 r p
def mu1 (B : Int) : Ord → Nat
  | none => 0
  | some v => (B + 1 - v).toNat
def mu (B : Int) (p : Pl) : Nat := (p.map (mu1 B)).sum
theorem mu_set {B v : Int} {o : Ord} : ∀ {p : Pl} {e : Nat}, e < p.length → ord p e = some v → v ≤ B → (∀ v', o = some v' → v < v' ∧ v' ≤ B) → mu B (p.set e o) < mu B p
  | [], e, h, _, _, _ => by cases h
  | x :: p, 0, h, he, hv, ho => by
    have he : x = some v := he
    subst he
    show (mu1 B o :: p.map (mu1 B)).sum < (mu1 B (some v) :: p.map (mu1 B)).sum
    rw [List.sum_cons, List.sum_cons]
    have : mu1 B o < mu1 B (some v) := by
      cases o with
      | none => show 0 < (B + 1 - v).toNat; omega
      | some u =>
        have := ho u rfl
        show (B + 1 - u).toNat < (B + 1 - v).toNat
        omega
    omega
  | x :: p, e + 1, h, he, hv, ho => by
    have h2 := mu_set (p := p) (e := e) (by simpa using h) he hv ho
    show (mu1 B x :: (p.set e o).map (mu1 B)).sum < (mu1 B x :: p.map (mu1 B)).sum
    rw [List.sum_cons, List.sum_cons]
    have h2 : ((p.set e o).map (mu1 B)).sum < (p.map (mu1 B)).sum := h2
    omega
/-- a turn of the own raising: the order of a wait that is not kept, or None where it is too late -/
theorem PIn.step {s : Sys} {B : Int} {fl p r : Pl} (hs : SysIn s) (hp : LF s fl p) (hB : ∀ e v, ord p e = some v → v ≤ B) (h : PIn s B fl p r) {w : Wt} (hw : w ∈ s.2) {v : Int} (hv : ord r w.1 = some v) (hk : naM (erl r w.2) (some v) = false) {o : Ord}
    (ho : (∃ u, o = some u ∧ erl r w.2 = some u ∧ u ≤ B) ∨ (o = none ∧ ∀ u, erl r w.2 = some u → ¬ u ≤ B)) : PIn s B fl p (r.set w.1 o) ∧ mu B (r.set w.1 o) < mu B r := by
  have hlt : w.1 < r.length := by rw [h.len]; exact (hs.ok w hw).1
  have hvB := h.ok _ _ hv
  have hpk : naM (erl p w.2) (ord p w.1) = true := List.all_eq_true.mp hp.keeps w hw
  have hrp := naM_trans (erl_mono h.up w.2) hpk
  have hup : naM o (ord p w.1) = true := by
    rcases ho with ⟨u, rfl, hu, _⟩ | ⟨rfl, hu⟩
    · rw [hu] at hrp
      exact hrp
    · cases hpo : ord p w.1 with
      | none => rfl
      | some x =>
        rw [hpo] at hrp
        cases he : erl r w.2 with
        | none => rw [he] at hrp; cases hrp
        | some u =>
          rw [he] at hrp
          have hrp : u ≤ x := of_decide_eq_true hrp
          have := hB _ _ hpo
          exact absurd (Int.le_trans hrp this) (hu u he)
  have hgt : ∀ u, o = some u → v < u ∧ u ≤ B := fun u hu => by
    rcases ho with ⟨u', e, h1, h2⟩ | ⟨e, _⟩
    · rw [e] at hu
      cases hu
      rw [h1] at hk
      have hk : ¬ u ≤ v := of_decide_eq_false hk
      exact ⟨by omega, h2⟩
    · rw [e] at hu
      cases hu
  refine ⟨⟨by rw [List.length_set]; exact h.len, fun e i hi => ?_, fun e => ?_, fun e => ?_⟩, mu_set hlt hv hvB hgt⟩
  · rw [ord_set hlt] at hi
    by_cases q : e = w.1
    · rw [if_pos q] at hi
      exact (hgt i hi).2
    · rw [if_neg q] at hi
      exact h.ok e i hi
  · rw [ord_set hlt]
    by_cases q : e = w.1
    · rw [if_pos q, q]
      have z := h.low w.1
      rw [hv] at z
      cases o with
      | none => cases ord fl w.1 <;> rfl
      | some u =>
        have := hgt u rfl
        refine naM_trans z (decide_eq_true ?_)
        omega
    · rw [if_neg q]
      exact h.low e
  · rw [ord_set hlt]
    by_cases q : e = w.1
    · rw [if_pos q, q]
      exact hup
    · rw [if_neg q]
      exact h.up e
theorem PIn.done {s : Sys} {B : Int} {fl p r : Pl} (hp : LF s fl p) (h : PIn s B fl p r) (hk : keepsM s r = true) : r = p :=
  pl_ext (h.len.trans hp.len.symm) fun e => naM_anti (h.up e) (hp.least r h.len hk h.low e)
theorem keeps_false {s : Sys} {r : Pl} {w : Wt} (hw : w ∈ s.2) (h : kw r w = false) : keepsM s r = false := by
  cases e : keepsM s r with
  | false => rfl
  | true =>
    have := List.all_eq_true.mp e w hw
    rw [h] at this
    cases this
theorem PlB.of_at {k : Nat} {p : Pl} (h : ∀ e v, ord p e = some v → v.natAbs ≤ k) : PlB k p := fun o ho i hi => by
  obtain ⟨e, he, rfl⟩ := List.mem_iff_getElem.mp ho
  refine h e i ?_
  unfold ord
  rw [List.getD_eq_getElem?_getD, List.getElem?_eq_getElem he]
  exact hi
theorem low_at {fl p : Pl} (h : Le2 fl p) {e : Nat} {v : Int} (hv : ord p e = some v) : ∃ f, ord fl e = some f ∧ f ≤ v := by
  have z := h e
  rw [hv] at z
  cases q : ord fl e with
  | none => rw [q] at z; cases z
  | some f =>
    rw [q] at z
    exact ⟨f, rfl, of_decide_eq_true z⟩
section
variable {P : Program} {w : World} {K : PySem.W.Frag} {mg : Str → Option Value} {base : Heap}
def sp_l_delays : Spz := fun ws q => ∃ s : Sys, ws = [.d (sysD s)] ∧ SysV s ∧ ∀ ds : List Int, ds.length ≤ 5000 → (∀ d ∈ ds, Dv d ∧ ∃ w ∈ s.2, ∃ o ∈ w.2, o.2 = d) → (∀ w ∈ s.2, ∀ o ∈ w.2, o.2 ∈ ds) → q (.d (.list (ds.map .int)))
theorem ok_l_delays (M : Mgz mg) (Dd : Vq.D1 K mg "_law_delays" s_l_delays ["_law_system"])  : ZCal P w K mg base 1 "_law_delays" sp_l_delays := by
  refine zcal false Dd sc_l_delays (fun ws q h => ?_) fun f cdv A outer s H E hG hr => ⟨_, (zb_cons (zs_set (i := 1) sc_l_delays.nd rfl (.inl rfl) (z_lst za_nil))
      (zb_cons (zs_for PassesOwn.never rfl (zi_seq (z_ix (zv 0) zint)) (zg_tup rfl (zgs_cons (zg_name (i := 2) sc_l_delays.nd rfl (.inl rfl)) (zgs_cons (zg_name (i := 3) sc_l_delays.nd rfl (.inl rfl)) zgs_nil))) (zb_one (zs_hotL (i := 1) m_extend (fun h => ps_expr (pe_bm PySem.F.plainAttrs_list PySem.F.slot_list_extend PySem.F.type_list_extend mt_extend (pv 1) h)) (za_cons (zfz (z_lc (own := [("_law_other", 4), ("_law_delay", 5)]) rfl sc_l_delays.nd (zi_seq (zv 3)) (blkOk_by (own := [("_law_other", 4), ("_law_delay", 5)]) (N := n_l_delays) (sc := defScope s_l_delays) (by first | decide +kernel | kernel_rfl | rfl)) (fun _ _ _ _ _ => (pg_tupK K rfl (n := 2) rfl (pgs_cons (pg_name (i := 4) sc_l_delays.nd rfl (.inl rfl)) (pgs_cons (pg_name (i := 5) sc_l_delays.nd rfl (.inl rfl)) pgs_nil)))) (gr_tup (n := 2) (gr_cons (gr_name (by decide)) (gr_cons (gr_name (by decide)) gr_nil))) (fun _ _ _ _ _ => (zv 5)))) za_nil))))
      (zb_one (zs_ret (zv 1))))), fun ws Q0 h => ?_⟩
  · obtain ⟨s, rfl, _⟩ := h
    rfl
  · obtain ⟨s, rfl, hs, q⟩ := h
    refine zLoop_inv waitD (fun xs δ => (∀ w ∈ xs, w ∈ s.2) ∧ ∃ (ds : List Int) (k : Nat) (a b : Sl), (∀ w ∈ s.2, w ∈ xs ∨ ∀ o ∈ w.2, o.2 ∈ ds) ∧ k + xs.length ≤ 250 ∧ ds.length ≤ 20 * k ∧ (∀ d ∈ ds, Dv d ∧ ∃ w ∈ s.2, ∃ o ∈ w.2, o.2 = d) ∧ δ = [.w (.d (sysD s)), .hl (ds.map .int), a, b, .un, .un]) (fun x xs δ h k hk => ?_) (fun δ h => ?_) s.2 _ ⟨fun w h => h, [], 0, .un, .un, fun w hw => .inl hw, by have := hs.many; omega, Nat.zero_le _, (fun d h => by cases h), rfl⟩
    · obtain ⟨hw, ds, kk, a, b, hin, hkk, hl, hd, rfl⟩ := h
      rw [List.length_cons] at hkk
      have hxs := hw x List.mem_cons_self
      obtain ⟨w1, w2, w3⟩ := hs.ok x hxs
      refine zComp_map optD (fun o => PyData.int o.2) x.2 (fun o ho k k0 h => h) ?_
      refine ⟨by rw [List.length_map, List.length_map, sizeLine_eq]; omega, hk _ ⟨fun w h => hw w (List.mem_cons_of_mem _ h), ds ++ x.2.map (·.2), kk + 1, _, _, fun w hw2 => ?_, by omega, by rw [List.length_append, List.length_map]; omega, fun d hd2 => ?_, by rw [List.map_append, List.map_map]; rfl⟩⟩
      · rcases hin w hw2 with z | z
        · rcases List.mem_cons.mp z with rfl | z
          · exact .inr fun o ho => List.mem_append_right _ (List.mem_map.mpr ⟨o, ho, rfl⟩)
          · exact .inl z
        · exact .inr fun o ho => List.mem_append_left _ (z o ho)
      rcases List.mem_append.mp hd2 with z | z
      · exact hd d z
      · obtain ⟨o, ho, rfl⟩ := List.mem_map.mp z
        exact ⟨(w3 o ho).2, x, hxs, o, ho, rfl⟩
    · obtain ⟨hw, ds, kk, a, b, hin, hkk, hl, hd, rfl⟩ := h
      exact q ds (by omega) hd fun w hw2 => (hin w hw2).resolve_left (fun z => by cases z)
def sp_l_least_plan : Spz := fun ws q => ∃ s : Sys, ws = [.d (sysD s)] ∧ SysV s ∧ ∀ p : Pl, LP s p → PlB 10000 p → q (.d (plD true p))
theorem ok_l_least_plan (M : Mgz mg) (Dd : Vq.D1 K mg "_law_least_plan" s_l_least_plan ["_law_system"]) (c_l_delays : ZCal P w K mg base 1 "_law_delays" sp_l_delays) (c_l_first : ZCal P w K mg base 4 "_law_first" sp_l_first) (c_l_is_kept : ZCal P w K mg base 5 "_law_is_kept" sp_l_is_kept) : ZCal P w K mg base 6 "_law_least_plan" sp_l_least_plan := by
  refine zcal false Dd sc_l_least_plan (fun ws q h => ?_) fun f cdv A outer s H E hG hr => ⟨_, (zb_cons (zs_par3 (i := 1) (j := 2) (k := 3) (ps_par3 rfl sc_l_least_plan.nd rfl rfl rfl (by decide) (by decide) (by decide) rfl rfl rfl (zn_cons (z_rep (zfz (z_lst (za_cons zint za_nil))) (z_ix (zv 0) zint)) (zn_cons (z_mul (z_ix (zv 0) zint) (z_b (b_max rfl) (by rfl) M.max (by decide +kernel) (za_cons (zfz (z_cat (zfz (z_lst (za_cons zint za_nil))) (z_call hG c_l_delays hr (by decide) rfl (za_cons (zv 0) za_nil)))) za_nil))) (zn_cons zbl zn_nil))) (by rfl)))
      (zb_cons (zs_while PassesOwn.never (zt_val (zv 3)) (zb_cons (zs_set (i := 3) sc_l_least_plan.nd rfl (.inl rfl) zbl)
      (zb_one (zs_for PassesOwn.never rfl (zi_seq (z_ix (zv 0) zint)) (zg_name (i := 4) sc_l_least_plan.nd rfl (.inl rfl)) (zb_one (zs_if (zt_not (zt_val (z_callH hG c_l_is_kept hr (by decide) rfl (za_cons (zv 1) (za_cons (zv 4) za_nil))))) (zb_cons (zs_set (i := 5) sc_l_least_plan.nd rfl (.inl rfl) (z_callH hG c_l_first hr (by decide) rfl (za_cons (zv 1) (za_cons (zv 4) za_nil))))
      (zb_one (zs_asg (z_tup (za_cons (z_if (zt_w (zw_and (zt_notN (zv 5) znon (nomark _)) (zw_and1 (zt_le (zv 5) (zv 2) (nomark _))))) (zv 5) znon) (za_cons zbl za_nil))) (zg_tup rfl (zgs_cons (zg_setL (j := 1) (z_ix (zv 4) zint)) (zgs_cons (zg_name (i := 3) sc_l_least_plan.nd rfl (.inl rfl)) zgs_nil)))))) zb_nil))))))
      (zb_one (zs_ret (z_ty t_tuple (by rfl) M.tuple (by decide +kernel) (za_cons (zv 1) za_nil)))))), fun ws Q0 h => ?_⟩
  · obtain ⟨s, rfl, _⟩ := h
    rfl
  · obtain ⟨s, rfl, hs, q⟩ := h
    have hn := hs.ev
    refine ⟨⟨by omega, by omega, by rw [sizeLine_eq]; show 1 * s.1 ≤ _; omega⟩, ?_⟩
    refine ⟨s, rfl, hs, fun ds hl hd hin => ?_⟩
    refine ⟨by rw [List.length_map, sizeLine_eq]; show 1 + _ ≤ _; omega, ?_⟩
    show (match intsD ((0 :: ds).map PyData.int) with
      | some ns => _
      | none => False)
    rw [intsD_map]
    refine ⟨Nat.zero_lt_succ _, fun mx hm1 hm2 => ?_⟩
    have hm3 : 0 ≤ mx := hm2 0 List.mem_cons_self
    have hm4 : mx ≤ 1000 := by
      rcases List.mem_cons.mp hm1 with z | z
      · omega
      · have h : mx.natAbs ≤ 1000 := (hd mx z).1
        omega
    refine ⟨.inl ⟨by omega, by omega⟩, ?_⟩
    have hB0 : 0 ≤ (s.1 : Int) * mx := Int.mul_nonneg (by omega) hm3
    have hB1 : (s.1 : Int) * mx ≤ 10000 := by
      have h5 : (s.1 : Int) * mx ≤ 10 * mx := Int.mul_le_mul_of_nonneg_right (by omega) hm3
      omega
    obtain ⟨p, hp, hpb⟩ := lf_ex hs.sysIn (fl := zeros s.1) (by unfold zeros; rw [List.length_replicate])
    have hz : ∀ e i, ord (zeros s.1) e = some i → i = 0 := fun e i h => by
      unfold ord zeros at h
      rw [List.getD_eq_getElem?_getD, List.getElem?_replicate] at h
      split at h
      · cases h; rfl
      · cases h
    have hpB := hpb 0 mx (fun e i h => by rw [hz e i h]; exact Int.le_refl _) hm3 fun w hw o ho => hm2 _ (List.mem_cons_of_mem _ (hin w hw o ho))
    rw [Int.zero_add] at hpB
    have hpl : PlB 10000 p := PlB.of_at fun e v hv => by
      have h1 := hpB e v hv
      obtain ⟨f, h2, h3⟩ := low_at hp.low hv
      rw [hz e f h2] at h3
      omega
    obtain ⟨B, hBe⟩ : ∃ B, B = (s.1 : Int) * mx := ⟨_, rfl⟩
    rw [← hBe] at hB0 hB1 hpB
    have hq := q p hp hpl
    clear hpb q
    refine ⟨fun m δ => ∃ (r : Pl) (b : Bool) (c d : Sl), δ = [.w (.d (sysD s)), .hl (r.map ordD), .w (.d (.int B)), .w (.d (.bool b)), c, d] ∧ PIn s B (zeros s.1) p r ∧ (b = false → keepsM s r = true) ∧ m = 2 * mu B r + (if b = true then 1 else 0), ⟨_, zeros s.1, true, .un, .un, ?_, ?_, (fun h => by cases h), rfl⟩, ?_⟩
    · have e : (List.replicate s.1 [PyData.int 0]).flatten = (zeros s.1).map ordD := by
        unfold zeros
        rw [List.flatten_replicate_singleton, List.map_replicate]
        rfl
      rw [← e, hBe]
      rfl
    · exact ⟨by unfold zeros; rw [List.length_replicate], fun e i h => by rw [hz e i h]; exact hB0, .refl _, hp.low⟩
    · rintro m δ ⟨r0, b, c, d, rfl, hr0, hb0, rfl⟩
      cases b with
      | false =>
        rw [hr0.done hp (hb0 rfl)]
        exact hq
      | true =>
        refine zLoop_inv waitD (fun xs δ => ∃ (dn : List Wt) (r : Pl) (b : Bool) (c d : Sl), s.2 = dn ++ xs ∧ δ = [.w (.d (sysD s)), .hl (r.map ordD), .w (.d (.int B)), .w (.d (.bool b)), c, d] ∧ PIn s B (zeros s.1) p r ∧ mu B r ≤ mu B r0 ∧ (b = true → mu B r < mu B r0) ∧ (b = false → ∀ w ∈ dn, kw r w = true)) (fun x xs δ h k hk => ?_) (fun δ h => ?_) s.2 _ ⟨[], r0, false, c, d, rfl, rfl, hr0, Nat.le_refl _, (fun h => by cases h), fun _ w hw => by cases hw⟩
        · obtain ⟨dn, r, b, c, d, hdn, rfl, hr, hmu, hb, hbf⟩ := h
          have hx : x ∈ s.2 := by rw [hdn]; exact List.mem_append_right _ List.mem_cons_self
          have hdn2 : s.2 = (dn ++ [x]) ++ xs := by rw [hdn, List.append_assoc]; rfl
          obtain ⟨w1, w2⟩ := hs.sysIn.ok x hx
          refine ⟨false, r, x, rfl, by rw [hr.len]; exact ⟨w1, w2⟩, ?_⟩
          cases hkw : kw r x with
          | true =>
            refine hk _ ⟨dn ++ [x], r, b, _, _, hdn2, rfl, hr, hmu, hb, fun h w hw => ?_⟩
            rcases List.mem_append.mp hw with z | z
            · exact hbf h w z
            · rw [List.mem_singleton.mp z]
              exact hkw
          | false =>
            refine ⟨false, r, x, rfl, by rw [hr.len]; exact w2, ?_⟩
            have hx2 : x.1 < r.length := by rw [hr.len]; exact w1
            have ei : ixN (r.map ordD).length ((x.1 : Nat) : Int) = some x.1 := by
              unfold ixN
              rw [List.length_map, if_pos (by omega), if_pos (by omega), Int.toNat_natCast]
            unfold kw at hkw
            cases ho : ord r x.1 with
            | none => rw [ho] at hkw; cases erl r x.2 <;> cases hkw
            | some v =>
              rw [ho] at hkw
              have go := fun (o : Ord) ho2 => hr.step hs.sysIn hp hpB hx ho hkw (o := o) ho2
              cases he : erl r x.2 with
              | none =>
                obtain ⟨g1, g2⟩ := go none (.inr ⟨rfl, fun u hu => by rw [he] at hu; cases hu⟩)
                show (match ixN (r.map ordD).length ((x.1 : Nat) : Int) with
                  | some m => _
                  | none => False)
                rw [ei]
                refine hk _ ⟨dn ++ [x], r.set x.1 none, true, .w (.d (waitD x)), .w (.d .none), hdn2, ?_, g1, by omega, (fun _ => by omega), fun h => by cases h⟩
                rw [List.map_set]
                rfl
              | some u =>
                show (if decide (u ≤ B) = true then _ else _)
                by_cases hub : u ≤ B
                · rw [if_pos (decide_eq_true hub)]
                  obtain ⟨g1, g2⟩ := go (some u) (.inl ⟨u, rfl, he, hub⟩)
                  show (match ixN (r.map ordD).length ((x.1 : Nat) : Int) with
                    | some m => _
                    | none => False)
                  rw [ei]
                  refine hk _ ⟨dn ++ [x], r.set x.1 (some u), true, .w (.d (waitD x)), .w (.d (.int u)), hdn2, ?_, g1, by omega, (fun _ => by omega), fun h => by cases h⟩
                  rw [List.map_set]
                  rfl
                · rw [if_neg (by rw [decide_eq_false hub]; decide)]
                  obtain ⟨g1, g2⟩ := go none (.inr ⟨rfl, fun u' hu => by rw [he] at hu; cases hu; exact hub⟩)
                  show (match ixN (r.map ordD).length ((x.1 : Nat) : Int) with
                    | some m => _
                    | none => False)
                  rw [ei]
                  refine hk _ ⟨dn ++ [x], r.set x.1 none, true, .w (.d (waitD x)), .w (.d (.int u)), hdn2, ?_, g1, by omega, (fun _ => by omega), fun h => by cases h⟩
                  rw [List.map_set]
                  rfl
        · obtain ⟨dn, r, b, c, d, hdn, rfl, hr, hmu, hb, hbf⟩ := h
          rw [List.append_nil] at hdn
          subst hdn
          refine ⟨_, ?_, r, b, _, _, rfl, hr, (fun h => List.all_eq_true.mpr (hbf h)), rfl⟩
          cases b with
          | false => show 2 * mu B r + 0 < 2 * mu B r0 + 1; omega
          | true =>
            have := hb rfl
            show 2 * mu B r + 1 < 2 * mu B r0 + 1
            omega
end
end Zl
end
section
set_option maxHeartbeats 1000000
namespace Zl
open PySem PySem.Spec PyProof.Rows L2
/-! ### a call that is handed a changed list, and gives tuples of things by themselves -/
mutual
def noL : D → Bool
  | .dict _ => false
  | .list _ => false
  | .tuple xs => noLs xs
  | _ => true
def noLs : List D → Bool
  | [] => true
  | x :: xs => noL x && noLs xs
end
/-- the cold part, and the tuples that another has -/
def tupH (Hc B : Hp) : Hp := fun b => match Hc b with
  | some o => some o
  | none => match B b with
    | some (.tup xs) => some (.tup xs)
    | _ => none
theorem tupH_le {Hc B : Hp} : Le Hc (tupH Hc B) := fun b o h => by
  unfold tupH
  rw [h]
theorem tupH_cases {Hc B : Hp} {b : Addr} {o : HO} (h : tupH Hc B b = some o) : Hc b = some o ∨ (Hc b = none ∧ B b = some o ∧ ∃ xs, o = .tup xs) := by
  unfold tupH at h
  cases e : Hc b with
  | some u =>
    rw [e] at h
    exact .inl h
  | none =>
    rw [e] at h
    cases e2 : B b with
    | none => rw [e2] at h; cases h
    | some u =>
      rw [e2] at h
      cases u with
      | tup xs => cases h; exact .inr ⟨rfl, rfl, xs, rfl⟩
      | _ => cases h
theorem tupH_at {Hc B : Hp} (l : Le Hc B) {b : Addr} {xs : List V} (h : B b = some (.tup xs)) : tupH Hc B b = some (.tup xs) := by
  unfold tupH
  cases e : Hc b with
  | some u =>
    have := l b u e
    rw [h] at this
    cases this
    rfl
  | none => rw [h]
mutual
theorem RV.noL {K : PySem.W.Frag} {Hc B : Hp} (l : Le Hc B) : ∀ {v : V} {d : D}, Zl.noL d = true → RV K B v d → RV K (tupH Hc B) v d
  | _, _, _, .non => .non
  | _, _, _, .bl b => .bl b
  | _, _, _, .int i => .int i
  | _, _, _, .str x => .str x
  | _, _, n, .lst h z t => by simp [Zl.noL] at n
  | _, _, n, .tup h z t => .tup (tupH_at l h) z (RVs.noL l (by simpa [Zl.noL] using n) t)
  | _, _, n, .dct h t => by simp [Zl.noL] at n
theorem RVs.noL {K : PySem.W.Frag} {Hc B : Hp} (l : Le Hc B) : ∀ {v : List V} {d : List D}, noLs d = true → RVs K B v d → RVs K (tupH Hc B) v d
  | _, _, _, .nil => .nil
  | _, _, n, .cons h t => by
    have n : (Zl.noL _ && noLs _) = true := n
    rw [Bool.and_eq_true] at n
    exact .cons (RV.noL l n.1 h) (RVs.noL l n.2 t)
end
section
variable {K : PySem.W.Frag} {P : Pm} {Hc H B : Hp} {σ : L2.St} {δ : List Sl}
theorem RSl.noTup {a : Addr} {s : Sl} (h : RSl K P Hc H (some (some (.ref a))) s) (hs : s.hot = true) (xs : List V) : H a ≠ some (.tup xs) := fun e => by
  cases s with
  | un => cases hs
  | w x => cases hs
  | hl ys =>
    obtain ⟨b, eb, _, vs, h1, _⟩ := h
    cases eb
    rw [e] at h1
    cases h1
  | hd ys =>
    obtain ⟨b, eb, _, vs, h1, _⟩ := h
    cases eb
    rw [e] at h1
    cases h1
theorem RW.tups (R : RW K P Hc H σ δ) (hB : ∀ b xs, Hc b = none → B b = some (.tup xs) → H b = some (.tup xs) ∧ P.g ≠ some b ∧ P.F b = none) : RW K P (tupH Hc B) H σ δ := by
  have hot : ∀ {a : Addr} {s : Sl}, RSl K P Hc H (some (some (.ref a))) s → s.hot = true → Hc a = none → tupH Hc B a = none := fun {a s} h hs hc => by
    cases e : tupH Hc B a with
    | none => rfl
    | some o =>
      rcases tupH_cases e with z | ⟨z1, z2, xs, rfl⟩
      · rw [hc] at z; cases z
      · exact absurd (hB a xs z1 z2).1 (RSl.noTup h hs xs)
  refine ⟨R.base.trans tupH_le, fun b o e => ?_, fun b o e => ?_, R.old, fun a ha => ?_, R.len, fun i s e => ?_, R.apart, fun q hq => ⟨(R.gst q hq).1.grow tupH_le (Le.refl _) (fun a hs ea hc => ?_), (R.gst q hq).2⟩⟩
  · rcases tupH_cases e with z | ⟨z1, z2, xs, rfl⟩
    · exact R.fresh b o z
    · exact .inr (hB b xs z1 z2).2.2
  · rcases tupH_cases e with z | ⟨z1, z2, xs, rfl⟩
    · exact R.cold b o z
    · exact nb_of (hB b xs z1 z2).2.1 (hB b xs z1 z2).1
  · obtain ⟨hb, u, hu⟩ := R.bag a ha
    exact ⟨hb, u, tupH_le _ _ hu⟩
  · refine (R.sl i s e).grow tupH_le (Le.refl _) fun a hs ea hc => ?_
    have z := R.sl i s e
    rw [ea] at z
    exact hot z hs hc
  · have z := (R.gst q hq).1
    rw [ea] at z
    exact hot z hs hc
end
def noLW (w : W) (q : W → Prop) : Prop := match w with
  | .d x => noL x = true ∧ q (.d x)
  | _ => False
def zCallT (sp : Spz) (t : TPa) : TP := fun δ q => t δ fun ws => cOk (ws.map chillW) (sp (ws.map chillW) fun w => noLW w q)
section
variable {X : Cx} {j k : Nat} {sp : Spz} {x : Str} {p pos : Pos} {e : Expr} {es : List Expr} {t : TPa}
theorem z_callT (hG : X.A.guards = some []) (c : ZCal X.prog X.w X.K X.mg X.base k x sp) (hr : Room j X.A) (hk : k ≤ j) (hg : Gl X x) (ha : ZA X (e :: es) t)
    (hdb : (x == ("__debug__" : Str)) = false := by decide) (he : starEach (e :: es) X.env = (false, eval e X.env) :: starEach es X.env := by rfl) (hpl : (backTo pos (starEach es X.env)).any (·.1) = false := by rfl) :
    ZE X (.Call (.Name x p) (e :: es) [] pos) (zCallT sp t) := pe_imp (Vq.pe_gc hG c hr hk hg ha hdb he hpl) fun σ H Q => by
  rintro ⟨P, Hc, δ, q, R, ht, post⟩
  refine ⟨P, Hc, δ, _, R, ht, fun Hc' H' vs ws l f R' rv hq => ?_⟩
  obtain ⟨rc, hq⟩ := cOkH_inv R' rv hq
  obtain ⟨l1, l2, l3⟩ := R'.all
  rw [List.append_nil]
  have bk : BagOk P.g P.r (allH P Hc' H') H' := fun a ha => by
    obtain ⟨hb, o, ho⟩ := R'.bag a ha
    exact ⟨hb, o, l1 _ _ ho⟩
  refine ⟨P.g, P.r, allH P Hc' H', ws.map chillW, _, l2, bk, rc, hq, fun B' H2 v w e2 fr c2 f2 bk2 rv2 hq2 => ?_⟩
  have R2 : RW X.K P Hc' H2 σ δ := by
    refine ⟨R'.base, R'.fresh, R'.cold.trans f2, R'.old.trans f2, fun a ha => ?_, R'.len, fun i s e => (R'.sl i s e).grow (Le.refl _) f2 fun _ _ _ z => z, R'.apart, fun q hq => ⟨(R'.gst q hq).1.grow (Le.refl _) f2 (fun _ _ _ z => z), (R'.gst q hq).2⟩⟩
    obtain ⟨_, o, ho⟩ := R'.bag a ha
    exact ⟨(bk2 a ha).1, o, ho⟩
  have R3 : RW X.K P (tupH Hc' B') H2 σ δ := R2.tups fun b xs h1 h2 => by
    obtain ⟨n1, n2⟩ := nb_some (c2 b _ h2)
    refine ⟨n2, n1, ?_⟩
    rcases fr b _ h2 with z | z
    · unfold allH at z
      by_cases hc : (Hc' b).isSome = true ∨ P.F b = none
      · rcases hc with hc | hc
        · rw [h1] at hc; cases hc
        · exact hc
      · rw [if_neg hc] at z
        cases z
    · cases hF : P.F b with
      | none => rfl
      | some u =>
        have := (nb_some (R'.old b u (nb_of n1 hF))).2
        rw [z] at this
        cases this
  unfold noLW at hq2
  split at hq2
  · rename_i d
    have z : RV X.K B' v d := rv2
    exact post (tupH Hc' B') H2 v (.d d) (l.trans tupH_le) (f.trans f2) R3 (RV.noL (l1.trans e2) hq2.1 z) hq2.2
  · exact hq2.elim
end
end Zl
end
section
set_option maxHeartbeats 1000000
set_option exponentiation.threshold 3000
namespace Zl
open PySem PySem.Spec PyProof.Rows L2
/-- plans of a system, of no great orders -/
def PlV (s : Sys) (k : Nat) (p : Pl) : Prop := p.length = s.1 ∧ PlB k p
theorem PlB.mono {k j : Nat} {p : Pl} (h : PlB k p) (l : k ≤ j) : PlB j p := fun o ho i hi => Nat.le_trans (h o ho i hi) l
theorem PlB.set {k : Nat} {p : Pl} (h : PlB k p) {e : Nat} {o : Ord} (ho : ∀ i, o = some i → i.natAbs ≤ k) : PlB k (p.set e o) := fun x hx i hi => by
  rcases List.mem_or_eq_of_mem_set hx with z | rfl
  · exact h x z i hi
  · exact ho i hi
theorem noL_pl (p : Pl) : noL (plD true p) = true := by
  show noLs (p.map ordD) = true
  induction p with
  | nil => rfl
  | cons o p ih =>
    show (noL (ordD o) && noLs (p.map ordD)) = true
    rw [ih, Bool.and_true]
    cases o <;> rfl
theorem ord_nones (n e : Nat) : ord (List.replicate n none) e = none := by
  unfold ord
  rw [List.getD_eq_getElem?_getD, List.getElem?_replicate]
  split <;> rfl
theorem keeps_nones (s : Sys) : keepsM s (List.replicate s.1 none) = true := List.all_eq_true.mpr fun w _ => by
  unfold kw
  rw [ord_nones]
  cases erl (List.replicate s.1 none) w.2 <;> rfl
/-! ### what may be shown -/
theorem gdA_map {β : Type} {k n : Nat} {f : β → D} : ∀ {xs : List β}, (∀ x ∈ xs, Vq.Gd k n (f x)) → Vq.GdA k ((n + 1) * xs.length) (xs.map f)
  | [], _ => .nil k _
  | x :: xs, h => by
    have z := Vq.GdA.cons (h x List.mem_cons_self) (gdA_map fun y hy => h y (List.mem_cons_of_mem _ hy))
    rw [List.length_cons, Nat.mul_add, Nat.mul_one, Nat.add_comm]
    exact z
theorem small_lt {i : Int} (h : i.natAbs ≤ 2 ^ 64) : i.natAbs < 2 ^ 1900 := Nat.lt_of_le_of_lt h (Nat.pow_lt_pow_right (by decide) (by decide))
theorem gd_ord {o : Ord} (k n : Nat) (h : ∀ i, o = some i → i.natAbs ≤ 2 ^ 64) : Vq.Gd k n (ordD o) := by
  cases o with
  | none => exact .non k n
  | some i => exact .int k n (small_lt (h i rfl))
theorem erl_b {p : Pl} {b : Nat} (hp : PlB b p) {os : List Opt} (ho : ∀ o ∈ os, Dv o.2) {i : Int} (h : erl p os = some i) : i.natAbs ≤ b + 1000 := by
  obtain ⟨o, h1, x, h2, h3⟩ := erl_some h
  have h4 := hp.at h2
  have h5 : o.2.natAbs ≤ 1000 := ho o h1
  omega
theorem nat_small {i : Nat} (h : i ≤ 1000) : ((i : Int)).natAbs ≤ 2 ^ 64 := by
  have : i ≤ 2 ^ 64 := Nat.le_trans h (by decide)
  omega
theorem fm_congr {α β : Type} {f g : α → Option β} : ∀ {l : List α}, (∀ x ∈ l, f x = g x) → l.filterMap f = l.filterMap g
  | [], _ => rfl
  | x :: l, h => by
    rw [List.filterMap_cons, List.filterMap_cons, h x List.mem_cons_self, fm_congr fun y hy => h y (List.mem_cons_of_mem _ hy)]
def kwAt (s : Sys) (p : Pl) (i : Nat) : Bool := match s.2[i]? with
  | some w => kw p w
  | none => true
theorem unk_rng (s : Sys) (p : Pl) : (List.range s.2.length).filterMap (fun i => if kwAt s p i = true then none else some (PyData.int (i : Nat))) = (unk s p).map fun (i : Nat) => PyData.int (i : Nat) := by
  unfold unk
  rw [List.map_filterMap, ← zipIdx_snd, List.filterMap_map]
  refine fm_congr fun x hx => ?_
  have e : s.2[x.2]? = some x.1 := List.mk_mem_zipIdx_iff_getElem?.mp hx
  have e2 : kwAt s p x.2 = kw p x.1 := by
    unfold kwAt
    rw [e]
  show (if kwAt s p x.2 = true then none else some (PyData.int (x.2 : Nat))) = _
  rw [e2]
  by_cases h : kw p x.1 = true
  · rw [if_pos h, if_pos h]; rfl
  · rw [if_neg h, if_neg h]; rfl
theorem unk_lt {s : Sys} {p : Pl} {i : Nat} (h : i ∈ unk s p) : i < s.2.length := by
  unfold unk at h
  obtain ⟨x, hx, e⟩ := List.mem_filterMap.mp h
  by_cases hk : kw p x.1 = true
  · rw [if_pos hk] at e; cases e
  · rw [if_neg hk] at e
    cases e
    exact (List.getElem?_eq_some_iff.mp (List.mk_mem_zipIdx_iff_getElem?.mp hx)).1
theorem unk_len (s : Sys) (p : Pl) : (unk s p).length ≤ s.2.length := by
  unfold unk
  have := List.length_filterMap_le (fun w : Wt × Nat => if kw p w.1 = true then none else some w.2) s.2.zipIdx
  rw [List.length_zipIdx] at this
  exact this
theorem ord_shift (p : Pl) (d : Int) (e : Nat) : ord (shiftM p d) e = laterM (ord p e) d := by
  unfold shiftM ord
  rw [List.getD_eq_getElem?_getD, List.getD_eq_getElem?_getD, List.getElem?_map]
  cases p[e]? with
  | none => rfl
  | some o => rfl
theorem keeps_at {s : Sys} {p : Pl} (h : keepsM s p = true) {w : Wt} (hw : w ∈ s.2) : naM (erl p w.2) (ord p w.1) = true := List.all_eq_true.mp h w hw
theorem keeps_shift {s : Sys} {p : Pl} (h : keepsM s p = true) (d : Int) : keepsM s (shiftM p d) = true := List.all_eq_true.mpr fun w hw => by
  have z := keeps_at h hw
  unfold kw
  rw [ord_shift]
  cases ho : ord p w.1 with
  | none => cases erl (shiftM p d) w.2 <;> rfl
  | some v =>
    rw [ho] at z
    cases he : erl p w.2 with
    | none => rw [he] at z; cases z
    | some u =>
      rw [he] at z
      have z : u ≤ v := of_decide_eq_true z
      obtain ⟨o, ho2, x, ex, es⟩ := erl_some he
      refine naM_trans (erl_le ho2) ?_
      rw [ord_shift, ex]
      show decide (x + d + o.2 ≤ v + d) = true
      exact decide_eq_true (by omega)
theorem ord_least {p r : Pl} {n : Nat} (hp : p.length = n) (hr : r.length = n) (e : Nat) : ord (leastM p r) e = if e < n then lo [ord p e, ord r e] else none := by
  unfold leastM ord
  rw [List.getD_eq_getElem?_getD, List.getD_eq_getElem?_getD, List.getD_eq_getElem?_getD, List.getElem?_map]
  by_cases h : e < n
  · have h2 : (p.zip r)[e]? = some (p[e], r[e]) := by
      rw [List.getElem?_zip_eq_some]
      exact ⟨List.getElem?_eq_getElem _, List.getElem?_eq_getElem _⟩
    rw [h2, if_pos h, List.getElem?_eq_getElem (by omega), List.getElem?_eq_getElem (by omega)]
    rfl
  · have h2 : (p.zip r)[e]? = none := by
      rw [List.getElem?_eq_none_iff, List.length_zip]
      omega
    rw [h2, if_neg h]
    rfl
theorem keeps_least {s : Sys} {p r : Pl} {n : Nat} (hp : p.length = n) (hr : r.length = n) (hw : ∀ w ∈ s.2, w.1 < n) (h1 : keepsM s p = true) (h2 : keepsM s r = true) : keepsM s (leastM p r) = true := List.all_eq_true.mpr fun w hwm => by
  have l1 : Le2 (leastM p r) p := fun e => by
    rw [ord_least hp hr]
    by_cases h : e < n
    · rw [if_pos h]
      exact lo_le List.mem_cons_self
    · rw [if_neg h, ord_out (r := p) (by omega)]
      rfl
  have l2 : Le2 (leastM p r) r := fun e => by
    rw [ord_least hp hr]
    by_cases h : e < n
    · rw [if_pos h]
      exact lo_le (List.mem_cons_of_mem _ List.mem_cons_self)
    · rw [if_neg h, ord_out (r := r) (by omega)]
      rfl
  unfold kw
  rw [ord_least hp hr, if_pos (hw w hwm)]
  refine lo_ge fun x hx => ?_
  rcases List.mem_cons.mp hx with rfl | hx
  · exact naM_trans (erl_mono l1 _) (keeps_at h1 hwm)
  · rw [List.mem_singleton.mp hx]
    exact naM_trans (erl_mono l2 _) (keeps_at h2 hwm)
def negs (p : Pl) : List Int := p.filterMap fun o => match o with
  | some i => if i < 0 then some i else none
  | none => none
theorem zeros_le {n : Nat} {p : Pl} (hp : p.length = n) (h : negs p = []) : Le2 (zeros n) p := fun e => by
  by_cases he : e < n
  · have e1 : ord (zeros n) e = some 0 := by
      unfold zeros ord
      rw [List.getD_eq_getElem?_getD, List.getElem?_replicate, if_pos he]
      rfl
    rw [e1]
    cases ho : ord p e with
    | none => rfl
    | some v =>
      refine decide_eq_true ?_
      unfold ord at ho
      rw [List.getD_eq_getElem?_getD] at ho
      cases q : p[e]? with
      | none => rw [q] at ho; cases ho
      | some o =>
        rw [q] at ho
        have ho : o = some v := ho
        have hm := List.mem_of_getElem? q
        unfold negs at h
        rw [List.filterMap_eq_nil_iff] at h
        have z := h o hm
        rw [ho] at z
        by_cases hv : v < 0
        · have z : (if v < 0 then some v else none) = none := z
          rw [if_pos hv] at z
          cases z
        · omega
  · rw [ord_out (r := p) (by omega)]
    cases ord (zeros n) e <;> rfl
mutual
theorem gd_mono : ∀ {k n m : Nat} {d : D}, Vq.Gd k n d → n ≤ m → Vq.Gd k m d
  | _, _, m, _, .non k n, _ => .non k m
  | _, _, m, _, .bl k n b, _ => .bl k m b
  | _, _, m, _, .int k n h, _ => .int k m h
  | _, _, m, _, .tup h, l => .tup (gdA_mono h l)
  | _, _, m, _, .lst h, l => .lst (gdA_mono h l)
theorem gdA_mono : ∀ {k n m : Nat} {d : List D}, Vq.GdA k n d → n ≤ m → Vq.GdA k m d
  | _, _, m, _, .nil k n, _ => .nil k m
  | k, _, m, _, .cons (n := a) (m := b) h t, l => by
    have z := Vq.GdA.cons h (gdA_mono (m := m - (a + 1)) t (by omega))
    have e : a + 1 + (m - (a + 1)) = m := by omega
    rw [e] at z
    exact z
end
theorem gd_opt {n : Nat} (hn : n ≤ 1000) {o : Opt} (h : o.1 < n ∧ Dv o.2) : Vq.Gd 1 2 (optD o) := by
  have h1 := h.1
  have h2 : o.2.natAbs ≤ 1000 := h.2
  have h3 : (1000 : Nat) ≤ 2 ^ 64 := by decide
  exact .tup (.cons (n := 0) (.int 0 0 (small_lt (nat_small (by omega)))) (.cons (n := 0) (.int 0 0 (small_lt (Nat.le_trans h2 h3))) (.nil 0 0)))
theorem gd_wait {n : Nat} (hn : n ≤ 1000) {w : Wt} (h : WtV n w) : Vq.Gd 3 62 (waitD w) := by
  obtain ⟨h1, h2, h3⟩ := h
  have e : Vq.Gd 2 60 (.tuple (w.2.map optD)) := .tup (gdA_mono (gdA_map fun o ho => gd_opt hn (h3 o ho)) (by omega))
  exact .tup (.cons (n := 0) (.int 2 0 (small_lt (nat_small (by omega)))) (.cons e (.nil 2 0)))
theorem gd_sys {s : Sys} (h : SysV s) : Vq.Gd 5 15752 (sysD s) := by
  have hn := h.ev
  have hm := h.many
  have e : Vq.Gd 4 15750 (.tuple (s.2.map waitD)) := .tup (gdA_mono (gdA_map fun w hw => gd_wait (by omega) (h.ok w hw)) (by omega))
  exact .tup (.cons (n := 0) (.int 4 0 (small_lt (nat_small (by omega)))) (.cons e (.nil 4 0)))
/-- where law begins: the bag alone is known -/
theorem lawRW {K : PySem.W.Frag} {g r : Addr} {H : Hp} {σ : L2.St} {δ : List Sl} {ro : HO} (B : BagAt g r H) (hr : H r = some ro) (ng : r ≠ g) (hl : δ.length = σ.length)
    (hδ : ∀ (i : Nat) (s : Sl), δ[i]? = some s → s = .un ∨ (s = .w .bag ∧ σ[i]? = some (some (.ref g)))) : RW K ⟨H, fun b => if b = r then H r else none, some g, r, []⟩ (fun b => if b = r then H r else none) H σ δ := by
  have cold : ∀ i, ¬ hotAt δ i := fun i ⟨s, e, hs⟩ => by
    rcases hδ i s e with rfl | ⟨rfl, _⟩ <;> cases hs
  refine ⟨Le.refl _, fun b o h => .inl h, fun b o h => ?_, Le.refl _, fun a ha => ?_, hl, fun i s e => ?_, fun i j a hi _ _ _ => absurd hi (cold i), fun q hq => by cases hq⟩
  · by_cases hb : b = r
    · rw [if_pos hb] at h
      refine nb_of (fun z => ?_) (by rw [hb]; exact h)
      cases z
      exact ng hb.symm
    · rw [if_neg hb] at h
      cases h
  · cases ha
    exact ⟨B, ro, by rw [if_pos rfl]; exact hr⟩
  · rcases hδ i s e with rfl | ⟨rfl, h⟩
    · exact trivial
    · exact ⟨g, rfl, h⟩
theorem lawBag {g r : Addr} {H : Hp} (B : BagAt g r H) : ∃ o, H r = some o ∧ r ≠ g := by
  obtain ⟨b0, b1, b2, cs, h1, h2, h3, _⟩ := B.ex
  exact ⟨_, h2, h3⟩
theorem shown_same {x : Str} {α β : Prop} (h : β) : (if (!decide (x = x)) = true then α else β) := by
  rw [decide_eq_true rfl, if_neg (by decide)]
  exact h
theorem filterMap_none {α β : Type} : ∀ l : List α, l.filterMap (fun _ => (none : Option β)) = []
  | [] => rfl
  | x :: l => by
    rw [List.filterMap_cons]
    exact filterMap_none l
end Zl
end
section
set_option maxHeartbeats 1000000
namespace Zl
open PySem PySem.Spec PyProof.Rows L2
theorem ixl {X : Cx} (K : PySem.W.Frag) (h : X.K = K) : IxR X (rIxL K) := h ▸ ix_list
theorem pt_bool {X : Cx} {e : Expr} {t : TT} (h : PW X e t) : PT X e t := h.pt
/-! ### the bag of drawn numbers: what its two defs want -/
abbrev Same1 (H H' : Hp) : Prop := ∀ b o, H b = some o → H' b = some o
def Stay (g : Addr) (H H' : Hp) : Prop := ∀ b o, H b = some o → b ≠ g → H' b = some o
section
variable {g p a d : Addr} {H H' H1 H2 : Hp} {o : HO} {K : PySem.W.Frag}
theorem Stay.refl (g : Addr) (H : Hp) : Stay g H H := fun _ _ e _ => e
theorem Stay.trans (s : Stay g H H1) (t : Stay g H1 H2) : Stay g H H2 := fun b o e n => t b o (s b o e n) n
theorem Stay.of (s : Same1 H H1) : Stay g H H1 := fun b o e _ => s b o e
theorem Stay.at : Stay g H (upd H g o) := fun b u e n => by rw [upd_ne n]; exact e
theorem same1_new (h : H p = none) : Same1 H (upd H p o) := fun b x e => by rw [upd_ne (ne_of_none e h)]; exact e
theorem same1_mut (s : Same1 H H') (n : H d = none) : Same1 H (upd H' d o) := fun b x e => by
  rw [upd_ne (ne_of_none e n)]
  exact s b x e
theorem same1_free (s : Same1 H H1) (h : H1 a = none) : H a = none := by
  cases q : H a with
  | none => rfl
  | some u => rw [s a u q] at h; cases h
theorem mapI1 {l : List Int} {i : Nat} {x : V} (h : (l.map V.int)[i]? = some x) : ∃ y, l[i]? = some y ∧ x = .int y := by
  rw [List.getElem?_map] at h
  cases e : l[i]? with
  | none => rw [e] at h; cases h
  | some y => rw [e] at h; cases h; exact ⟨y, rfl, rfl⟩
theorem small51 {n : Nat} (h : n ≤ 5000) : n < sizeLine := by rw [sizeLine_eq]; omega
theorem cut_map (l : List Int) (lo hi : Option Int) : ∃ m : List Int, cutV (l.map V.int) lo hi = m.map V.int ∧ (∀ c ∈ m, c ∈ l) ∧ m.length ≤ l.length := by
  have hl := cutV_length (l.map V.int) lo hi
  unfold cutV at hl ⊢
  refine ⟨(l.drop (HT.sIx (l.map V.int).length 0 lo)).take (HT.sIx (l.map V.int).length (l.map V.int).length hi - HT.sIx (l.map V.int).length 0 lo), by rw [List.map_take, List.map_drop], fun c h => List.mem_of_mem_drop (List.mem_of_mem_take h), ?_⟩
  rw [← List.map_drop, ← List.map_take, List.length_map] at hl
  simpa only [List.length_map] using hl
end
def sp_bag (K : PySem.W.Frag) : Sp := fun vs H Q _ => ∃ (a : Addr) (ns : List Int), vs = [.ref a] ∧ SqL K H a (ns.map V.int) ∧ ns.length ≤ 63 ∧ ∀ g r H', (∀ b o, H b = some o → H' b = some o) → H g = none → BagAt g r H' → Q (.ref g) H'
def sp_take0 : Sp := fun vs H Q _ => ∃ (g r : Addr) (m : Int), vs = [.ref g, .int m] ∧ BagAt g r H ∧ 0 < m ∧ m < 2 ^ 20 ∧ ∀ (j : Int) (H' : Hp), 0 ≤ j → j < m → Stay g H H' → BagAt g r H' → Q (.int j) H'
theorem take_zcal {P : Program} {w : World} {K : PySem.W.Frag} {mg : Str → Option Value} {base : Heap} {k : Nat} {x : Str} (c : C8.Cal P w K mg base k x sp_take0 []) : ZCal P w K mg base k x sp_l_take :=
  zcal_of_cal c fun vs H Q E h => by
    obtain ⟨g, r, B, ws, q, h1, h2, h3, ⟨m, rfl, m0, m1, hq⟩, post⟩ := h
    cases h3 with
    | cons r1 h3 =>
      cases h3 with
      | cons r2 h3 =>
        cases h3
        obtain ⟨a, rfl, rfl⟩ := r1
        have r3 : RV K B _ (.int m) := r2
        cases r3
        obtain ⟨hb, o, ho⟩ := h2 a rfl
        refine ⟨a, r, m, rfl, hb, m0, m1, fun j H' j0 j1 st bk => ?_⟩
        have lf : Le (nb (some a) H) (nb (some a) H') := fun b u e => by
          obtain ⟨e1, e2⟩ := nb_some e
          exact nb_of e1 (st b u e2 fun z => e1 (by rw [z]))
        exact post B H' (.int j) (.d (.int j)) (Le.refl _) (fun b u e => .inl e) (h1.trans lf) lf (fun a' ha => by cases ha; exact ⟨bk, o, ho⟩) (RV.int j) (hq j j0 j1)
end Zl
end
section
set_option maxHeartbeats 1000000
namespace Zl
open PySem PySem.Spec PyProof.Rows L2
/-! ### an integer in a list or tuple of integers -/
theorem inV_ints (i : Int) : ∀ ns : List Int, inV (.int i) (ns.map V.int) = decide (i ∈ ns)
  | [] => rfl
  | n :: ns => by
    have h := inV_ints i ns
    unfold inV at h ⊢
    rw [List.map_cons, List.any_cons, h]
    by_cases e : n = i
    · subst e
      simp [eqV]
    · have e2 : ¬ i = n := fun z => e z.symm
      simp [eqV, e, e2]
theorem flat_ints (ns : List Int) : (ns.map V.int).all flatV = true := by
  rw [List.all_eq_true]
  intro x hx
  obtain ⟨n, _, rfl⟩ := List.mem_map.mp hx
  rfl
def rInL (neg : Bool) : W → W → (W → Prop) → Prop := fun x y q => match x, seqW y with
  | .d (.int i), some xs => (match intsD xs with
    | some ns => q (.d (.bool (neg ^^ decide (i ∈ ns))))
    | none => False)
  | _, _ => False
theorem rInL_ok {K : PySem.W.Frag} {neg : Bool} : Bi2 K (rInL neg) (rIn K neg) := fun P Hc H σ δ v u w x q Q R rv ru hr post => by
  unfold rInL at hr
  split at hr
  · rename_i i xs e1
    split at hr
    · rename_i ns e2
      obtain ⟨a, vs, rfl, h1, h2, _⟩ := ru.seq R e1
      have e3 := h2.ints e2
      subst e3
      refine ⟨a, _, rfl, h1, by rw [rv.int]; rfl, flat_ints ns, ?_⟩
      rw [rv.int, inV_ints]
      have z := post.at R (w := .d (.bool _)) (RV.bl _) hr
      cases neg <;> simpa using z
    · exact hr.elim
  · exact hr.elim
section
variable {X : Cx} {a b : Expr} {ta tb : TP} {pos : Pos}
theorem z_inL (ha : ZE X a ta) (hb : ZE X b tb) (hm : behindInMarks .In b = false) : ZE X (.Compare a [.In] [b] pos) (bZ ta tb (rInL false)) := z_cmpR op_in_seq rInL_ok ha hb hm
theorem z_notInL (ha : ZE X a ta) (hb : ZE X b tb) (hm : behindInMarks .NotIn b = false) : ZE X (.Compare a [.NotIn] [b] pos) (bZ ta tb (rInL true)) := z_cmpR op_notIn_seq rInL_ok ha hb hm
theorem zt_inL (ha : ZE X a ta) (hb : ZE X b tb) (hm : behindInMarks .In b = false) : ZT X (.Compare a [.In] [b] pos) (tbZ (bZ ta tb (rInL false))) := zt_cmpR op_in_seq rInL_ok ha hb hm
theorem zt_notInL (ha : ZE X a ta) (hb : ZE X b tb) (hm : behindInMarks .NotIn b = false) : ZT X (.Compare a [.NotIn] [b] pos) (tbZ (bZ ta tb (rInL true))) := zt_cmpR op_notIn_seq rInL_ok ha hb hm
end
/-- a comprehension of some of the items, as it is drawn -/
theorem zComp_sub {β : Type} (enc dec : β → D) {g : TGz} {tt : TPt} {te : TP} {q : W → Prop} {δ : List Sl} : ∀ (xs : List β) (acc : List β),
    (∀ x ∈ xs, ∀ (k : D → Prop) (k0 : Prop), k (dec x) → k0 → g (.d (enc x)) δ fun δ1 => tt δ1 fun b => if b = true then te δ1 fun w => (match w with
      | .d y => k y
      | _ => False) else k0) → (∀ ys, ys.Sublist xs → q (.new ((acc ++ ys).map dec))) → zComp g tt te q δ (xs.map enc) (acc.map dec)
  | [], acc, _, h => by
    have z := h [] .slnil
    rw [List.append_nil] at z
    exact z
  | x :: xs, acc, st, h => by
    refine st x List.mem_cons_self (fun y => zComp g tt te q δ (xs.map enc) (acc.map dec ++ [y])) _ ?_ ?_
    · have z := zComp_sub enc dec xs (acc ++ [x]) (fun z hz => st z (List.mem_cons_of_mem _ hz)) fun ys hy => by
        have z := h (x :: ys) (.cons₂ x hy)
        rw [List.append_cons] at z
        exact z
      rw [List.map_append] at z
      exact z
    · exact zComp_sub enc dec xs acc (fun z hz => st z (List.mem_cons_of_mem _ hz)) fun ys hy => h ys (.cons x hy)
end Zl
end
section
set_option maxHeartbeats 2000000
set_option exponentiation.threshold 20000
namespace Zl
open PySem PySem.Spec PyProof.Rows L2
section
variable {P : Program} {w : World} {K : PySem.W.Frag} {mg : Str → Option Value} {base : Heap}
theorem ok_l_bag (M : Mgz mg) (Dd : Vq.D1 K mg "_law_bag" s_l_bag ["_law_script"]) : C8.Cal P w K mg base (1) "_law_bag" (sp_bag K) [] := by
  refine Vq.cal_of Dd sc_l_bag (fun vs H Q E h => ?_) fun f cdv A outer s H vs Q E hr h => ?_
  · obtain ⟨a, ns, rfl, _⟩ := h
    rfl
  · obtain ⟨a, ns, rfl, hS, hlen, q⟩ := h
    refine ⟨_, (pss_one (ps_ret (pe_lst (pa_cons pe_int (pa_cons pe_int (pa_cons pe_int (pa_cons (pe_lc (own := [("_law_cell", 1)]) rfl sc_l_bag.nd (pi_list (pe_slice sl_list (pv 0) po_none (po_some pe_int))) (blkOk_by (own := [("_law_cell", 1)]) (N := n_l_bag) (sc := defScope s_l_bag) (by decide +kernel)) (fun _ _ _ _ _ => (pg_name (i := 1) sc_l_bag.nd rfl (.inl rfl))) (fun _ _ _ _ _ => pts_nil) (fun _ _ _ _ _ => (pe_callB call_abs (by rfl) M.abs (by decide +kernel) (pa_cons (pv 1) pa_nil)))) pa_nil))))))), ?_⟩
    obtain ⟨m, em, hm, hml⟩ := cut_map ns none (some 63)
    refine ⟨_, rfl, _, rfl, a, _, rfl, hS, fun p np => ?_⟩
    rw [em]
    refine ⟨p, rfl, ⟨_, SqL.of upd_same⟩, fun L nL => ?_⟩
    have nLp : p ≠ L := fun e => by rw [← e, upd_same] at nL; cases nL
    have s1 : Same1 H (upd H p (.lst (m.map V.int))) := same1_new np
    refine lc_list (K := K) (a := p) (xs := m.map V.int) (fun i H' => ∃ cs : List Int, Same1 (upd H p (.lst (m.map V.int))) H' ∧ H' L = some (.lst (cs.map V.int)) ∧ (∀ c ∈ cs, 0 ≤ c) ∧ cs.length ≤ i)
      ⟨[], same1_new nL, upd_same, (fun c h => by cases h), Nat.le_refl _⟩ (fun i H' _ ⟨_, sm, _⟩ => SqL.of (sm _ _ upd_same)) (fun i x H' hi ⟨cs, sm, hL, h0, hz⟩ => ?_) fun H' ⟨cs, sm, hL, h0, hz⟩ => ?_
    · obtain ⟨y, hy, rfl⟩ := mapI1 hi
      have hil : i < m.length := (List.getElem?_eq_some_iff.mp hy).1
      refine ⟨rfl, _, rfl, y, rfl, cs.map V.int, hL, by rw [List.length_map]; exact small51 (by omega), cs ++ [if y < 0 then -y else y], same1_mut sm nL, by rw [upd_same, List.map_append]; rfl, fun c h => ?_, by rw [List.length_append]; show cs.length + 1 ≤ i + 1; omega⟩
      rcases List.mem_append.mp h with h | h
      · exact h0 c h
      · rw [List.mem_singleton.mp h]
        split <;> omega
    · rw [List.length_map] at hz
      refine ⟨by show 4 ≤ sizeLine; decide, fun g ng => ?_⟩
      have nLg : L ≠ g := ne_of_none hL ng
      have s2 : Same1 H H' := fun b o e => sm b o (s1 b o e)
      have ng0 : H g = none := same1_free s2 ng
      have s3 : Same1 H (upd H' g (.lst [.int 0, .int 1234567891, .int 0, .ref L])) := fun b o e => same1_new ng b o (s2 b o e)
      exact q g L _ s3 ng0 ⟨0, 1234567891, 0, cs, upd_same, by rw [upd_ne nLg]; exact hL, nLg, by decide, by decide, by decide, h0, by omega⟩
theorem ok_take0 (M : Mgz mg) (Dd : Vq.D1 K mg "_law_take" s_l_take ["_law_bag_here", "_law_many"]) : C8.Cal P w K mg base (1) "_law_take" sp_take0 [] := by
  refine Vq.cal_of Dd sc_l_take (fun vs H Q E h => ?_) fun f cdv A outer s H vs Q E hr h => ?_
  · obtain ⟨g, r, m, rfl, _⟩ := h
    rfl
  · obtain ⟨g, r, m, rfl, B, m0, m1, q⟩ := h
    obtain ⟨b0, b1, b2, cs, hg, hcs, nrg, p0, p1, p2, pc, lc⟩ := B.ex
    refine ⟨_, (C8.pss_cut (ps_if (pt_cmpR op_eq (pe_ix (ixl K rfl) (pv 0) pe_int (fun _ _ => rfl)) pe_int (nomark _)) (pss_cons (ps_set (i := 2) sc_l_take.nd rfl (.inl rfl) (pe_ix (ixl K rfl) (pe_op op_cat (pe_slice sl_list (pe_ix (ixl K rfl) (pv 0) pe_int (fun _ _ => rfl)) (po_some (pe_ix (ixl K rfl) (pv 0) pe_int (fun _ _ => rfl))) po_none) (pe_lst (pa_cons pe_int pa_nil))) pe_int (fun _ _ => rfl)))
      (pss_cons (ps_augS (pv 0) pe_int get_lst pe_int ip_add set_list)
      (C8.pss_cut (ps_if (pt_cmpR op_ge (pv 2) (pe_op op_pow pe_int pe_int) (nomark _)) (pss_one (ps_asg (pv 2) (pg_sub (pv 0) pe_int set_list))) pss_nil)
      (pss_cons (ps_set (i := 3) sc_l_take.nd rfl (.inl rfl) (pe_op op_add (pe_op op_add (pe_op op_mul (pe_ix (ixl K rfl) (pv 0) pe_int (fun _ _ => rfl)) pe_int) (pe_op op_mod (pe_callTy call_int1 (by rfl) M.int (by decide +kernel) (pa_cons (pv 2) pa_nil)) pe_int)) (pe_op op_mul pe_int (pe_ix (ixl K rfl) (pv 0) pe_int (fun _ _ => rfl)))))
      (pss_one (ps_asg (pe_op op_mod (pe_callTy call_int1 (by rfl) M.int (by decide +kernel) (pa_cons (pv 3) pa_nil)) pe_int) (pg_sub (pv 0) pe_int set_list))))))) pss_nil)
      (C8.pss_cut (ps_if (pt_cmpR op_gt (pe_ix (ixl K rfl) (pv 0) pe_int (fun _ _ => rfl)) pe_int (nomark _)) (pss_cons (ps_set (i := 4) sc_l_take.nd rfl (.inl rfl) (pe_op op_mod (pe_callTy call_int1 (by rfl) M.int (by decide +kernel) (pa_cons (pe_ix (ixl K rfl) (pv 0) pe_int (fun _ _ => rfl)) pa_nil)) (pv 1)))
      (pss_cons (ps_asg (pe_op op_fdiv (pe_callTy call_int1 (by rfl) M.int (by decide +kernel) (pa_cons (pe_ix (ixl K rfl) (pv 0) pe_int (fun _ _ => rfl)) pa_nil)) (pv 1)) (pg_sub (pv 0) pe_int set_list))
      (pss_one (ps_ret (pv 4))))) pss_nil)
      (pss_cons (ps_set (i := 5) sc_l_take.nd rfl (.inl rfl) (pe_op op_mod (pe_callTy call_int1 (by rfl) M.int (by decide +kernel) (pa_cons (pe_op op_mul (pe_op op_add (pe_ix (ixl K rfl) (pv 0) pe_int (fun _ _ => rfl)) pe_int) pe_int) pa_nil)) pe_int))
      (pss_cons (ps_set (i := 6) sc_l_take.nd rfl (.inl rfl) (pe_op op_mod (pe_callTy call_int1 (by rfl) M.int (by decide +kernel) (pa_cons (pe_op op_mul (pe_op op_mod (pe_callTy call_int1 (by rfl) M.int (by decide +kernel) (pa_cons (pe_op op_mul (pv 5) (pv 5)) pa_nil)) pe_int) pe_int) pa_nil)) pe_int))
      (pss_one (ps_ret (pe_op op_mod (pe_callTy call_int1 (by rfl) M.int (by decide +kernel) (pa_cons (pe_op op_fdiv (pv 6) pe_int) pa_nil)) (pv 1)))))))), ?_⟩
    refine ⟨fun σ' H' => (∃ y2 y3 y4 y5 y6, σ' = [some (.ref g), some (.int m), y2, y3, y4, y5, y6]) ∧ Stay g H H' ∧ BagAt g r H', ?_, ?_⟩
    · refine ⟨_, rfl, _, _, _, _, rfl, rfl, SqL.of hg, rfl, rfl, _, rfl, ?_⟩
      refine ite2 (fun _ => ?_) (fun _ => ?_)
      · obtain ⟨m2, em, hm2, lm2⟩ := cut_map cs (some b2) none
        refine ⟨_, rfl, _, _, _, _, rfl, rfl, SqL.of hg, rfl, _, rfl, _, _, _, _, rfl, rfl, SqL.of hg, rfl, _, rfl, r, _, rfl, SqL.of hcs, fun p np => ?_⟩
        rw [em]
        refine ⟨by show 1 ≤ sizeLine; decide, fun p' np' => ?_⟩
        have npp : p ≠ p' := fun e => by rw [← e, upd_same] at np'; cases np'
        refine ⟨p, p', _, _, rfl, rfl, by rw [upd_ne npp, upd_same], upd_same, ?_, fun p3 np3 => ?_⟩
        · rw [List.length_map, sizeLine_eq]
          show m2.length + 1 ≤ _
          omega
        obtain ⟨c, c0, ec⟩ : ∃ c : Int, 0 ≤ c ∧ (m2.map V.int ++ [V.int 0])[0]? = some (.int c) := by
          cases m2 with
          | nil => exact ⟨0, by decide, rfl⟩
          | cons y ys => exact ⟨y, pc y (hm2 y List.mem_cons_self), rfl⟩
        refine ⟨_, _, _, _, rfl, rfl, SqL.of upd_same, atI_nat (i := 0) ec, ?_⟩
        have s3 : Same1 H (upd (upd (upd H p (.lst (m2.map V.int))) p' (.lst [.int 0])) p3 (.lst (m2.map V.int ++ [V.int 0]))) := fun b o e => same1_new np3 b o (same1_new np' b o (same1_new np b o e))
        generalize upd (upd (upd H p (.lst (m2.map V.int))) p' (.lst [.int 0])) p3 (.lst (m2.map V.int ++ [V.int 0])) = H3 at s3 ⊢
        have hg3 : H3 g = some (.lst [.int b0, .int b1, .int b2, .ref r]) := s3 _ _ hg
        have hr3 : H3 r = some (.lst (cs.map V.int)) := s3 _ _ hcs
        refine ⟨_, rfl, _, _, _, _, rfl, rfl, SqL.of hg3, rfl, _, _, rfl, rfl, g, _, 2, 2, rfl, rfl, hg3, rfl, ?_⟩
        refine ⟨fun σ' H' => ∃ x0, 0 ≤ x0 ∧ σ' = [some (.ref g), some (.int m), some (.int c), none, none, none, none] ∧ H' = upd H3 g (.lst [.int x0, .int b1, .int (b2 + 1), .ref r]), ?_, ?_⟩
        · refine ⟨_, rfl, 10, 18, rfl, rfl, ⟨by decide, by decide, by decide⟩, _, _, rfl, rfl, _, rfl, ite2 (fun _ => ?_) (fun _ => ?_)⟩
          · refine ⟨_, rfl, _, rfl, g, _, 0, 0, rfl, rfl, upd_same, rfl, c, c0, rfl, ?_⟩
            rw [upd_upd]
            rfl
          · exact ⟨b0, p0, rfl, rfl⟩
        · rintro σ' H' ⟨x0, px0, rfl, rfl⟩
          refine ⟨_, rfl, _, _, _, _, rfl, rfl, SqL.of upd_same, rfl, b1, 48271, rfl, rfl, .inr ⟨by decide, by decide⟩, _, rfl, .inl ⟨c, rfl, c, 2147483647, rfl, rfl, by show (0 : Int) < 2147483647; decide, _, _, rfl, rfl, _, rfl, _, _, _, _, rfl, rfl, SqL.of upd_same, rfl, 7919, b2 + 1, rfl, rfl, .inl ⟨by decide, by decide⟩, _, _, rfl, rfl, ?_⟩⟩
          refine ⟨_, rfl, .inl ⟨_, rfl, _, 2147483647, rfl, rfl, by show (0 : Int) < 2147483647; decide, _, rfl, g, _, 1, 1, rfl, rfl, upd_same, rfl, ?_⟩⟩
          rw [upd_upd]
          refine ⟨⟨_, _, _, _, _, rfl⟩, (Stay.of s3).trans .at, x0, _, b2 + 1, cs, upd_same, by rw [upd_ne nrg]; exact hr3, nrg, px0, Int.emod_nonneg _ (by decide), by omega, pc, lc⟩
      · exact ⟨⟨_, _, _, _, _, rfl⟩, .refl _ _, B⟩
    · rintro σ' H' ⟨⟨y2, y3, y4, y5, y6, rfl⟩, st, B'⟩
      obtain ⟨b0, b1, b2, cs, hg, hcs, nrg, p0, p1, p2, pc, lc⟩ := B'.ex
      have e0 := Int.emod_nonneg b0 (show m ≠ 0 by omega)
      have e1 := Int.emod_lt_of_pos b0 m0
      refine ⟨fun σ2 H2 => σ2 = [some (.ref g), some (.int m), y2, y3, y4, y5, y6] ∧ H2 = H', ?_, ?_⟩
      · refine ⟨_, rfl, _, _, _, _, rfl, rfl, SqL.of hg, rfl, _, _, rfl, rfl, _, rfl, ite2 (fun _ => ?_) (fun _ => ⟨rfl, rfl⟩)⟩
        refine ⟨_, rfl, _, _, _, _, rfl, rfl, SqL.of hg, rfl, .inl ⟨b0, rfl, _, rfl, b0, m, rfl, rfl, m0, ?_⟩⟩
        refine ⟨_, rfl, _, _, _, _, rfl, rfl, SqL.of hg, rfl, .inl ⟨b0, rfl, _, rfl, b0, m, rfl, rfl, ⟨m0, by omega⟩, _, rfl, g, _, 0, 0, rfl, rfl, hg, rfl, ?_⟩⟩
        refine ⟨_, rfl, q _ _ e0 e1 (st.trans .at) ?_⟩
        refine ⟨b0 / m, b1, b2, cs, upd_same, by rw [upd_ne nrg]; exact hcs, nrg, Int.ediv_nonneg p0 (by omega), p1, p2, pc, lc⟩
      · rintro σ2 H2 ⟨rfl, rfl⟩
        refine ⟨_, rfl, _, _, _, _, rfl, rfl, SqL.of hg, rfl, _, _, rfl, rfl, _, 39373, rfl, rfl, .inr ⟨by decide, by decide⟩, .inl ⟨_, rfl, _, 1000000007, rfl, rfl, by show (0 : Int) < 1000000007; decide, ?_⟩⟩
        have z1 := Int.emod_nonneg ((b1 + 1) * 39373) (show (1000000007 : Int) ≠ 0 by decide)
        have z2 := Int.emod_lt_of_pos ((b1 + 1) * 39373) (show (0 : Int) < 1000000007 by decide)
        refine ⟨_, rfl, _, rfl, _, _, rfl, rfl, .inl ⟨by omega, by omega⟩, .inl ⟨_, rfl, _, 998244353, rfl, rfl, by show (0 : Int) < 998244353; decide, _, 30011, rfl, rfl, .inr ⟨by decide, by decide⟩, .inl ⟨_, rfl, _, 998244353, rfl, rfl, by show (0 : Int) < 998244353; decide, ?_⟩⟩⟩
        refine ⟨_, rfl, _, 7, rfl, rfl, ⟨by decide, by decide⟩, .inl ⟨_, rfl, _, rfl, _, m, rfl, rfl, m0, ?_⟩⟩
        exact q _ _ (Int.emod_nonneg _ (by omega)) (Int.emod_lt_of_pos _ m0) st B'
theorem ok_l_take (M : Mgz mg) (Dd : Vq.D1 K mg "_law_take" s_l_take ["_law_bag_here", "_law_many"]) : ZCal P w K mg base (1) "_law_take" sp_l_take := take_zcal (ok_take0 M Dd)
end
end Zl
end
section
set_option maxHeartbeats 1000000
namespace Zl
open PySem PySem.Spec PyProof.Rows L2
/-- floors -/
def flP (is : List Int) : Pl := is.map some
theorem flP_d (is : List Int) : (flP is).map ordD = is.map PyData.int := by
  unfold flP
  rw [List.map_map]
  rfl
theorem flP_len (is : List Int) : (flP is).length = is.length := List.length_map _
theorem ord_flP (is : List Int) (e : Nat) : ord (flP is) e = is[e]? := by
  unfold ord flP
  rw [List.getD_eq_getElem?_getD, List.getElem?_map]
  cases is[e]? <;> rfl
theorem plD_flP (is : List Int) : plD true (flP is) = .tuple (is.map PyData.int) := by
  show PyData.tuple _ = _
  rw [flP_d]
def FlB (n k : Nat) (is : List Int) : Prop := is.length = n ∧ ∀ i ∈ is, i.natAbs ≤ k
theorem FlB.mono {n j k : Nat} {is : List Int} (h : FlB n j is) (l : j ≤ k) : FlB n k is := ⟨h.1, fun i hi => Nat.le_trans (h.2 i hi) l⟩
theorem zeros_flP (n : Nat) : zeros n = flP (List.replicate n 0) := by
  unfold zeros flP
  rw [List.map_replicate]
def nons (n : Nat) (p : Pl) : List Nat := (List.range n).filter fun i => (ord p i).isNone
theorem nons_eq (n : Nat) (p : Pl) : (List.range n).filterMap (fun i => if (ord p i).isNone = true then some (PyData.int (i : Nat)) else none) = (nons n p).map fun (i : Nat) => PyData.int i := by
  unfold nons
  rw [← List.filterMap_eq_map, List.filterMap_filter]
  congr 1
section
variable {P : Program} {w : World} {K : PySem.W.Frag} {mg : Str → Option Value} {base : Heap}
def sp_l_plan_from : Spz := fun ws q => ∃ (s : Sys) (is : List Int), ws = [.d (sysD s), .d (plD true (flP is))] ∧ SysV s ∧ FlB s.1 2000 is ∧ ∀ p : Pl, LF s (flP is) p → PlB 12000 p → q (.d (plD true p))
def sp_l_floors : Spz := fun ws q => ∃ n : Nat, ws = [.bag, .d (.int n)] ∧ n ≤ 1000 ∧ ∀ is, FlB n 200 is → q (.d (plD true (flP is)))
def sp_l_far_floors : Spz := fun ws q => ∃ n : Nat, ws = [.bag, .d (.int n)] ∧ n ≤ 1000 ∧ ∀ is, FlB n 600 is → q (.d (plD true (flP is)))
def sp_l_barred : Spz := fun ws q => ∃ s : Sys, ws = [.d (sysD s)] ∧ SysV s ∧ ∀ p, LP s p → q (.d (natsD (nons s.1 p)))
theorem ok_l_barred (M : Mgz mg) (Dd : Vq.D1 K mg "_law_barred" s_l_barred ["_law_system"]) (c_l_least_plan : ZCal P w K mg base 6 "_law_least_plan" sp_l_least_plan) : ZCal P w K mg base 7 "_law_barred" sp_l_barred := by
  refine zcal false Dd sc_l_barred (fun ws q h => ?_) fun f cdv A outer s H E hG hr => ⟨_, (zb_cons (zs_set (i := 1) sc_l_barred.nd rfl (.inr rfl) (z_call hG c_l_least_plan hr (by decide) rfl (za_cons (zv 0) za_nil)))
      (zb_one (zs_ret (z_lci (own := [("_law_event", 2)]) rfl sc_l_barred.nd (zi_range1 rfl M.range (za_cons (z_ix (zv 0) zint) za_nil)) (blkOk_by (own := [("_law_event", 2)]) (N := n_l_barred) (sc := defScope s_l_barred) (by first | decide +kernel | kernel_rfl | rfl)) (fun _ _ _ _ _ => (pg_name (i := 2) sc_l_barred.nd rfl (.inl rfl))) (gr_name (by decide)) (fun _ _ _ _ _ => (zt_isN (z_ix (zv 1) (zv 2)) znon (nomark _))) (fun _ _ _ _ _ => (zv 2)))))), fun ws Q0 h => ?_⟩
  · obtain ⟨s, rfl, _⟩ := h
    rfl
  · obtain ⟨s, rfl, hs, q⟩ := h
    have hn := hs.ev
    refine ⟨s, rfl, hs, fun p hp hb => ?_⟩
    have hq := q p hp
    refine ⟨⟨by omega, by omega⟩, ?_⟩
    show zComp _ _ _ _ _ (rngD 0 s.1) []
    rw [rngD0]
    refine zComp_fm (fun (i : Nat) => PyData.int (i : Nat)) (fun i => if (ord p i).isNone = true then some (PyData.int (i : Nat)) else none) (List.range s.1) [] (fun i hi k k0 h1 h2 => ?_) ?_
    · have hi2 : i < p.length := by rw [hp.len]; exact List.mem_range.mp hi
      show (match L2.atI (List.map ordD p) ((i : Nat) : Int) with
        | some d => _
        | none => False)
      rw [ord_at hi2]
      cases ho : ord p i with
      | none => exact h1 _ (by rw [ho]; rfl)
      | some v => exact h2 (by rw [ho]; rfl)
    · rw [List.nil_append, nons_eq]
      exact hq
end
end Zl
end
section
set_option maxHeartbeats 1000000
namespace Zl
open PySem PySem.Spec PyProof.Rows L2
section
variable {P : Program} {w : World} {K : PySem.W.Frag} {mg : Str → Option Value} {base : Heap}
def sp_l_some_t : Spz := fun ws q => ∃ xs : List D, ws = [.bag, .d (.tuple xs)] ∧ 0 < xs.length ∧ xs.length < 2 ^ 20 ∧ ∀ x ∈ xs, q (.d x)
theorem ok_l_some_t (M : Mgz mg) (Dd : Vq.D1 K mg "_law_some" s_l_some ["_law_bag_here", "_law_things"]) (c_l_take : ZCal P w K mg base 1 "_law_take" sp_l_take) : ZCal P w K mg base 2 "_law_some" sp_l_some_t := by
  refine zcal false Dd sc_l_some (fun ws q h => ?_) fun f cdv A outer s H E hG hr => ⟨_, (zb_one (zs_ret (z_ix (zv 1) (z_call hG c_l_take hr (by decide) rfl (za_cons (zv 0) (za_cons (z_b b_len (by rfl) M.len (by decide +kernel) (za_cons (zv 1) za_nil)) za_nil)))))), fun ws Q0 h => ?_⟩
  · obtain ⟨xs, rfl, _⟩ := h
    rfl
  · obtain ⟨xs, rfl, h1, h2, q⟩ := h
    refine ⟨(xs.length : Nat), rfl, by omega, by omega, fun j j1 j2 => ?_⟩
    obtain ⟨i, rfl⟩ := Int.eq_ofNat_of_zero_le j1
    have hi : i < xs.length := by omega
    show (match L2.atI xs (i : Int) with
      | some d => _
      | none => False)
    rw [atI_nat (List.getElem?_eq_getElem hi)]
    exact q _ (List.getElem_mem hi)
end
/-! ### waits left out, put in -/
def wout (s : Sys) (ks : List Nat) : Sys := (s.1, s.2.zipIdx.filterMap fun x => if x.2 ∈ ks then none else some x.1)
theorem nats_int (ls : List Nat) (i : Nat) : decide ((i : Int) ∈ ls.map fun (j : Nat) => (j : Int)) = decide (i ∈ ls) := by
  refine decide_eq_decide.mpr ⟨fun h => ?_, fun h => List.mem_map.mpr ⟨i, h, rfl⟩⟩
  obtain ⟨j, hj, e⟩ := List.mem_map.mp h
  have e : j = i := by omega
  rw [← e]
  exact hj
theorem nats_d (ls : List Nat) : (ls.map fun (j : Nat) => PyData.int (j : Nat)) = (ls.map fun (j : Nat) => (j : Int)).map PyData.int := by
  rw [List.map_map]
  rfl
theorem wout_sub (s : Sys) (ks : List Nat) : ∀ w ∈ (wout s ks).2, w ∈ s.2 := fun w hw => by
  obtain ⟨x, hx, e⟩ := List.mem_filterMap.mp hw
  by_cases c : x.2 ∈ ks
  · rw [if_pos c] at e; cases e
  · rw [if_neg c] at e
    cases e
    exact List.fst_mem_of_mem_zipIdx hx
theorem wout_len (s : Sys) (ks : List Nat) : (wout s ks).2.length ≤ s.2.length := by
  have := List.length_filterMap_le (fun x : Wt × Nat => if x.2 ∈ ks then none else some x.1) s.2.zipIdx
  rw [List.length_zipIdx] at this
  exact this
theorem wout_in {s : Sys} (h : SysIn s) (ks : List Nat) : SysIn (wout s ks) := ⟨h.ev, Nat.le_trans (wout_len s ks) h.many, fun w hw => h.ok w (wout_sub s ks w hw)⟩
theorem wout_v {s : Sys} (h : SysV s) (ks : List Nat) : SysV (wout s ks) := ⟨h.ev, Nat.le_trans (wout_len s ks) h.many, fun w hw => h.ok w (wout_sub s ks w hw)⟩
theorem wout_one (s : Sys) (k : Nat) : wout s [k] = (s.1, s.2.eraseIdx k) := by
  have key : ∀ (l : List Wt) (n k : Nat), (l.zipIdx n).filterMap (fun x => if x.2 ∈ [n + k] then none else some x.1) = l.eraseIdx k := by
    intro l
    induction l with
    | nil => intro n k; rfl
    | cons a l ih =>
      intro n k
      rw [List.zipIdx_cons]
      cases k with
      | zero =>
        rw [List.filterMap_cons_none (by simp)]
        have e : (l.zipIdx (n + 1)).filterMap (fun x => if x.2 ∈ [n + 0] then none else some x.1) = (l.zipIdx (n + 1)).filterMap (fun x => some x.1) := fm_congr fun x hx => by
          rw [if_neg]
          rw [List.mem_singleton]
          have := List.snd_lt_of_mem_zipIdx hx
          have h2 := List.le_snd_of_mem_zipIdx hx
          omega
        rw [e]
        show _ = l
        have e2 := List.filterMap_eq_map (f := fun x : Wt × Nat => x.1)
        rw [show (fun x : Wt × Nat => some x.1) = some ∘ (fun x : Wt × Nat => x.1) from rfl, List.filterMap_eq_map]
        exact List.zipIdx_map_fst (n + 1) l
      | succ k =>
        rw [List.filterMap_cons_some (b := a) (by rw [if_neg]; rw [List.mem_singleton]; show ¬ n = n + (k + 1); omega)]
        show a :: _ = a :: l.eraseIdx k
        rw [← ih (n + 1) k]
        congr 1
        refine fm_congr fun x _ => ?_
        rw [show n + 1 + k = n + (k + 1) by omega]
  unfold wout
  have z := key s.2 0 k
  rw [Nat.zero_add] at z
  rw [z]
section
variable {P : Program} {w : World} {K : PySem.W.Frag} {mg : Str → Option Value} {base : Heap}
def natsT (ls : List Nat) : D := .tuple (ls.map fun (i : Nat) => PyData.int (i : Nat))
def sp_without_waits : Spz := fun ws q => ∃ (s : Sys) (ks : List Nat), ws = [.d (sysD s), .d (natsT ks)] ∧ q (.d (sysD (wout s ks)))
end
end Zl
end
section
set_option maxHeartbeats 1000000
set_option exponentiation.threshold 3000
namespace Zl
open PySem PySem.Spec PyProof.Rows L2
theorem gd_pl {b : Nat} {p : Pl} (h : PlB b p) (hb : b ≤ 100000) (k : Nat) : Vq.Gd (k + 1) ((0 + 1) * p.length) (plD true p) := .tup (gdA_map fun o ho => gd_ord k 0 fun i hi => by
  have := h o ho i hi
  have h2 : (100000 : Nat) ≤ 2 ^ 64 := by decide
  omega)
theorem zip_le {p r : Pl} (h : Le2 p r) {y : Ord × Ord} (hy : y ∈ p.zip r) : naM y.1 y.2 = true := by
  obtain ⟨i, hi, rfl⟩ := List.mem_iff_getElem.mp hy
  have z := h i
  rw [List.length_zip] at hi
  have h1 : i < p.length := by omega
  have h2 : i < r.length := by omega
  unfold ord at z
  rw [List.getD_eq_getElem?_getD, List.getD_eq_getElem?_getD, List.getElem?_eq_getElem h1, List.getElem?_eq_getElem h2] at z
  rw [List.getElem_zip]
  exact z
theorem lo_pair (a b : Ord) : lo [a, b] = if naM a b = true then a else b := by
  have h := (lo_cons b [a]).2
  have h1 : lo [a] = a := by cases a <;> rfl
  rw [h1] at h
  exact h
def belM (p r : Pl) : Bool := (p.zip r).all fun x => naM x.1 x.2
theorem belM_of {p r : Pl} (h : Le2 p r) : belM p r = true := List.all_eq_true.mpr fun x hx => zip_le h hx
theorem bel_nil (p r : Pl) : ((p.zip r).filterMap fun x => if naM x.1 x.2 = true then none else some (PyData.int 1)).isEmpty = belM p r := by
  unfold belM
  induction p.zip r with
  | nil => rfl
  | cons x l ih =>
    rw [List.all_cons]
    by_cases e : naM x.1 x.2 = true
    · rw [List.filterMap_cons_none (by rw [if_pos e]), ih, e, Bool.true_and]
    · rw [List.filterMap_cons_some (by rw [if_neg e])]
      rw [Bool.eq_false_iff.mpr e, Bool.false_and]
      rfl
theorem later_back (o : Ord) (d : Int) : laterM (laterM o d) (-d) = o := by
  cases o with
  | none => rfl
  | some v =>
    show some (v + d + -d) = some v
    rw [Int.add_neg_cancel_right]
theorem shift_len (p : Pl) (d : Int) : (shiftM p d).length = p.length := List.length_map _
theorem LF.shift {s : Sys} {fl p : Pl} (h : LF s fl p) (d : Int) : LF s (shiftM fl d) (shiftM p d) := by
  refine ⟨(shift_len p d).trans h.len, keeps_shift h.keeps d, fun e => ?_, fun q hq hk hf e => ?_⟩
  · rw [ord_shift, ord_shift]
    exact later_mono d (h.low e)
  · have z := h.least (shiftM q (-d)) ((shift_len q _).trans hq) (keeps_shift hk _) fun e => by
      have y := later_mono (-d) (hf e)
      rw [ord_shift, later_back] at y
      rw [ord_shift]
      exact y
    have y := later_mono d (z e)
    rw [ord_shift] at y ⊢
    have e2 := later_back (ord q e) (-d)
    rw [Int.neg_neg] at e2
    rw [e2] at y
    exact y
theorem flP_shift (is : List Int) (d : Int) : shiftM (flP is) d = flP (is.map fun f => f + d) := by
  unfold shiftM flP
  rw [List.map_map, List.map_map]
  rfl
theorem shift_d (p : Pl) (d : Int) : plD true (shiftM p d) = .tuple (p.map fun o => ordD (laterM o d)) := by
  show PyData.tuple ((shiftM p d).map ordD) = _
  unfold shiftM
  rw [List.map_map]
  rfl
/-- one floor raised -/
def raise1 (d : Int) (ev : Nat) (x : Int × Nat) : Int := x.1 + d * (if decide ((x.2 : Int) = (ev : Int)) = true then 1 else 0)
def raised (d : Int) (ev : Nat) (is : List Int) : List Int := is.zipIdx.map (raise1 d ev)
theorem raised_d (d : Int) (ev : Nat) (is : List Int) : is.zipIdx.map (fun x => PyData.int (raise1 d ev x)) = (flP (raised d ev is)).map ordD := by
  rw [flP_d]
  unfold raised
  rw [List.map_map]
  rfl
theorem raised_len (d : Int) (ev : Nat) (is : List Int) : (raised d ev is).length = is.length := by
  unfold raised
  rw [List.length_map, List.length_zipIdx]
theorem raise1_b {d : Int} (h : 0 ≤ d) (ev : Nat) (x : Int × Nat) : x.1 ≤ raise1 d ev x ∧ raise1 d ev x ≤ x.1 + d := by
  unfold raise1
  by_cases c : (x.2 : Int) = (ev : Int)
  · rw [decide_eq_true c, if_pos rfl, Int.mul_one]
    omega
  · rw [decide_eq_false c, if_neg (by decide), Int.mul_zero]
    omega
theorem raised_at (d : Int) (ev : Nat) (is : List Int) (e : Nat) : (raised d ev is)[e]? = is[e]?.map fun f => raise1 d ev (f, e) := by
  unfold raised
  rw [List.getElem?_map, List.getElem?_zipIdx]
  cases is[e]? with
  | none => rfl
  | some f =>
    show some (raise1 d ev (f, 0 + e)) = _
    rw [Nat.zero_add]
    rfl
theorem raised_low {d : Int} (h : 0 ≤ d) (ev : Nat) (is : List Int) : Le2 (flP is) (flP (raised d ev is)) ∧ Le2 (flP (raised d ev is)) (shiftM (flP is) d) := by
  refine ⟨fun e => ?_, fun e => ?_⟩
  · rw [ord_flP, ord_flP, raised_at]
    cases is[e]? with
    | none => rfl
    | some f => exact decide_eq_true (raise1_b h ev (f, e)).1
  · rw [ord_shift, ord_flP, ord_flP, raised_at]
    cases is[e]? with
    | none => rfl
    | some f => exact decide_eq_true (raise1_b h ev (f, e)).2
theorem eqv_ords : ∀ {p r : Pl}, PyData.eqvAll (p.map ordD) (r.map ordD) = true → p = r
  | [], [], _ => rfl
  | [], u :: r, h => by simp [PyData.eqvAll] at h
  | o :: p, [], h => by simp [PyData.eqvAll] at h
  | o :: p, u :: r, h => by
    simp only [List.map_cons, PyData.eqvAll, Bool.and_eq_true] at h
    obtain ⟨h1, h2⟩ := h
    rw [eqv_ords h2]
    cases o <;> cases u <;> simp [PyData.eqv, ordD] at h1
    · rfl
    · rw [h1]
theorem eqv_pl {p r : Pl} (h : PyData.eqv (plD true p) (plD true r) = true) : p = r := by
  have h : PyData.eqv (.tuple (p.map ordD)) (.tuple (r.map ordD)) = true := h
  simp only [PyData.eqv] at h
  exact eqv_ords h
/-- orders below floors -/
def undB (x : Ord × Ord) : Bool := match x.1, x.2 with
  | some v, some f => decide (v < f)
  | _, _ => false
theorem und_low {is : List Int} {p : Pl} (hl : p.length = is.length) (h : ((p.zip (flP is)).filterMap fun x => if undB x = true then some (PyData.int 1) else none).isEmpty = true) : Le2 (flP is) p := fun e => by
  rw [List.isEmpty_iff, List.filterMap_eq_nil_iff] at h
  by_cases he : e < p.length
  · have h2 : e < (flP is).length := by rw [flP_len]; omega
    have z := h (p[e], (flP is)[e]) (by
      rw [List.mem_iff_getElem]
      exact ⟨e, by rw [List.length_zip]; omega, List.getElem_zip⟩)
    have e1 : ord p e = p[e] := by unfold ord; rw [List.getD_eq_getElem?_getD, List.getElem?_eq_getElem he]; rfl
    have e2 : ord (flP is) e = (flP is)[e] := by unfold ord; rw [List.getD_eq_getElem?_getD, List.getElem?_eq_getElem h2]; rfl
    rw [← e1, ← e2] at z
    rw [ord_flP, List.getElem?_eq_getElem (show e < is.length by omega)] at z ⊢
    cases ho : ord p e with
    | none => rfl
    | some v =>
      rw [ho] at z
      by_cases c : v < is[e]
      · rw [if_pos (show undB (some v, some is[e]) = true from decide_eq_true c)] at z
        cases z
      · exact decide_eq_true (by omega)
  · rw [ord_out (r := p) (by omega)]
    cases ord (flP is) e <;> rfl
theorem lf_b {s : Sys} {is : List Int} {p : Pl} (hs : SysV s) (hf : FlB s.1 2000 is) (h : LF s (flP is) p) : PlB 12000 p := by
  have hn := hs.ev
  obtain ⟨r, hr, hb⟩ := lf_ex hs.sysIn (fl := flP is) ((flP_len is).trans hf.1)
  cases h.uniq hr
  have hb2 := hb 2000 1000 (fun e i h => by
    rw [ord_flP] at h
    have := hf.2 i (List.mem_of_getElem? h)
    omega) (by decide) fun w hw o ho => by
      have : o.2.natAbs ≤ 1000 := ((hs.ok w hw).2.2 o ho).2
      omega
  refine PlB.of_at fun e v hv => ?_
  have h1 := hb2 e v hv
  obtain ⟨f, h2, h3⟩ := low_at hr.low hv
  rw [ord_flP] at h2
  have := hf.2 f (List.mem_of_getElem? h2)
  omega
theorem shift_b {p : Pl} {b : Nat} (h : PlB b p) {d : Int} (hd : d.natAbs ≤ 100) : PlB (b + 100) (shiftM p d) := fun o ho i hi => by
  obtain ⟨o2, ho2, rfl⟩ := List.mem_map.mp ho
  cases o2 with
  | none => cases hi
  | some v =>
    have hi : some (v + d) = some i := hi
    cases hi
    have := h _ ho2 v rfl
    omega
theorem least_b {p r : Pl} {b : Nat} (h : PlB b p) (g : PlB b r) : PlB b (leastM p r) := fun o ho i hi => by
  obtain ⟨x, hx, rfl⟩ := List.mem_map.mp ho
  rw [lo_pair] at hi
  by_cases c : naM x.1 x.2 = true
  · rw [if_pos c] at hi
    exact h _ (List.of_mem_zip hx).1 i hi
  · rw [if_neg c] at hi
    exact g _ (List.of_mem_zip hx).2 i hi
theorem least_d (p r : Pl) : (p.zip r).map (fun x => ordD (if naM x.1 x.2 = true then x.1 else x.2)) = (leastM p r).map ordD := by
  unfold leastM
  rw [List.map_map]
  refine List.map_congr_left fun x _ => ?_
  show _ = ordD (lo [x.1, x.2])
  rw [lo_pair]
end Zl
end
section
set_option maxHeartbeats 1000000
namespace Zl
open PySem PySem.Spec PyProof.Rows L2
/-! ### the least plan, as one -/
open Classical in
noncomputable def lfp (s : Sys) (fl : Pl) : Pl := if h : ∃ p, LF s fl p then Classical.choose h else []
theorem lfp_eq {s : Sys} {fl p : Pl} (h : LF s fl p) : p = lfp s fl := by
  have hex : ∃ p, LF s fl p := ⟨p, h⟩
  have e : lfp s fl = Classical.choose hex := dif_pos hex
  rw [e]
  exact h.uniq (Classical.choose_spec hex)
theorem lfp_lf {s : Sys} {fl : Pl} (hs : SysIn s) (hf : fl.length = s.1) : LF s fl (lfp s fl) := by
  obtain ⟨p, hp, _⟩ := lf_ex hs hf
  rw [← lfp_eq hp]
  exact hp
theorem eqv_pl_dec (p r : Pl) : PyData.eqv (plD true p) (plD true r) = decide (p = r) := by
  by_cases c : p = r
  · subst c
    rw [decide_eq_true rfl]
    exact (sh_pl true p).refl
  · rw [decide_eq_false c]
    cases e : PyData.eqv (plD true p) (plD true r) with
    | false => rfl
    | true => exact absurd (eqv_pl e) c
/-! ### clipped delays -/
def clip (d : Int) : Int := if (if d < 12 then d else 12) > -12 then (if d < 12 then d else 12) else -12
theorem clip_b (d : Int) : (clip d).natAbs ≤ 12 := by
  unfold clip
  split <;> split <;> omega
def tameM (s : Sys) : Sys := (s.1, s.2.map fun w => (w.1, w.2.map fun o => (o.1, clip o.2)))
theorem tame_v {s : Sys} (h : SysV s) : SysV (tameM s) := by
  refine ⟨h.ev, by unfold tameM; rw [List.length_map]; exact h.many, fun w hw => ?_⟩
  obtain ⟨v, hv, rfl⟩ := List.mem_map.mp hw
  obtain ⟨h1, h2, h3⟩ := h.ok v hv
  refine ⟨h1, by show (v.2.map _).length ≤ 20; rw [List.length_map]; exact h2, fun o ho => ?_⟩
  obtain ⟨u, hu, rfl⟩ := List.mem_map.mp ho
  exact ⟨(h3 u hu).1, Nat.le_trans (clip_b _) (by decide)⟩
section
variable {P : Program} {w : World} {K : PySem.W.Frag} {mg : Str → Option Value} {base : Heap}
def sp_l_tame : Spz := fun ws q => ∃ (s : Sys), ws = [.d (sysD s)] ∧ q (.d (sysD (tameM s)))
theorem cut_from (xs : List D) (j : Nat) : cutD xs (some (j : Int)) none = xs.drop j := by
  unfold cutD
  rw [HT.sIx_none, HT.sIx_nat]
  by_cases h : j ≤ xs.length
  · rw [Nat.min_eq_left h, List.take_of_length_le (by rw [List.length_drop]; exact Nat.le_refl _)]
  · rw [Nat.min_eq_right (by omega), List.drop_of_length_le (Nat.le_refl _), List.drop_of_length_le (by omega), List.take_nil]
def sp_l_without : Spz := fun ws q => ∃ (s : Sys) (k : Nat), ws = [.d (sysD s), .d (.int k)] ∧ s.2.length ≤ 1000 ∧ q (.d (sysD (wout s [k])))
end
end Zl
end
section
set_option maxHeartbeats 1000000
namespace Zl
open PySem PySem.Spec PyProof.Rows L2
theorem rep0 (n : Nat) : PyData.tuple (List.replicate n [PyData.int 0]).flatten = plD true (flP (List.replicate n 0)) := by
  rw [plD_flP, List.flatten_replicate_singleton, List.map_replicate]
theorem repN (n : Nat) : PyData.tuple (List.replicate n [PyData.none]).flatten = plD true (List.replicate n none) := by
  show _ = PyData.tuple ((List.replicate n none).map ordD)
  rw [List.flatten_replicate_singleton, List.map_replicate]
  rfl
theorem fl_zeros (n k : Nat) : FlB n k (List.replicate n 0) := ⟨List.length_replicate, fun i hi => by rw [List.eq_of_mem_replicate hi]; exact Nat.zero_le k⟩
end Zl
end
section
set_option maxHeartbeats 1000000
namespace Zl
open PySem PySem.Spec PyProof.Rows L2
theorem room65 {k : Nat} {A : Around} (r : Room k A) : A.units + 65 < cLine := by have := r.un; omega
/-- data in a list of data -/
def rInDz (neg : Bool) : W → W → (W → Prop) → Prop := fun x y q => match datW x, datW y with
  | some d, some (.list ds) => Shp d ∧ Shp (.list ds) ∧ q (.d (.bool (neg ^^ ds.any fun z => PyData.eqv z d)))
  | _, _ => False
theorem rInDz_inv {neg : Bool} {x y : W} {q : W → Prop} (h : rInDz neg x y q) : ∃ d ds, datW x = some d ∧ datW y = some (.list ds) ∧ Shp d ∧ Shp (.list ds) ∧ q (.d (.bool (neg ^^ ds.any fun z => PyData.eqv z d))) := by
  unfold rInDz at h
  split at h
  · exact ⟨_, _, by assumption, by assumption, h⟩
  · exact h.elim
section
variable {X : Cx} {a b : Expr} {ta tb : TP} {pos : Pos}
theorem z_inD (hu : X.A.units + 65 < cLine) (ha : ZE X a ta) (hb : ZE X b tb) (hm : behindInMarks .In b = false) : ZE X (.Compare a [.In] [b] pos) (bZ ta tb (rInDz false)) := z_cmpR (op_inD hu) (fun P Hc H σ δ v u w x q Q R rv ru hr post => by
  obtain ⟨d, ds, h1, h2, s1, s2, hq⟩ := rInDz_inv hr
  exact ⟨d, ds, (rv.dat R h1).dp s1.1, (ru.dat R h2).dp s2.1, s1.2, s2.2, post.at R (w := .d (.bool _)) (RV.bl _) (by simpa using hq)⟩) ha hb hm
theorem zt_inD (hu : X.A.units + 65 < cLine) (ha : ZE X a ta) (hb : ZE X b tb) (hm : behindInMarks .In b = false) : ZT X (.Compare a [.In] [b] pos) (tbZ (bZ ta tb (rInDz false))) := zt_cmpR (op_inD hu) (fun P Hc H σ δ v u w x q Q R rv ru hr post => by
  obtain ⟨d, ds, h1, h2, s1, s2, hq⟩ := rInDz_inv hr
  exact ⟨d, ds, (rv.dat R h1).dp s1.1, (ru.dat R h2).dp s2.1, s1.2, s2.2, post.at R (w := .d (.bool _)) (RV.bl _) (by simpa using hq)⟩) ha hb hm
end
end Zl
end
section
set_option maxHeartbeats 1000000
namespace Zl
open PySem PySem.Spec PyProof.Rows L2
theorem nons_zip (p : Pl) : (p.zipIdx.filterMap fun (x : Ord × Nat) => if x.1.isNone = true then some (PyData.int (x.2 : Nat)) else none) = (nons p.length p).map fun (i : Nat) => PyData.int i := by
  rw [← nons_eq, ← zipIdx_snd, List.filterMap_map]
  refine fm_congr fun x hx => ?_
  have e : p[x.2]? = some x.1 := List.mk_mem_zipIdx_iff_getElem?.mp hx
  have e2 : ord p x.2 = x.1 := by
    unfold ord
    rw [List.getD_eq_getElem?_getD, e]
    rfl
  show _ = (if (ord p x.2).isNone = true then some (PyData.int (x.2 : Nat)) else none)
  rw [e2]
noncomputable def lp (s : Sys) : Pl := lfp s (zeros s.1)
theorem lp_eq {s : Sys} {p : Pl} (h : LP s p) : p = lp s := lfp_eq h
theorem zeros_len (n : Nat) : (zeros n).length = n := List.length_replicate
theorem lp_lf {s : Sys} (hs : SysIn s) : LP s (lp s) := lfp_lf hs (zeros_len s.1)
theorem lp_len {s : Sys} (hs : SysIn s) : (lp s).length = s.1 := (lp_lf hs).len
def wadd (s : Sys) (ws : List Wt) : Sys := (s.1, s.2 ++ ws)
section
variable {P : Program} {w : World} {K : PySem.W.Frag} {mg : Str → Option Value} {base : Heap}
def sp_barred_events : Spz := fun ws q => ∃ (s : Sys), ws = [.d (sysD s)] ∧ SysIn s ∧ q (.d (natsT (nons s.1 (lp s))))
theorem ok_barred_events (M : Mgz mg) (Dd : Vq.D1 K mg "barred_events" s_barred_events ["system"]) (c_least_plan : ZCal P w K mg base 5 "least_plan" sp_least_plan) : ZCal P w K mg base 6 "barred_events" sp_barred_events := by
  refine zcal false Dd sc_barred_events (fun ws q h => ?_) fun f cdv A outer s H E hG hr => ⟨_, (zb_one (zs_ret (z_ty t_tuple (by rfl) M.tuple (by decide +kernel) (za_cons (zfz (z_lci (own := [("event", 1), ("order", 2)]) rfl sc_barred_events.nd (zi_enumT rfl M.enumerate (za_cons (z_call hG c_least_plan hr (by decide) rfl (za_cons (zv 0) za_nil)) za_nil)) (blkOk_by (own := [("event", 1), ("order", 2)]) (N := n_barred_events) (sc := defScope s_barred_events) (by first | decide +kernel | kernel_rfl | rfl)) (fun _ _ _ _ _ => (pg_tupK K rfl (n := 2) rfl (pgs_cons (pg_name (i := 1) sc_barred_events.nd rfl (.inl rfl)) (pgs_cons (pg_name (i := 2) sc_barred_events.nd rfl (.inl rfl)) pgs_nil)))) (gr_tup (n := 2) (gr_cons (gr_name (by decide)) (gr_cons (gr_name (by decide)) gr_nil))) (fun _ _ _ _ _ => (zt_isN (zv 2) znon (nomark _))) (fun _ _ _ _ _ => (zv 1)))) za_nil)))), fun ws Q0 h => ?_⟩
  · obtain ⟨s, rfl, _⟩ := h
    rfl
  · obtain ⟨s, rfl, hs, q⟩ := h
    refine ⟨s, rfl, hs, fun p hp => ?_⟩
    have hl := hp.len
    rw [lp_eq hp] at hl ⊢
    show zComp _ _ _ _ _ (enumD ((lp s).map ordD)) []
    rw [enumD_map]
    refine zComp_fm (fun (y : Ord × Nat) => .tuple [.int (y.2 : Nat), ordD y.1]) (fun (x : Ord × Nat) => if x.1.isNone = true then some (PyData.int (x.2 : Nat)) else none) (lp s).zipIdx [] (fun y hy k k0 h1 h2 => ?_) ?_
    · obtain ⟨o, i⟩ := y
      cases o with
      | none => exact h1 _ rfl
      | some v => exact h2 rfl
    · rw [List.nil_append, nons_zip, hl]
      exact q
def sp_together : Spz := fun ws q => ∃ (s : Sys) (ls : List Nat), ws = [.d (sysD s), .d (natsT ls)] ∧ SysIn s ∧ (∀ e ∈ ls, e < s.1) ∧ q (.d (.bool (ls.all fun e => (ord (lp s) e).isSome)))
def sp_with_waits : Spz := fun ws q => ∃ (s : Sys) (wl : List Wt), ws = [.d (sysD s), .d (.tuple (wl.map waitD))] ∧ s.2.length ≤ 1000 ∧ wl.length ≤ 1000 ∧ q (.d (sysD (wadd s wl)))
end
end Zl
end
section
set_option maxHeartbeats 1000000
namespace Zl
open PySem PySem.Spec PyProof.Rows L2
/-! ### waits that follow -/
/-- a drawn system of small delays -/
structure SysU (s : Sys) : Prop where
  v : SysV s
  many : s.2.length ≤ 150
  dl : ∀ w ∈ s.2, ∀ o ∈ w.2, o.2.natAbs ≤ 600
/-- a wait of such a system -/
structure WtU (n : Nat) (w : Wt) : Prop where
  ev : w.1 < n
  many : w.2.length ≤ 20
  ok : ∀ o ∈ w.2, o.1 < n ∧ o.2.natAbs ≤ 600
theorem SysU.wt {s : Sys} (h : SysU s) {w : Wt} (hw : w ∈ s.2) : WtU s.1 w := ⟨(h.v.ok w hw).1, (h.v.ok w hw).2.1, fun o ho => ⟨((h.v.ok w hw).2.2 o ho).1, h.dl w hw o ho⟩⟩
theorem SysU.mk' {n : Nat} {ws : List Wt} (hn : n ≤ 10) (hm : ws.length ≤ 150) (h : ∀ w ∈ ws, WtU n w) : SysU (n, ws) :=
  ⟨⟨hn, by show ws.length ≤ 250; omega, fun w hw => ⟨(h w hw).ev, (h w hw).many, fun o ho => ⟨((h w hw).ok o ho).1, Nat.le_trans ((h w hw).ok o ho).2 (by decide)⟩⟩⟩, hm, fun w hw o ho => ((h w hw).ok o ho).2⟩
theorem WtU.ok2 {n : Nat} {w : Wt} (h : WtU n w) : WtOk n w := ⟨h.ev, fun o ho => (h.ok o ho).1⟩
def conS (s : Sys) (w : Wt) : Sys := wadd s (w.2.map fun o => (o.1, [(w.1, 1 - o.2)]))
theorem con_v {s : Sys} {w : Wt} (hs : SysU s) (hw : WtU s.1 w) : SysV (conS s w) := by
  have h1 := hs.many
  have h2 := hw.many
  refine ⟨hs.v.ev, ?_, fun v hv => ?_⟩
  · show (s.2 ++ w.2.map _).length ≤ 250
    rw [List.length_append, List.length_map]
    omega
  · rcases List.mem_append.mp hv with z | z
    · exact hs.v.ok v z
    · obtain ⟨o, ho, rfl⟩ := List.mem_map.mp z
      have h3 := hw.ok o ho
      refine ⟨h3.1, by show 1 ≤ 20; decide, fun u hu => ?_⟩
      rw [List.mem_singleton.mp hu]
      refine ⟨hw.ev, ?_⟩
      show (1 - o.2).natAbs ≤ 1000
      omega
theorem kw_con (p : Pl) (e : Nat) (o : Opt) : kw p (o.1, [(e, 1 - o.2)]) = naM (laterM (ord p e) (1 - o.2)) (ord p o.1) := by
  unfold kw erl
  have h1 : ∀ a : Ord, lo [a] = a := fun a => by cases a <;> rfl
  show naM (lo [laterM (ord p e) (1 - o.2)]) (ord p o.1) = _
  rw [h1]
theorem con_keeps {s : Sys} {w : Wt} {p : Pl} : keepsM (conS s w) p = true ↔ keepsM s p = true ∧ ∀ o ∈ w.2, naM (laterM (ord p w.1) (1 - o.2)) (ord p o.1) = true := by
  constructor
  · intro h
    refine ⟨List.all_eq_true.mpr fun v hv => List.all_eq_true.mp h v (List.mem_append_left _ hv), fun o ho => ?_⟩
    rw [← kw_con]
    exact List.all_eq_true.mp h _ (List.mem_append_right _ (List.mem_map.mpr ⟨o, ho, rfl⟩))
  · rintro ⟨h1, h2⟩
    refine List.all_eq_true.mpr fun v hv => ?_
    rcases List.mem_append.mp hv with z | z
    · exact List.all_eq_true.mp h1 v z
    · obtain ⟨o, ho, rfl⟩ := List.mem_map.mp z
      rw [kw_con]
      exact h2 o ho
/-- a plan that keeps the contrary system, the event happening, does not keep the wait -/
theorem con_not {s : Sys} {w : Wt} {p : Pl} (h : keepsM (conS s w) p = true) {v : Int} (hv : ord p w.1 = some v) : kw p w = false := by
  obtain ⟨_, h2⟩ := con_keeps.mp h
  cases e : kw p w with
  | false => rfl
  | true =>
    unfold kw at e
    rw [hv] at e
    cases he : erl p w.2 with
    | none => rw [he] at e; cases e
    | some u =>
      rw [he] at e
      have e : u ≤ v := of_decide_eq_true e
      obtain ⟨o, ho, x, hx, es⟩ := erl_some he
      have z := h2 o ho
      rw [hv, hx] at z
      have z : v + (1 - o.2) ≤ x := of_decide_eq_true z
      omega
theorem con_of {s : Sys} {w : Wt} {p : Pl} (h : keepsM s p = true) (hk : kw p w = false) : keepsM (conS s w) p = true ∧ ∃ v, ord p w.1 = some v := by
  unfold kw at hk
  cases hv : ord p w.1 with
  | none => rw [hv] at hk; cases erl p w.2 <;> cases hk
  | some v =>
    rw [hv] at hk
    refine ⟨con_keeps.mpr ⟨h, fun o ho => ?_⟩, v, rfl⟩
    rw [hv]
    have z := erl_le (p := p) ho
    cases hx : ord p o.1 with
    | none => rfl
    | some x =>
      rw [hx] at z
      cases he : erl p w.2 with
      | none => rw [he] at z; cases z
      | some u =>
        rw [he] at z hk
        have z : u ≤ x + o.2 := of_decide_eq_true z
        have hk : ¬ u ≤ v := of_decide_eq_false hk
        show decide (v + (1 - o.2) ≤ x) = true
        exact decide_eq_true (by omega)
theorem lift (p : Pl) : ∃ t : Int, ∀ e v, ord p e = some v → 0 ≤ v + t := by
  obtain ⟨B, h0, h⟩ := bnd_list (fun o : Ord => -(valO o)) p
  refine ⟨B, fun e v hv => ?_⟩
  unfold ord at hv
  rw [List.getD_eq_getElem?_getD] at hv
  cases q : p[e]? with
  | none => rw [q] at hv; cases hv
  | some o =>
    rw [q] at hv
    have hv : o = some v := hv
    have z := h o (List.mem_of_getElem? q)
    rw [hv] at z
    have z : -v < B := z
    omega
/-- an event that is barred happens in no plan that keeps the system -/
theorem barred_none {s : Sys} (hs : SysIn s) {e : Nat} (h : ord (lp s) e = none) {p : Pl} (hl : p.length = s.1) (hk : keepsM s p = true) : ord p e = none := by
  obtain ⟨t, ht⟩ := lift p
  have z := (lp_lf hs).least (shiftM p t) ((shift_len p t).trans hl) (keeps_shift hk t) fun i => by
    rw [ord_shift]
    cases hv : ord p i with
    | none => cases ord (zeros s.1) i <;> rfl
    | some v =>
      have hi : i < s.1 := by
        by_cases c : i < s.1
        · exact c
        · rw [ord_out (r := p) (by omega)] at hv; cases hv
      have e1 : ord (zeros s.1) i = some 0 := by
        unfold zeros ord
        rw [List.getD_eq_getElem?_getD, List.getElem?_replicate, if_pos hi]
        rfl
      rw [e1]
      exact decide_eq_true (ht i v hv)
  have z := z e
  rw [h, ord_shift] at z
  cases hv : ord p e with
  | none => rfl
  | some v => rw [hv] at z; cases z
noncomputable def fol (s : Sys) (w : Wt) : Bool := (ord (lp (conS s w)) w.1).isNone
theorem fol_iff {s : Sys} {w : Wt} (hs : SysU s) (hw : WtU s.1 w) : fol s w = true ↔ ∀ p : Pl, p.length = s.1 → keepsM s p = true → kw p w = true := by
  have hv := (con_v hs hw).sysIn
  unfold fol
  constructor
  · intro h p hl hk
    cases e : kw p w with
    | true => rfl
    | false =>
      obtain ⟨c1, v, c2⟩ := con_of hk e
      have hn : ord (lp (conS s w)) w.1 = none := by
        cases q : ord (lp (conS s w)) w.1 with
        | none => rfl
        | some u => rw [q] at h; cases h
      have z := barred_none hv hn (p := p) hl c1
      rw [c2] at z
      cases z
  · intro h
    cases q : ord (lp (conS s w)) w.1 with
    | none => rfl
    | some v =>
      have l := lp_lf hv
      have z := h _ l.len (con_keeps.mp l.keeps).1
      rw [con_not l.keeps q] at z
      cases z
/-- it does not follow: a plan that shows it -/
theorem fol_false {s : Sys} {w : Wt} (hs : SysU s) (hw : WtU s.1 w) (h : fol s w = false) : ∃ v, ord (lp (conS s w)) w.1 = some v := by
  unfold fol at h
  cases q : ord (lp (conS s w)) w.1 with
  | none => rw [q] at h; cases h
  | some v => exact ⟨v, rfl⟩
/-- the same plans keep them -/
theorem same_lf {s t : Sys} (hn : s.1 = t.1) (h : ∀ p : Pl, p.length = s.1 → keepsM s p = keepsM t p) {fl p : Pl} (hp : LF s fl p) : LF t fl p :=
  ⟨hp.len.trans hn, by rw [← h p hp.len]; exact hp.keeps, hp.low, fun q hq hk hf => hp.least q (hq.trans hn.symm) (by rw [h q (hq.trans hn.symm)]; exact hk) hf⟩
theorem keeps_all {s t : Sys} (h : ∀ w ∈ t.2, fol s w = true) (hs : SysU s) (ht : ∀ w ∈ t.2, WtU s.1 w) {p : Pl} (hl : p.length = s.1) (hk : keepsM s p = true) : keepsM t p = true :=
  List.all_eq_true.mpr fun w hw => (fol_iff hs (ht w hw)).mp (h w hw) p hl hk
end Zl
end
section
set_option maxHeartbeats 1000000
namespace Zl
/-! ### weights of chosen waits, lowered round by round -/
abbrev OF := Nat → List Opt
def lowW (N : Int) (O : OF) (w : Nat → Int) (e : Nat) : Int := ((O e).map fun (o : Opt) => w o.1 + N * o.2 - 1).foldl min (w e)
def wIt (N : Int) (O : OF) : Nat → Nat → Int
  | 0 => fun _ => 0
  | k + 1 => lowW N O (wIt N O k)
def Cl (es : List Nat) (O : OF) : Prop := ∀ e ∈ es, ∀ o ∈ O e, o.1 ∈ es
section
variable {N : Int} {O : OF} {es : List Nat}
theorem low_spec (w : Nat → Int) (e : Nat) : lowW N O w e ≤ w e ∧ (∀ o ∈ O e, lowW N O w e ≤ w o.1 + N * o.2 - 1) ∧ (lowW N O w e = w e ∨ ∃ o ∈ O e, lowW N O w e = w o.1 + N * o.2 - 1) := by
  obtain ⟨h1, h2, h3⟩ := Vq.foldl_min_spec ((O e).map fun (o : Opt) => w o.1 + N * o.2 - 1) (w e)
  refine ⟨h2, fun o ho => h3 _ (List.mem_map.mpr ⟨o, ho, rfl⟩), ?_⟩
  rcases h1 with h1 | h1
  · exact .inl h1
  · obtain ⟨o, ho, e1⟩ := List.mem_map.mp h1
    exact .inr ⟨o, ho, e1.symm⟩
theorem low_congr (hc : Cl es O) {w v : Nat → Int} (h : ∀ e ∈ es, w e = v e) : ∀ e ∈ es, lowW N O w e = lowW N O v e := fun e he => by
  unfold lowW
  rw [h e he]
  congr 1
  exact List.map_congr_left fun o ho => by rw [h o.1 (hc e he o ho)]
theorem it_stay (hc : Cl es O) {k : Nat} (h : ∀ e ∈ es, wIt N O (k + 1) e = wIt N O k e) : ∀ j, ∀ e ∈ es, wIt N O (k + j) e = wIt N O k e
  | 0 => fun _ _ => rfl
  | j + 1 => fun e he => by
    show lowW N O (wIt N O (k + j)) e = _
    rw [low_congr hc (it_stay hc h j) e he]
    exact h e he
theorem it_le (k j e : Nat) : wIt N O (k + j) e ≤ wIt N O k e := by
  induction j with
  | zero => exact Int.le_refl _
  | succ j ih => exact Int.le_trans (low_spec (wIt N O (k + j)) e).1 ih
theorem it_le' {k j : Nat} (h : k ≤ j) (e : Nat) : wIt N O j e ≤ wIt N O k e := by
  obtain ⟨d, rfl⟩ := Nat.exists_eq_add_of_le h
  exact it_le k d e
def Pot (N : Int) (O : OF) (es : List Nat) (p : Nat → Int) : Prop := ∀ e ∈ es, ∀ o ∈ O e, p e ≤ p o.1 + N * o.2 - 1
theorem it_low (hc : Cl es O) {p : Nat → Int} (hp : Pot N O es p) {B : Int} (hB : ∀ e ∈ es, p e ≤ B) : ∀ k, ∀ e ∈ es, p e - B ≤ wIt N O k e
  | 0 => fun e he => by
    have := hB e he
    show p e - B ≤ 0
    omega
  | k + 1 => fun e he => by
    show _ ≤ lowW N O (wIt N O k) e
    rcases (low_spec (N := N) (O := O) (wIt N O k) e).2.2 with h | ⟨o, ho, h⟩
    · rw [h]; exact it_low hc hp hB k e he
    · rw [h]
      have h1 := it_low hc hp hB k o.1 (hc e he o ho)
      have h2 := hp e he o ho
      omega
theorem wsum_le {f g : Nat → Int} : ∀ l : List Nat, (∀ e ∈ l, f e ≤ g e) → (l.map f).sum ≤ (l.map g).sum
  | [], _ => Int.le_refl _
  | a :: l, h => by
    have h1 := h a List.mem_cons_self
    have h2 := wsum_le l fun e he => h e (List.mem_cons_of_mem _ he)
    simp only [List.map_cons, List.sum_cons]
    omega
theorem wsum_lt {f g : Nat → Int} : ∀ l : List Nat, (∀ e ∈ l, f e ≤ g e) → (∃ e ∈ l, f e ≠ g e) → (l.map f).sum < (l.map g).sum
  | [], _, ⟨e, he, _⟩ => by cases he
  | a :: l, h, ⟨e, he, hne⟩ => by
    have h1 := h a List.mem_cons_self
    have h3 := fun e he => h e (List.mem_cons_of_mem _ he)
    simp only [List.map_cons, List.sum_cons]
    rcases List.mem_cons.mp he with rfl | he
    · have h2 := wsum_le l h3
      omega
    · have h2 := wsum_lt l h3 ⟨e, he, hne⟩
      omega
theorem it_end (hc : Cl es O) {p : Nat → Int} (hp : Pot N O es p) : ∃ k, ∀ e ∈ es, wIt N O (k + 1) e = wIt N O k e := by
  refine Classical.byContradiction fun hn => ?_
  have hn : ∀ k, ∃ e ∈ es, wIt N O (k + 1) e ≠ wIt N O k e := fun k => Classical.byContradiction fun h => hn ⟨k, fun e he => Classical.byContradiction fun z => h ⟨e, he, z⟩⟩
  obtain ⟨B, _, hB⟩ := bnd_list p es
  have key : ∀ k : Nat, (es.map (wIt N O k)).sum ≤ (es.map (wIt N O 0)).sum - k := fun k => by
    induction k with
    | zero => simp
    | succ k ih =>
      have := wsum_lt es (fun e he => (low_spec (N := N) (O := O) (wIt N O k) e).1) (hn k)
      have e1 : (es.map (wIt N O (k + 1))).sum = (es.map (lowW N O (wIt N O k))).sum := rfl
      omega
  have h0 : ∀ k : Nat, (es.map fun e => p e - B).sum ≤ (es.map (wIt N O k)).sum := fun k => wsum_le es (it_low hc hp (fun e he => Int.le_of_lt (hB e he)) k)
  have h1 := key ((es.map (wIt N O 0)).sum - (es.map fun e => p e - B).sum + 1).toNat
  have h2 := h0 ((es.map (wIt N O 0)).sum - (es.map fun e => p e - B).sum + 1).toNat
  have h3 := h0 0
  omega
/-- as many rounds as there are events are enough -/
theorem it_stab (hc : Cl es O) {p : Nat → Int} (hp : Pot N O es p) : ∀ e ∈ es, wIt N O (es.length + 1) e = wIt N O es.length e := by
  obtain ⟨K, hK⟩ := it_end hc hp
  have st := it_stay hc hK
  have lim : ∀ k, ∀ e ∈ es, wIt N O K e ≤ wIt N O k e := fun k e he => by
    by_cases h : k ≤ K
    · exact it_le' h e
    · obtain ⟨d, rfl⟩ := Nat.exists_eq_add_of_le (show K ≤ k by omega)
      rw [st d e he]
      exact Int.le_refl _
  have fix : ∀ e ∈ es, ∀ o ∈ O e, wIt N O K e ≤ wIt N O K o.1 + N * o.2 - 1 := fun e he o ho => by
    rw [← hK e he]
    exact (low_spec (wIt N O K) e).2.1 o ho
  have next : ∀ k t e, e ∈ es → wIt N O t e = wIt N O K e → wIt N O k e ≠ wIt N O K e → ∃ e' ∈ es, wIt N O k e' ≠ wIt N O K e' ∧ wIt N O (k + 1) e' = wIt N O K e' := by
    intro k t
    induction t with
    | zero =>
      intro e he h hne
      exact absurd (Int.le_antisymm (by rw [← h]; exact it_le' (Nat.zero_le k) e) (lim k e he)) hne
    | succ t ih =>
      intro e he h hne
      rcases (low_spec (N := N) (O := O) (wIt N O t) e).2.2 with g | ⟨o, ho, g⟩
      · exact ih e he (g.symm.trans h) hne
      · have h : lowW N O (wIt N O t) e = wIt N O K e := h
        have h1 := fix e he o ho
        have h2 := lim t o.1 (hc e he o ho)
        have h3 : wIt N O t o.1 = wIt N O K o.1 := by omega
        by_cases q : wIt N O k o.1 = wIt N O K o.1
        · refine ⟨e, he, hne, Int.le_antisymm ?_ (lim _ e he)⟩
          have h4 := (low_spec (N := N) (O := O) (wIt N O k) e).2.1 o ho
          show lowW N O (wIt N O k) e ≤ _
          omega
        · exact ih o.1 (hc e he o ho) h3 q
  have cnt : ∀ k, (∀ e ∈ es, wIt N O k e = wIt N O K e) ∨ k ≤ (es.filter fun e => decide (wIt N O k e = wIt N O K e)).length := by
    intro k
    induction k with
    | zero => exact .inr (Nat.zero_le _)
    | succ k ih =>
      have mono : ∀ e ∈ es, wIt N O k e = wIt N O K e → wIt N O (k + 1) e = wIt N O K e := fun e he h => Int.le_antisymm (by rw [← h]; exact it_le k 1 e) (lim _ e he)
      rcases ih with h | h
      · exact .inl fun e he => mono e he (h e he)
      · by_cases q : ∀ e ∈ es, wIt N O k e = wIt N O K e
        · exact .inl fun e he => mono e he (q e he)
        · have q : ∃ e ∈ es, wIt N O k e ≠ wIt N O K e := Classical.byContradiction fun z => q fun e he => Classical.byContradiction fun y => z ⟨e, he, y⟩
          obtain ⟨e, he, hne⟩ := q
          obtain ⟨e', he', h1, h2⟩ := next k K e he rfl hne
          have := filter_len_lt (l := es) (f := fun e => decide (wIt N O k e = wIt N O K e)) (g := fun e => decide (wIt N O (k + 1) e = wIt N O K e)) (fun x hx hf => decide_eq_true (mono x hx (of_decide_eq_true hf))) he' (decide_eq_false h1) (decide_eq_true h2)
          exact .inr (by omega)
  have all : ∀ e ∈ es, wIt N O es.length e = wIt N O K e := by
    rcases cnt es.length with h | h
    · exact h
    · intro e he
      have h2 : (es.filter fun e => decide (wIt N O es.length e = wIt N O K e)).length = es.length := Nat.le_antisymm (List.length_filter_le _ _) h
      have h3 := List.length_filter_eq_length_iff.mp h2
      exact of_decide_eq_true (h3 e he)
  intro e he
  refine (Int.le_antisymm (it_le _ 1 e) ?_)
  rw [all e he]
  exact lim _ e he
theorem it_own {k : Nat} (h : ∀ e ∈ es, wIt N O (k + 1) e = wIt N O k e) {e : Nat} (he : e ∈ es) {o : Opt} (ho : o ∈ O e) : wIt N O k e < wIt N O k o.1 + N * o.2 := by
  have := (low_spec (N := N) (O := O) (wIt N O k) e).2.1 o ho
  have h2 := h e he
  have e1 : wIt N O (k + 1) e = lowW N O (wIt N O k) e := rfl
  omega
/-- potentials, by what shows that rings have sums above 0 -/
theorem pot_of (hc : Cl es O) {u : Nat → Int} {M : Int} (hM : 0 < M) (hu : ∀ e ∈ es, ∀ o ∈ O e, u e < u o.1 + M * o.2) (hN : (es.length : Int) ≤ N) : ∃ p, Pot N O es p := by
  refine ⟨fun e => N * (u e / M) - ((es.filter fun x => decide (u e % M < u x % M)).length : Nat), fun e he o ho => ?_⟩
  have ho2 := hc e he o ho
  have h1 := hu e he o ho
  have a1 := Int.mul_ediv_add_emod (u e) M
  have a2 := Int.mul_ediv_add_emod (u o.1) M
  have b1 := Int.emod_nonneg (u e) (show M ≠ 0 by omega)
  have b2 := Int.emod_lt_of_pos (u o.1) hM
  have rk : (es.filter fun x => decide (u o.1 % M < u x % M)).length < es.length := by
    have := filter_len_lt (l := es) (f := fun x => decide (u o.1 % M < u x % M)) (g := fun _ => true) (fun _ _ _ => rfl) ho2 (decide_eq_false (Int.lt_irrefl _)) rfl
    rw [List.filter_eq_self.mpr (fun _ _ => rfl)] at this
    exact this
  have hle : u e / M ≤ u o.1 / M + o.2 := by
    refine Int.le_of_lt_add_one ?_
    have : M * (u e / M) < M * (u o.1 / M + o.2 + 1) := by
      rw [Int.mul_add, Int.mul_add, Int.mul_one]
      omega
    exact Int.lt_of_mul_lt_mul_left this (by omega)
  show N * (u e / M) - _ ≤ N * (u o.1 / M) - _ + N * o.2 - 1
  by_cases q : u e / M = u o.1 / M + o.2
  · have hr : u e % M < u o.1 % M := by
      have : M * (u e / M) = M * (u o.1 / M) + M * o.2 := by rw [q, Int.mul_add]
      omega
    have := filter_len_lt (l := es) (f := fun x => decide (u o.1 % M < u x % M)) (g := fun x => decide (u e % M < u x % M)) (fun x _ hf => decide_eq_true (Int.lt_trans hr (of_decide_eq_true hf))) ho2 (decide_eq_false (Int.lt_irrefl _)) (decide_eq_true hr)
    have e1 : N * (u e / M) = N * (u o.1 / M) + N * o.2 := by rw [q, Int.mul_add]
    omega
  · have h2 : u e / M ≤ u o.1 / M + o.2 - 1 := by omega
    have h3 : N * (u e / M) ≤ N * (u o.1 / M + o.2 - 1) := Int.mul_le_mul_of_nonneg_left h2 (by omega)
    rw [Int.mul_sub, Int.mul_add, Int.mul_one] at h3
    omega
end
end Zl
end
section
set_option maxHeartbeats 1000000
set_option exponentiation.threshold 3000
namespace Zl
open PySem PySem.Spec PyProof.Rows L2
section
variable {P : Program} {w : World} {K : PySem.W.Frag} {mg : Str → Option Value} {base : Heap}
def sp_l_moved : Spz := fun ws q => ∃ (p : Pl) (d : Int), ws = [.d (plD true p), .d (.int d)] ∧ q (.d (plD true (shiftM p d)))
def neverS (s : Sys) (e : Nat) : Sys := (s.1, s.2 ++ [(e, [])])
def sp_l_never : Spz := fun ws q => ∃ (s : Sys) (e : Nat), ws = [.d (sysD s), .d (.int e)] ∧ s.2.length ≤ 1000 ∧ q (.d (sysD (neverS s e)))
theorem keeps_never {s : Sys} {e : Nat} {p : Pl} (h : keepsM (neverS s e) p = true) : keepsM s p = true := List.all_eq_true.mpr fun w hw => List.all_eq_true.mp h w (List.mem_append_left _ hw)
def sp_l_late_plan : Spz := fun ws q => ∃ (s : Sys), ws = [.bag, .d (sysD s)] ∧ SysV s ∧ s.2.length ≤ 200 ∧ ∀ p : Pl, PlV s 13000 p → keepsM s p = true → q (.d (plD true p))
end
end Zl
end
section
set_option maxHeartbeats 1000000
namespace Zl
open PySem PySem.Spec PyProof.Rows L2
/-- an integer that stands at the program's top -/
structure Gv (mg : Str → Option Value) (x : Str) (n : Int) : Prop where
  ex : ∃ t, mg x = some (.int n t)
theorem z_glob {X : Cx} {x : Str} {n : Int} {pos : Pos} (h : Gv X.mg x n) (hg : Gl X x) (hd : (x == ("__debug__" : Str)) = false := by decide) : ZE X (.Name x pos) (zC (.int n)) := by
  obtain ⟨t, ht⟩ := h.ex
  exact zC_of (pe_glob (v := .int n) hg ht ⟨t, rfl⟩ hd) fun _ => .int n
structure GvF (K : PySem.W.Frag) (x : Str) (n : Int) : Prop where
  ex : ∃ t, PySem.W.nsIn K mainGlobals x = some (some (.int n t))
theorem gv_mk {K : PySem.W.Frag} {x : Str} {n : Int} {t : Tok} (h : PySem.W.nsIn K mainGlobals x = some (some (.int n t))) : GvF K x n := ⟨t, h⟩
theorem GvF.gv {K : PySem.W.Frag} {x : Str} {n : Int} {h : Heap} {mg : Str → Option Value} (F : GvF K x n) (X : K.In h) (G : h.Ns mainGlobals mg) : Gv mg x n := by
  obtain ⟨t, ht⟩ := F.ex
  exact ⟨t, PySem.W.mg_of X G ht⟩
end Zl
end
section
set_option maxHeartbeats 1000000
namespace Zl
open PySem PySem.Spec PyProof.Rows L2
/-! ### isinstance, one built-in class -/
def tyD : D → Option String
  | .none => some "NoneType"
  | .bool _ => some "bool"
  | .int _ => some "int"
  | .str _ => some "str"
  | .list _ => some "list"
  | .tuple _ => some "tuple"
  | .dict _ => some "dict"
def IsiT (T : String) (g : D → Bool) : Prop := ∀ d t, tyD d = some t → kitB t T = some (g d)
def gInt : D → Bool
  | .int _ => true
  | .bool _ => true
  | _ => false
def gBool : D → Bool
  | .bool _ => true
  | _ => false
def gTuple : D → Bool
  | .tuple _ => true
  | _ => false
def gList : D → Bool
  | .list _ => true
  | _ => false
def gDict : D → Bool
  | .dict _ => true
  | _ => false
def gStr : D → Bool
  | .str _ => true
  | _ => false
theorem isiT_of {T : String} {g : D → Bool} (h0 : kitB "NoneType" T = some (g .none)) (h1 : ∀ b, g (.bool b) = g (.bool true)) (h1' : kitB "bool" T = some (g (.bool true))) (h2 : ∀ i, g (.int i) = g (.int 0)) (h2' : kitB "int" T = some (g (.int 0)))
    (h3 : ∀ x, g (.str x) = g (.str "")) (h3' : kitB "str" T = some (g (.str ""))) (h4 : ∀ x, g (.list x) = g (.list [])) (h4' : kitB "list" T = some (g (.list []))) (h5 : ∀ x, g (.tuple x) = g (.tuple [])) (h5' : kitB "tuple" T = some (g (.tuple [])))
    (h6 : ∀ x, g (.dict x) = g (.dict [])) (h6' : kitB "dict" T = some (g (.dict []))) : IsiT T g := by
  intro d t e
  unfold tyD at e
  split at e <;> cases e
  · exact h0
  · rw [h1]; exact h1'
  · rw [h2]; exact h2'
  · rw [h3]; exact h3'
  · rw [h4]; exact h4'
  · rw [h5]; exact h5'
  · rw [h6]; exact h6'
theorem k_int : IsiT "int" gInt := isiT_of (by decide +kernel) (fun _ => rfl) (by decide +kernel) (fun _ => rfl) (by decide +kernel) (fun _ => rfl) (by decide +kernel) (fun _ => rfl) (by decide +kernel) (fun _ => rfl) (by decide +kernel) (fun _ => rfl) (by decide +kernel)
theorem k_bool : IsiT "bool" gBool := isiT_of (by decide +kernel) (fun _ => rfl) (by decide +kernel) (fun _ => rfl) (by decide +kernel) (fun _ => rfl) (by decide +kernel) (fun _ => rfl) (by decide +kernel) (fun _ => rfl) (by decide +kernel) (fun _ => rfl) (by decide +kernel)
theorem k_tuple : IsiT "tuple" gTuple := isiT_of (by decide +kernel) (fun _ => rfl) (by decide +kernel) (fun _ => rfl) (by decide +kernel) (fun _ => rfl) (by decide +kernel) (fun _ => rfl) (by decide +kernel) (fun _ => rfl) (by decide +kernel) (fun _ => rfl) (by decide +kernel)
theorem k_list : IsiT "list" gList := isiT_of (by decide +kernel) (fun _ => rfl) (by decide +kernel) (fun _ => rfl) (by decide +kernel) (fun _ => rfl) (by decide +kernel) (fun _ => rfl) (by decide +kernel) (fun _ => rfl) (by decide +kernel) (fun _ => rfl) (by decide +kernel)
theorem k_dict : IsiT "dict" gDict := isiT_of (by decide +kernel) (fun _ => rfl) (by decide +kernel) (fun _ => rfl) (by decide +kernel) (fun _ => rfl) (by decide +kernel) (fun _ => rfl) (by decide +kernel) (fun _ => rfl) (by decide +kernel) (fun _ => rfl) (by decide +kernel)
theorem k_str : IsiT "str" gStr := isiT_of (by decide +kernel) (fun _ => rfl) (by decide +kernel) (fun _ => rfl) (by decide +kernel) (fun _ => rfl) (by decide +kernel) (fun _ => rfl) (by decide +kernel) (fun _ => rfl) (by decide +kernel) (fun _ => rfl) (by decide +kernel)
/-- the data of a value, dicts that are changed too -/
def datX : W → Option D
  | .d x => some x
  | .hot xs => some (.list xs)
  | .new xs => some (.list xs)
  | .hotd kvs => some (.dict (kvs.map fun p => (keyD p.1, p.2)))
  | .newd kvs => some (.dict (kvs.map fun p => (keyD p.1, p.2)))
  | _ => none
def rIsi1 (g : D → Bool) : W → (W → Prop) → Prop := fun w q => match datX w with
  | some d => (tyD d).isSome = true ∧ q (.d (.bool (g d)))
  | none => False
theorem tyX_rv {K : PySem.W.Frag} {H : Hp} {v : V} {d : D} {t : String} (h : RV K H v d) (e : tyD d = some t) : TyX K H v (.type t) := by
  cases h with
  | non => cases e; exact .base .non
  | bl b => cases e; exact .base (.bl b)
  | int i => cases e; exact .base (.int i)
  | str x => cases e; exact .base (.str x)
  | lst h _ _ => cases e; exact .base (.lst h)
  | tup h _ _ => cases e; exact .base (.tup h)
  | dct h _ =>
    cases e
    rcases h with h | ⟨o, h⟩
    · exact .base (.dK h)
    · exact .fDict h
theorem tyX_w {K : PySem.W.Frag} {P : Pm} {Hc H : Hp} {σ : L2.St} {δ : List Sl} {v : V} {w : W} {d : D} {t : String} (R : RW K P Hc H σ δ) (h : RVw K P Hc H σ δ v w) (e : datX w = some d) (e2 : tyD d = some t) : TyX K H v (.type t) := by
  cases w with
  | d x =>
    cases e
    exact tyX_rv (RV.mono R.coldH h) e2
  | hot xs =>
    cases e
    obtain ⟨a, rfl, vs, h1, _⟩ := h
    cases e2
    exact .base (.lst h1)
  | new xs =>
    cases e
    obtain ⟨a, rfl, _, ⟨vs, h1, _⟩, _⟩ := h
    cases e2
    exact .base (.lst h1)
  | hotd xs =>
    cases e
    obtain ⟨a, rfl, vs, h1, _⟩ := h
    cases e2
    exact .base (.dK h1)
  | newd xs =>
    cases e
    obtain ⟨a, rfl, _, ⟨vs, h1, _⟩, _⟩ := h
    cases e2
    exact .base (.dK h1)
  | _ => cases e
section
variable {X : Cx} {e : Expr} {te : TP} {pos : Pos}
theorem z_isi {T : String} {Tn : Str} {g : D → Bool} {p p2 : Pos} (hk : IsiT T g) (hg : Gl X "isinstance") (hm : X.mg "isinstance" = none) (hT : Gl X Tn) (hmT : X.mg Tn = none) (hvT : bootBuiltins Tn = some (.type T)) (he : ZE X e te)
    (hn : Tn ≠ "__name__" := by decide) (hd : (Tn == ("__debug__" : Str)) = false := by decide)
    (hs : starEach (e :: [.Name Tn p2]) X.env = (false, eval e X.env) :: starEach [.Name Tn p2] X.env := by rfl) (hs2 : starEach (.Name Tn p2 :: []) X.env = (false, eval (.Name Tn p2) X.env) :: starEach [] X.env := by rfl) (hpl : (backTo pos (starEach [.Name Tn p2] X.env)).any (·.1) = false := by rfl) :
    ZE X (.Call (.Name "isinstance" p) [e, .Name Tn p2] [] pos) (uZ te (rIsi1 g)) :=
  pe_imp (pe_callB call_isi hg hm (by decide +kernel) (pa_cons he (pa_cons (pe_bltn (v := .ty T) hT hmT hvT rfl hn hd) pa_nil hs2) hs) (by decide) (by decide) hs hpl) fun σ H Q z => by
    refine lft_un (R := fun x H1 Q => ∃ (x' c : V) (t u : Value) (b : Bool), [x, V.ty T] = [x', c] ∧ ClsV c u ∧ TyX X.K H1 x' t ∧ PySem.W.kitOne X.K t u = some b ∧ Q (.bl b) H1) (fun P Hc H σ δ v w q Q R rv hr post => ?_) z
    unfold rIsi1 at hr
    split at hr
    · rename_i d ed
      obtain ⟨h1, hq⟩ := hr
      obtain ⟨t, et⟩ := Option.isSome_iff_exists.mp h1
      exact ⟨v, .ty T, .type t, .type T, g d, rfl, .ty T, tyX_w R rv ed et, kit_ty (hk d t et), post.at R (w := .d (.bool _)) (RV.bl _) hq⟩
    · exact hr.elim
/-! ### xs[::-1] -/
def rRevz : W → (W → Prop) → Prop := fun w q => match lstW w with
  | some xs => q (.new xs.reverse)
  | none => False
theorem RVs.rev {K : PySem.W.Frag} {H : Hp} : ∀ {vs : List V} {ds : List D}, RVs K H vs ds → RVs K H vs.reverse ds.reverse
  | _, _, .nil => .nil
  | _, _, .cons h t => by
    rw [List.reverse_cons, List.reverse_cons]
    exact (RVs.rev t).append (.one h)
theorem z_revL {k : Nat} {p1 p2 p3 : Pos} (he : ZE X e te) : ZE X (.Subscript e (.Slice none none (some (.UnaryOp .USub (.Constant (.int 1) k p1) p2)) p3) pos) (uZ te rRevz) := pe_imp (pe_revL he) fun σ H Q z => by
  refine lft_un (R := fun x H1 Q => ∃ a xs, x = .ref a ∧ SqL X.K H1 a xs ∧ ∀ p, H1 p = none → Q (.ref p) (upd H1 p (.lst xs.reverse))) (fun P Hc H σ δ v w q Q R rv hr post => ?_) z
  unfold rRevz at hr
  split at hr
  · rename_i xs e1
    obtain ⟨a, vs, rfl, h1, h2, hz⟩ := rv.lst R e1
    exact ⟨a, vs, rfl, SqL.of h1, fun p hp => post.newL R hp h2.rev (by rw [List.length_reverse]; exact hz) hr⟩
  · exact hr.elim
end
/-! ### dict(pairs), sorted(dict) -/
theorem Post.newD {K : PySem.W.Frag} {P : Pm} {Hc H : Hp} {σ : L2.St} {δ : List Sl} {q : W → Prop} {Q : VK} {p : Addr} {vs : List (Key × V)} {ds : List (Key × D)} (post : Post K P Hc H σ δ q Q) (R : RW K P Hc H σ δ) (hp : H p = none) (r : RKs K Hc vs ds) (hq : q (.newd ds)) : Q (.ref p) (upd H p (.dK vs)) :=
  post Hc (upd H p (.dK vs)) _ (.newd ds) (Le.refl _) (nb_new hp) (R.newO hp) (R.hotNewD hp r) hq
def mergeKD (kvs more : List (Key × D)) : List (Key × D) := more.foldl (fun acc kv => putKD acc kv.1 kv.2) kvs
theorem RKs.merge {K : PySem.W.Frag} {H : Hp} : ∀ {more : List (Key × V)} {mo : List (Key × D)} {v : List (Key × V)} {d : List (Key × D)}, RKs K H more mo → RKs K H v d → RKs K H (mergeK v more) (mergeKD d mo)
  | _, _, v, d, .nil, h => h
  | p :: ps, q :: qs, v, d, .cons ⟨h1, h2⟩ t, h => by
    have z := RKs.merge (v := putK v p.1 p.2) (d := putKD d q.1 q.2) t (by rw [← h1]; exact h.put h2)
    exact z
def pairD (kv : Key × D) : D := .tuple [keyD kv.1, kv.2]
theorem key_rv {K : PySem.W.Frag} {H : Hp} {v : V} {k : Key} (h : RV K H v (keyD k)) : v = kV k := by
  cases k with
  | inl i => cases h; rfl
  | inr x => cases h; rfl
theorem pairs_rv {K : PySem.W.Frag} {Hc H : Hp} (le : Le Hc H) : ∀ {kvs : List (Key × D)} {vs : List V}, RVs K Hc vs (kvs.map pairD) → ∃ (ps : List Addr) (ws : List (Key × V)), vs = ps.map V.ref ∧ Paired (fun p (kv : Key × V) => SqT K H p [kV kv.1, kv.2]) ps ws ∧ RKs K Hc ws kvs
  | [], _, .nil => ⟨[], [], rfl, .nil, .nil⟩
  | kv :: kvs, _, .cons h t => by
    obtain ⟨ps, ws, e, h1, h2⟩ := pairs_rv le t
    have h : RV K Hc _ (.tuple [keyD kv.1, kv.2]) := h
    cases h with
    | tup k1 ksz k2 =>
      cases k2 with
      | cons a1 a2 =>
        cases a2 with
        | cons b1 b2 =>
          cases b2
          rename_i pa va vb
          have ek := key_rv a1
          subst ek
          refine ⟨pa :: ps, (kv.1, vb) :: ws, by rw [e]; rfl, .cons (SqT.of (le _ _ k1)) h1, .cons ⟨rfl, b1⟩ h2⟩
def rDictPz : W → (W → Prop) → Prop := fun w q => match lstW w with
  | some xs => ∃ kvs : List (Key × D), xs = kvs.map pairD ∧ q (.newd (mergeKD [] kvs))
  | none => False
theorem t_dictP {X : Cx} (hc : X.calm = true) : bt "dict" (r1 rDictPz) X := ⟨_, call_dictP hc, ar1_of fun P Hc H σ δ v w q Q R rv hr post => by
  unfold rDictPz at hr
  split at hr
  · rename_i xs e
    obtain ⟨kvs, rfl, hq⟩ := hr
    obtain ⟨a, vs, rfl, h1, h2, hz⟩ := rv.lst R e
    obtain ⟨ps, ws, e1, h3, h4⟩ := pairs_rv R.coldH h2
    subst e1
    exact ⟨a, ps, ws, rfl, SqL.of h1, h3, fun p hp => post.newD R hp (RKs.merge h4 .nil) hq⟩
  · exact hr.elim⟩
def rSortDz : W → (W → Prop) → Prop := fun w q => match dctW w with
  | some xs => ∃ ks : List Int, xs.map (·.1) = ks.map Sum.inl ∧ xs.length ≤ sizeLine ∧ ∀ ns : List Int, ns.Perm ks → ns.Pairwise (· ≤ ·) → q (.new (ns.map PyData.int))
  | none => False
theorem rks_keys {K : PySem.W.Frag} {H : Hp} : ∀ {v : List (Key × V)} {d : List (Key × D)}, RKs K H v d → v.map (·.1) = d.map (·.1)
  | _, _, .nil => rfl
  | p :: ps, q :: qs, .cons ⟨h1, _⟩ t => by
    rw [List.map_cons, List.map_cons, h1, rks_keys t]
theorem b_sortD {X : Cx} (hc : X.calm = true) : bi "sorted" (r1 rSortDz) X := ⟨_, Vq.cr_srtD hc, ar1_of fun P Hc H σ δ v w q Q R rv hr post => by
  unfold rSortDz at hr
  split at hr
  · rename_i xs e
    obtain ⟨ks, e1, hz, hq⟩ := hr
    obtain ⟨a, vs, rfl, h1, h2⟩ := RVw.dctW R rv e
    refine ⟨a, vs, ks, rfl, h1, (rks_keys h2).trans e1, fun ys p h3 h4 hp => post.newL R hp (RVs.ofInts ys) ?_ (hq ys h3 h4)⟩
    have := congrArg List.length e1
    rw [List.length_map, List.length_map] at this
    rw [List.length_map, h3.length_eq]
    omega
  · exact hr.elim⟩
/-! ### d.setdefault(k, x), as a statement -/
def tDSetd (td ty tx : TE) : TE := fun σ H Q => td σ H fun x H1 => ∃ a, x = .ref a ∧ IsD H1 a ∧ ty σ H1 fun y H2 => tx σ H2 fun z H3 => ∃ kvs k, H3 a = some (.dK kvs) ∧ y = kV k ∧ kvs.length < sizeLine ∧ (∀ u, valV kvs k = some u → Q u H3) ∧ (valV kvs k = none → Q z (upd H3 a (.dK (putK kvs k z))))
section
variable {X : Cx} {o e f : Expr} {td ty tx : TE} {apos cpos : Pos}
theorem pe_dsetd (ho : PE X o td) (he : PE X e ty) (hf : PE X f tx) (m : M2 X o "setdefault" apos e f cpos) : PE X (.Call (.Attribute o "setdefault" apos) [e, f] [] cpos) (tDSetd td ty tx) := by
  refine ⟨fun pins s σ H Q I h => ?_⟩
  refine wpAny_Call_method m.base m.few m.line PySem.F.plainAttrs_dict PySem.F.slot_dict_setdefault PySem.F.type_dict_setdefault (thn (ho.run pins s σ H _ I h) fun u s1 ⟨x, H1, I1, rx, a, ex, d, q1⟩ => ?_)
  subst ex
  obtain rfl : u = Value.ref a := rx
  obtain ⟨t1, t2, _⟩ := isD_at I1 d
  refine ⟨t1, t2, ?_⟩
  rw [m.trees]
  refine Calls.callWith_builtin rfl (Calls.evalArgs_plain (Calls.spliced_cons (thn (he.run pins s1 σ H1 _ I1 q1) fun iv s2 ⟨y, H2, I2, ry, q2⟩ =>
    Calls.spliced_cons (thn (hf.run pins s2 σ H2 _ I2 q2) fun fv s3 ⟨z, H3, I3, rz, kvs, k, ea, ey, hl, w1, w2⟩ => Calls.spliced_nil ?_))))
  subst ey
  obtain ⟨z0, hd, vs0, rel, dd⟩ := dk_of I3.hok ea
  have hz : vs0.length ≤ sizeLine := by rw [← rel.length]; exact z0
  refine call_meetsIn PySem.F.slot_dict_setdefault dd.typeIs PySem.F.entry_dict_setdefault (PySem.F.args_dict_setdefault_3 _ _ _) (kt_meets_setdefault (mixKind X.prog X.w) a (kV_is ry) hd fv) ⟨vs0, dd, hz, fun u hu => ?_, fun hn h' dd' hs => ?_⟩
  · have rr := rel.val k
    rw [hu] at rr
    cases hv : valV kvs k with
    | none => rw [hv] at rr; exact False.elim rr
    | some x =>
      rw [hv] at rr
      exact (⟨x, H3, I3.tok _, rr, w1 x hv⟩ : EP X pins σ Q u _)
  · have rr := rel.val k
    rw [hn] at rr
    cases hv : valV kvs k with
    | some x => rw [hv] at rr; exact False.elim rr
    | none =>
      have hl2 : (putK kvs k z).length ≤ sizeLine := by have := length_putK kvs k z; omega
      exact (⟨z, _, d_write (t' := s3.toks + 1) I3 (by rw [ea]; exact True.intro) hs (let ⟨q, _, _, hq, _⟩ := dd'; ⟨q, hq⟩) (dk_new hl2 hd (rel.put k rz) dd'), rz, w2 hv⟩ : EP X pins σ Q _ _)
end
def zSetd (j : Nat) (tk tx : TP) : TZ := fun N δ => match δ[j]? with
  | some (.hd xs) => tk δ fun wk => tx δ fun wx => (match keyW (held wk), wx with
    | some k, .d d => xs.length < sizeLine ∧ (match lookD xs k with
      | some _ => N.nx δ
      | none => N.nx (δ.set j (.hd (putKD xs k d))))
    | _, _ => False)
  | _ => False
theorem zs_setd {X : Cx} {x : Str} {np apos cpos spos : Pos} {j : Nat} {k e : Expr} {tk tx : TP} (hk : ZE X k tk) (he : ZE X e tx)
    (hP : ∀ {t u : TE}, PE X k t → PE X e u → PS X (.Expr (.Call (.Attribute (.Name x np) "setdefault" apos) [k, e] [] cpos) spos) (tDrop (tDSetd (tVar j) t u))) : ZS X (.Expr (.Call (.Attribute (.Name x np) "setdefault" apos) [k, e] [] cpos) spos) (zSetd j tk tx) := ps_imp (hP hk he) fun Dn σ H => by
  rintro ⟨P, Hc, δ, N, R, h, E⟩
  unfold zSetd at h
  split at h
  · rename_i xs e1
    obtain ⟨a, vs, h1, h2, h3, h4, h5, h6⟩ := R.slD e1
    refine ⟨.ref a, h1, a, rfl, .inl ⟨vs, .inl h3⟩, P, Hc, δ, _, R, h, fun Hc2 H2 u w l2 f2 R2 ru hq2 => ⟨P, Hc2, δ, _, R2, hq2, fun Hc3 H3 t y l3 f3 R3 rt hq3 => ?_⟩⟩
    split at hq3
    · rename_i k d ek
      obtain ⟨a', vs', z1, z2, z3, z4, z5, z6⟩ := R3.slD e1
      rw [h1] at z1
      cases z1
      have hk := keyW_ok (ru.held (σ' := σ) (δ' := δ) l3 f3) ek
      subst hk
      obtain ⟨hz, hq3⟩ := hq3
      refine ⟨vs', k, z3, rfl, by rw [z6.len]; exact hz, fun u hu => ?_, fun hn => ?_⟩
      · cases hl : lookD xs k with
        | none => rw [(z6.find k).2 hl] at hu; cases hu
        | some y0 =>
          rw [hl] at hq3
          exact E.nx Hc3 H3 σ δ (l2.trans l3) R3 hq3
      · cases hl : lookD xs k with
        | some y0 =>
          obtain ⟨x0, e4, _⟩ := (z6.find k).1 y0 hl
          rw [hn] at e4
          cases e4
        | none =>
          rw [hl] at hq3
          exact E.nx Hc3 _ σ _ (l2.trans l3) (R3.putD e1 h1 (z6.put rt)) hq3
    · exact hq3.elim
  · exact h.elim
end Zl
end
section
set_option maxHeartbeats 1000000
set_option exponentiation.threshold 3000
namespace Zl
open PySem PySem.Spec PyProof.Rows L2
noncomputable def cpD (s : Sys) (w : Wt) : D := if fol s w = true then .none else plD true (lp (conS s w))
/-- the first wait that does not follow, with its place -/
noncomputable def partM (s t : Sys) : Option (Nat × Pl) := match t.2.find? (fun w => !fol s w) with
  | some w => some (0, lp (conS s w))
  | none => (match s.2.find? (fun w => !fol t w) with
    | some w => some (1, lp (conS t w))
    | none => none)
noncomputable def partD (s t : Sys) : D := match partM s t with
  | none => .none
  | some x => .tuple [.int (x.1 : Nat), plD true x.2]
noncomputable def sameM (s t : Sys) : Bool := t.2.all (fol s) && s.2.all (fol t)
theorem find_none {l : List Wt} {f : Wt → Bool} : l.find? (fun w => !f w) = none ↔ l.all f = true := by
  rw [List.find?_eq_none, List.all_eq_true]
  refine ⟨fun h w hw => ?_, fun h w hw => by rw [h w hw]; decide⟩
  have z := h w hw
  cases e : f w with
  | true => rfl
  | false => rw [e] at z; exact absurd rfl z
theorem part_same (s t : Sys) : (partM s t).isNone = sameM s t := by
  unfold partM sameM
  cases h : t.2.find? (fun w => !fol s w) with
  | some w =>
    have z : t.2.all (fol s) = false := by
      cases e : t.2.all (fol s) with
      | false => rfl
      | true => rw [find_none.mpr e] at h; cases h
    rw [z]
    rfl
  | none =>
    rw [find_none.mp h]
    cases g : s.2.find? (fun w => !fol t w) with
    | some w =>
      have z : s.2.all (fol t) = false := by
        cases e : s.2.all (fol t) with
        | false => rfl
        | true => rw [find_none.mpr e] at g; cases g
      rw [z]
      rfl
    | none =>
      rw [find_none.mp g]
      rfl
theorem find_at {dn xs : List Wt} {x : Wt} {f : Wt → Bool} (h : ∀ w ∈ dn, f w = true) (hx : f x = false) : (dn ++ x :: xs).find? (fun w => !f w) = some x := by
  rw [List.find?_append]
  have e : dn.find? (fun w => !f w) = none := by
    rw [List.find?_eq_none]
    intro w hw
    rw [h w hw]
    decide
  rw [e]
  show (x :: xs).find? (fun w => !f w) = some x
  rw [List.find?_cons, hx]
  rfl
section
variable {P : Program} {w : World} {K : PySem.W.Frag} {mg : Str → Option Value} {base : Heap}
def sp_contrary : Spz := fun ws q => ∃ (s : Sys) (w : Wt), ws = [.d (sysD s), .d (waitD w)] ∧ s.2.length ≤ 900 ∧ w.2.length ≤ 90 ∧ q (.d (sysD (conS s w)))
def sp_counter_plan : Spz := fun ws q => ∃ (s : Sys) (w : Wt), ws = [.d (sysD s), .d (waitD w)] ∧ SysU s ∧ WtU s.1 w ∧ q (.d (cpD s w))
def sp_follows : Spz := fun ws q => ∃ (s : Sys) (w : Wt), ws = [.d (sysD s), .d (waitD w)] ∧ SysU s ∧ WtU s.1 w ∧ q (.d (.bool (fol s w)))
def sp_parting_plan : Spz := fun ws q => ∃ (s t : Sys), ws = [.d (sysD s), .d (sysD t)] ∧ SysU s ∧ SysU t ∧ s.1 = t.1 ∧ q (.d (partD s t))
def ppS (s t : Sys) (i : Nat) (a b : Sys) (x y : Sl) : List Sl := [.w (.d (sysD s)), .w (.d (sysD t)), .w (.d (.int (i : Nat))), .w (.d (sysD a)), .w (.d (sysD b)), x, y]
def sp_says_same : Spz := fun ws q => ∃ (s t : Sys), ws = [.d (sysD s), .d (sysD t)] ∧ SysU s ∧ SysU t ∧ s.1 = t.1 ∧ q (.d (.bool (sameM s t)))
def sp_l_is_int : Spz := fun ws q => ∃ i : Int, ws = [.d (.int i)] ∧ q (.d (.bool true))
theorem ok_l_is_int (M : Mgz mg) (Dd : Vq.D1 K mg "_law_is_int" s_l_is_int ["_law_thing"])  : ZCal P w K mg base 1 "_law_is_int" sp_l_is_int := by
  refine zcal false Dd sc_l_is_int (fun ws q h => ?_) fun f cdv A outer s H E hG hr => ⟨_, (zb_one (zs_ret (z_and (z_isi k_int rfl M.isinstance rfl M.int (by decide +kernel) (zv 0)) (z_one (z_notV (z_isi k_bool rfl M.isinstance rfl M.bool (by decide +kernel) (zv 0))))))), fun ws Q0 h => ?_⟩
  · obtain ⟨i, rfl, _⟩ := h
    rfl
  · obtain ⟨i, rfl, q⟩ := h
    exact ⟨rfl, rfl, q⟩
def sp_l_sized_delays : Spz := fun ws q => ∃ (s : Sys) (m : Nat), ws = [.d (sysD s), .d (.int m)] ∧ SysV s ∧ ∀ b, q (.d (.bool b))
theorem sysU_of {n m : Nat} {s : Sys} (h : SysB n m s) (hn : n ≤ 10) (hm : m ≤ 150) : SysU s := ⟨h.v hn (by omega), Nat.le_trans h.many hm, fun w hw o ho => by
  have z : o.2.natAbs ≤ 500 := ((h.ok w hw).2.2.1 o ho).2
  omega⟩
theorem tame_u {s : Sys} (h : SysU s) : SysU (tameM s) := ⟨tame_v h.v, by unfold tameM; rw [List.length_map]; exact h.many, fun w hw o ho => by
  obtain ⟨v, hv, rfl⟩ := List.mem_map.mp hw
  obtain ⟨u, hu, rfl⟩ := List.mem_map.mp ho
  exact Nat.le_trans (clip_b _) (by decide)⟩
/-- each wait's options are of events that differ -/
def NdS (s : Sys) : Prop := ∀ w ∈ s.2, Nd w.2
theorem nd_of {n m : Nat} {s : Sys} (h : SysB n m s) : NdS s := fun w hw => (h.ok w hw).2.2.2
theorem tame_nd {s : Sys} (h : NdS s) : NdS (tameM s) := fun w hw => by
  obtain ⟨v, hv, rfl⟩ := List.mem_map.mp hw
  show ((v.2.map fun o : Opt => (o.1, clip o.2)).map fun o : Opt => o.1).Nodup
  rw [List.map_map]
  exact h v hv
def sp_l_small_system : Spz := fun ws q => ∃ n m : Nat, ws = [.bag, .d (.int n), .d (.int m)] ∧ 0 < n ∧ n ≤ 10 ∧ m ≤ 40 ∧ ∀ s, SysU s → NdS s → s.2.length ≤ 2 * m + 20 → q (.d (sysD s))
def sp_l_contrary : Spz := sp_contrary
theorem con_d (s : Sys) (w : Wt) : sysD (conS s w) = .tuple [.int (s.1 : Nat), .tuple (s.2.map waitD ++ w.2.map fun o => waitD (o.1, [(w.1, 1 - o.2)]))] := by
  unfold conS wadd sysD
  rw [List.map_append, List.map_map]
  rfl
def sp_l_follows : Spz := sp_follows
def sp_l_any_wait : Spz := fun ws q => ∃ n : Nat, ws = [.bag, .d (.int n)] ∧ 0 < n ∧ n ≤ 10 ∧ ∀ w, WtU n w → w.2.length ≤ 10 → q (.d (waitD w))
end
end Zl
end
section
set_option maxHeartbeats 1000000
/-! reversed of a tuple and of a range -/
namespace Zl
open PySem PySem.Spec PyProof.Rows L2 RT
/-- the tuple at a (n items), from its end -/
def ItRt (K : PySem.W.Frag) (a : Addr) (n : Nat) : It :=
  ⟨fun i H => i < n ∧ ∃ (xs : List V) (x : V), SqT K H a xs ∧ xs[n - 1 - i]? = some x, fun i H x H' => H' = H ∧ ∀ xs, SqT K H a xs → xs[n - 1 - i]? = some x, fun i _ => n ≤ i⟩
theorem turn_rt {P : Program} {w : World} {K : PySem.W.Frag} {tg : Expr} (a it : Addr) (n : Nat) : Turn P w K tg (ItRt K a n) [it] it (fun i h => i ≤ n ∧ IsRt h it a ((n : Int) - 1 - (i : Nat))) where
  mem := by simp
  obj := fun i h st b hb => by
    have e : b = it := by simpa using hb
    subst e
    obtain ⟨_, o, e, c, d⟩ := st
    exact ⟨o, e, fun v z => by rw [d] at z; cases z⟩
  keep := fun i h h' st k => ⟨st.1, st.2.at fun o e => k it (by simp) o e⟩
  item := by
    intro X hP hw hK hc i pins s σ H E I hf st hg
    subst hP hw hK
    obtain ⟨hin, xs, x, hq, hx⟩ := hg
    obtain ⟨its, rv, p, hz⟩ := I.tuple hq
    obtain ⟨u, hu, ru⟩ := rv.get hx
    obtain ⟨f0, f1, f2, f3, f4, f5⟩ := hf it (by simp)
    obtain ⟨_, hit⟩ := st
    have e1 : (n : Int) - 1 - ((i : Nat) : Int) = ((n - 1 - i : Nat) : Int) := by omega
    rw [e1] at hit
    have hl := rv.length
    refine next_rt_item hit p (x := u) (by simpa using hu) (by rw [List.size_toArray]; omega) fun h' st' sb => ?_
    have e2 : ((n - 1 - i : Nat) : Int) - 1 = (n : Int) - 1 - ((i + 1 : Nat) : Int) := by omega
    rw [e2] at st'
    have I1 : Inv X pins σ H { s with heap := h', toks := s.toks + 1 } := I.turned (t' := s.toks + 1) (fun b o hb e => (sb.2 b hb).trans e) f0 f1 f3 f4 f5
    obtain ⟨o, e, c, d⟩ := id st'
    exact ⟨u, rfl, go_of (s := { s with heap := h', toks := s.toks + 1 }) e c d (by decide) ⟨x, H, I1, ru, ⟨rfl, fun ys hy => by rw [I.tuple_inj hy hq]; exact hx⟩, ⟨hin, st'⟩, fun b hb => (hf b hb).1⟩⟩
  done := by
    intro X hP hw hK hc i pins s σ H E I hf st hg
    subst hP hw hK
    obtain ⟨f0, f1, f2, f3, f4, f5⟩ := hf it (by simp)
    obtain ⟨hin, hit⟩ := st
    have hge : n ≤ i := hg
    have e1 : (n : Int) - 1 - ((i : Nat) : Int) = -1 := by omega
    rw [e1] at hit
    exact next_rt_end (I.ok.hd hc) hit fun h' eb => ⟨rfl, I.turned (t' := s.toks) (fun b o hb e => eb b o hb e) f0 f1 f3 f4 f5⟩
  self := fun A i s Q E st h => iter_rt st.2 h
def iRevT (K : PySem.W.Frag) (ta : TA) : TI := fun σ H R => ta σ H fun vs H1 => ∃ (a : Addr) (xs : List V), vs = [.ref a] ∧ SqT K H1 a xs ∧ R (ItRt K a xs.length) H1
theorem pi_revT {X : Cx} {tg e : Expr} {ta : TA} {p pos : Pos} (hg : Gl X "reversed") (hm : X.mg "reversed" = none) (ha : PA X [e] ta) (hs : starEach [e] X.env = [(false, eval e X.env)] := by rfl) : PI X tg (.Call (.Name "reversed" p) [e] [] pos) (iRevT X.K ta) := by
  refine ⟨fun pins s σ H R I h => ?_⟩
  refine Call_ (ld_blt I hg hm PyProof.Rows.boot_reversed (PyProof.Rows.callWith_type1 (thn (ha.run pos pins s σ H _ I h) fun us s1 ⟨vs, H1, I1, r1, q1⟩ => ?_) hs rfl))
  obtain ⟨a, xs, e, hq, q⟩ := q1
  subst e
  cases r1 with
  | cons r rr =>
    cases rr
    cases r
    obtain ⟨its, rv, p', hz⟩ := I1.tuple hq
    have hl := rv.length
    have e1 : ((its.toArray.size : Nat) : Int) - 1 = (xs.length : Int) - 1 - ((0 : Nat) : Int) := by simp only [List.size_toArray]; omega
    have hfit : ((its.toArray.size : Nat) : Int) < 2 ^ 63 := by
      rw [List.size_toArray]
      have := hz
      rw [sizeLine_eq] at this
      omega
    refine call_reversed_tup p' (fun A E Q h => PyProof.Rows.len_tuple p' hfit h) (iter_rt (t := a) (i := ((its.toArray.size : Nat) : Int) - 1) ⟨_, Heap.get?_push_size _ rfl, rfl, rfl⟩ ?_)
    refine pi_one (tk := s1.toks + 1 + 1) I1 _ (turn_rt a _ xs.length) ⟨Nat.zero_le _, ?_⟩ q
    rw [← e1]
    exact ⟨_, Heap.get?_push_size _ rfl, rfl, rfl⟩
theorem walk_rt {K : PySem.W.Frag} {a : Addr} {xs : List V} : Walk (ItRt K a xs.length) xs.length (fun H => SqT K H a xs) (YAt xs.reverse) :=
  ⟨fun i _ hi q => ⟨hi, xs, xs[xs.length - 1 - i]'(by omega), q, by simp [show xs.length - 1 - i < xs.length by omega]⟩, fun _ _ => Nat.le_refl _, fun i _ _ _ hi q y => ⟨y.1, by rw [List.getElem?_reverse hi]; exact y.2 xs q⟩⟩
section
variable {K : PySem.W.Frag} {P : Pm} {Hc H : Hp} {σ : L2.St} {δ : List Sl}
theorem Wk.rtup {a : Addr} {vs : List V} {ds : List D} (h : Hc a = some (.tup vs)) (hz : ds.length ≤ sizeLine) (r : RVs K Hc vs ds) : Wk K P Hc (ItRt K a vs.length) ds.reverse :=
  .pure (G := fun H => SqT K H a vs) (fun l Hc' H σ δ le R => SqT.of (R.coldH _ _ (le _ _ h))) (by rw [List.length_reverse]; exact hz) ⟨vs.reverse, r.rev, by rw [List.length_reverse]; exact walk_rt⟩
theorem Wk.rngR {n : Nat} (hz : n ≤ sizeLine) : Wk K P Hc (Itc (0 + (n : Int) - 1) (-1) n) (rngD 0 n).reverse := by
  have hl : (rngD 0 n).length = n := by
    unfold rngD
    rw [List.length_map, List.length_range]
  refine ⟨fun i l Hc' H σ δ le R hi => by rw [List.length_reverse, hl] at hi; exact hi, by rw [List.length_reverse, hl]; exact hz, fun l Hc' H σ δ le R => Nat.le_of_eq (by rw [List.length_reverse, hl]), fun i l Hc' H σ δ x H' d le R e y => ?_⟩
  obtain ⟨rfl, rfl⟩ := y
  have hi : i < (rngD 0 n).length := by
    have := (List.getElem?_eq_some_iff.mp e).1
    rw [List.length_reverse] at this
    exact this
  rw [List.getElem?_reverse hi, hl] at e
  rw [hl] at hi
  have hd : d = .int (0 + (n : Int) - 1 + (i : Nat) * (-1)) := by
    unfold rngD at e
    rw [List.getElem?_map, List.getElem?_range (by omega)] at e
    cases e
    have e2 : (0 : Int) + ((n - 1 - i : Nat) : Int) = 0 + (n : Int) - 1 + (i : Nat) * (-1) := by omega
    exact congrArg PyData.int e2
  subst hd
  exact ⟨Hc', Le.refl _, Le.refl _, R, .int _⟩
end
section
variable {X : Cx} {a e tg : Expr} {ta : TPa} {pos : Pos}
def iRevTz (t : TPa) : TIz := fun δ q => t δ fun ws => match ws with
  | [.d (.tuple ds)] => q ds.reverse
  | _ => False
def iRevRz (t : TP) : TIz := fun δ q => t δ fun w => match w with
  | .d (.int j) => (-(2 ^ 62) ≤ j ∧ j < 2 ^ 15) ∧ q (rngD 0 j.toNat).reverse
  | _ => False
theorem zi_revT {p : Pos} (hg : Gl X "reversed") (hm : X.mg "reversed" = none) (ha : ZA X [a] ta) (hs : starEach [a] X.env = [(false, eval a X.env)] := by rfl) : ZI X tg (.Call (.Name "reversed" p) [a] [] pos) (iRevTz ta) := pi_imp (pi_revT hg hm ha hs) fun σ H R => by
  rintro ⟨P, Hc, δ, q, Rw, ht, post⟩
  refine ⟨P, Hc, δ, _, Rw, ht, fun Hc' H' vs ws l f R' rv hq => ?_⟩
  split at hq
  · obtain ⟨v, rfl, r⟩ := rv.one
    rename_i ds
    have z : RV X.K Hc' v (.tuple ds) := r
    cases z with
    | tup h1 hz h2 => exact ⟨_, _, rfl, SqT.of (R'.coldH _ _ h1), post Hc' H' _ _ l f R' (Wk.rtup h1 hz h2) hq⟩
  · exact hq.elim
theorem zi_revR {te : TP} {p p2 pos2 : Pos} (hg : Gl X "reversed") (hm : X.mg "reversed" = none) (hg2 : Gl X "range") (hm2 : X.mg "range" = none) (ha : ZE X a te) (na : starEach [a] X.env = (false, eval a X.env) :: starEach [] X.env := by rfl)
    (hs : starEach [(.Call (.Name "range" p2) [a] [] pos2)] X.env = (false, eval (.Call (.Name "range" p2) [a] [] pos2) X.env) :: starEach [] X.env := by rfl) : ZI X tg (.Call (.Name "reversed" p) [.Call (.Name "range" p2) [a] [] pos2] [] pos) (iRevRz te) := pi_imp (pi_revR hg hm (prg_1 hg2 hm2 ha na) hs) fun σ H R => by
  rintro ⟨P, Hc, δ, q, Rw, ht, post⟩
  refine ⟨P, Hc, δ, _, Rw, ht, fun Hc' H' v w l f R' rv hq => ?_⟩
  split at hq
  · rename_i j
    have z : v = .int j := RVw.int rv
    refine ⟨j, z, by decide, by decide, hq.1.1, by omega, post Hc' H' _ _ l f R' ?_ hq.2⟩
    have e : (j - 0).toNat = j.toNat := by omega
    rw [e]
    exact Wk.rngR (by rw [sizeLine_eq]; omega)
  · exact hq.elim
end
end Zl
end
section
set_option maxHeartbeats 1000000
/-! sorted of a tuple of pairs of ints -/
namespace Zl
open PySem PySem.Spec PyProof.Rows L2
section
variable {prog : Program} {w : World} {A : Around} {E : Value → Shared → Prop} {s : Shared}
def gath (h : Heap) (vs : List Value) : Heap := (h.push (seqObj "list" #[] 0)).update h.objs.size (Obj.mapSeq fun x => x ++ vs.toArray)
theorem gath_new (h : Heap) (vs : List Value) : (gath h vs).objs.size = h.objs.size + 1 := (Heap.size_update ..).trans (size_push' ..)
theorem gath_old {h : Heap} {vs : List Value} {b : Addr} {o : Obj} (e : h.get? b = some o) : (gath h vs).get? b = some o :=
  (Heap.get?_update_ne _ _ _ _ (Nat.ne_of_lt (Heap.lt_size e))).trans (Heap.get?_push_of_some _ e)
theorem gather_tup {t : Addr} {vs : List Value} {Q : List Value → Shared → Prop} (ht : IsTup s.heap t vs.toArray) (hz : vs.length ≤ sizeLine) (h : Q vs { s with heap := gath s.heap vs }) : wpAny (model prog w) A (collect (.ref t)) Q E s := by
  obtain ⟨ob, g1, g2, m, g3⟩ := id ht
  have g4 : (s.heap.push (seqObj "list" #[] 0)).get? t = some ob := Heap.get?_push_of_some _ g1
  have e0 : (#[] : Array Value).size + vs.toArray.size ≤ sizeLine + 1 := by
    rw [List.size_toArray]
    show 0 + vs.length ≤ _
    omega
  unfold collect
  refine wpAny_bind (wpAny_runValue (codeAny_builtin PyProof.Rows.entry_proto_collect' ?a))
  show wpAny _ _ (newList [] >>= fun v => again (.builtin "list.__iadd__" ⟨[v, .ref t], []⟩)) _ _ s
  refine wpAny_bind (wpAny_newList (wpAny_pure ⟨Code.quiet_builtin _ (by decide +kernel), codeAny_builtin PyProof.Rows.entry_list_iadd' ?b⟩))
  unfold Builtin.«list.__iadd__»
  show wpAny _ _ (Builtin.List.listExtendWith (.ref s.heap.objs.size) (.ref t) (.ref s.heap.objs.size)) _ _ { s with heap := s.heap.push (seqObj "list" #[] 0) }
  unfold Builtin.List.listExtendWith
  refine wpAny_bind (wpAny_typeOf (T := "tuple") ⟨ob, g4, g2⟩ ?c)
  have e3 : (Value.type "tuple" == Value.type "tuple") = true := by rfl
  rw [if_pos (by rw [e3, Bool.or_true])]
  refine wpAny_bind (PyProof.Rows.listItems_at g4 g3 ?d)
  refine wpAny_bind (PyProof.Rows.listItems_at (xs := #[]) (n := 0) (Heap.get?_push_size _ rfl) rfl ?e)
  rw [if_neg (by simp)]
  refine wpAny_bind (PyProof.Rows.listUpdate_at (xs := #[]) (n := 0) (Heap.get?_push_size _ rfl) rfl ?f (Nat.zero_le _) (by rw [Array.size_append]; exact e0))
  refine wpAny_pure ?g
  have fin := get?_update_seq (a := s.heap.objs.size) (h := s.heap.push (seqObj "list" #[] 0)) (Heap.get?_push_size _ rfl) fun x => x ++ vs.toArray
  refine wpAny_bind (wpAny_load fin ?i)
  show wpAny _ _ (pure ((#[] : Array Value) ++ vs.toArray).toList) Q E _
  have e2 : ((#[] : Array Value) ++ vs.toArray).toList = vs := by simp
  rw [e2]
  exact wpAny_pure h
end
section
variable {X : Cx}
def rSortedPT (K : PySem.W.Frag) : List V → Hp → VK → Prop := fun vs H Q => ∃ a xs, vs = [V.ref a] ∧ SqT K H a xs ∧ (∀ x ∈ xs, ∃ t i j, x = V.ref t ∧ H t = some (.tup [.int i, .int j])) ∧
  ∀ ys p, ys.Perm xs → H p = none → Q (.ref p) (upd H p (.lst ys))
theorem cr_sortedPT : CallR X (.builtin "sorted") (rSortedPT X.K) := by
  intro pins s σ H vs us Q I r h
  obtain ⟨a, xs, rfl, hs, hx, q⟩ := h
  obtain ⟨its, rv, hl, hz⟩ := I.tuple hs
  obtain ⟨u, rfl, ru⟩ := vals1 r
  cases ru
  have hlen := rv.length
  obtain ⟨e1, e2⟩ := refs_back rv fun x m => by
    obtain ⟨t, _, _, e, _⟩ := hx x m
    exact ⟨t, e⟩
  have hiz : its.length ≤ sizeLine := by omega
  refine Calls.call_function_entry PyProof.Rows.kind_sorted PyProof.Rows.plain_sorted PyProof.Rows.entry_sorted (PyProof.Rows.args_sorted1 _) ?_
  unfold Builtin.«sorted»
  refine wpAny_bind (m := checkCount "sorted" 1 1 _) (wpAny_pure ?_)
  refine wpAny_bind (gather_tup hl hiz ?_)
  refine wpAny_bind (wpAny_newList ?_ hiz)
  have hoL : ((gath s.heap its).push (seqObj "list" its.toArray 0)).get? (gath s.heap its).objs.size = some (seqObj "list" its.toArray 0) := Heap.get?_push_size _ rfl
  have old : ∀ b o, s.heap.get? b = some o → b ≠ (gath s.heap its).objs.size ∧ ((gath s.heap its).push (seqObj "list" its.toArray 0)).get? b = some o := fun b o e => ⟨by
    rw [gath_new]
    exact Nat.ne_of_lt (Nat.lt_succ_of_lt (Heap.lt_size e)), Heap.get?_push_of_some _ (gath_old e)⟩
  have prs : ∀ v ∈ its, ∃ x y, Srt.IsPair s.heap v x y := fun v hv => by
    obtain ⟨t, rfl⟩ := e2 v hv
    obtain ⟨t', i, j, e, ht⟩ := hx (V.ref t) (by rw [e1]; exact List.mem_map.mpr ⟨_, hv, rfl⟩)
    cases e
    obtain ⟨_, its2, r2, o, ho, hc, n, hd⟩ := I.hok _ _ ht
    obtain ⟨u1, u2, rfl, ⟨t1, rfl⟩, ⟨t2, rfl⟩⟩ := vals2 r2
    exact ⟨i, j, t, o, t1, t2, n, rfl, ho, hc, hd⟩
  show wpAny _ _ _ _ _ { s with heap := (gath s.heap its).push (seqObj "list" its.toArray 0) }
  refine wpAny_bind (wpAny_holding (wpAny_call_entry PyProof.Rows.slot_list_sort ⟨_, hoL, rfl⟩ PyProof.Rows.entry_list_sort
    (Srt.list_sort_any (s := { s with heap := (gath s.heap its).push (seqObj "list" its.toArray 0) }) hoL hiz (fun h2 => Srt.pairs_sortable (by omega) (fun v hv => ?_) fun o e => ?_) fun out hp => ⟨_, rfl, ?_⟩) (PyProof.Rows.args_list_sort _)))
  · obtain ⟨x, y, p⟩ := prs v hv
    exact ⟨x, y, p.keeps fun b o e _ => (old b o e).2⟩
  · have z : some o = some (seqObj "list" its.toArray 0) := e.symm.trans hoL
    cases z
    intro c
    exact absurd (Value.type.inj c) (by decide)
  · have h3 : ∀ u ∈ out, ∃ a, u = Value.ref a := fun u hu => e2 u (hp.mem_iff.mp hu)
    have kp : ∀ b u, s.heap.get? b = some u → (sortedHeap ((gath s.heap its).push (seqObj "list" its.toArray 0)) (gath s.heap its).objs.size its out.toArray).get? b = some u := fun b u e => by
      have hb := Heap.lt_size e
      rw [PyProof.Rows.sortedHeap_old (old b u e).1 (by rw [size_push', gath_new]; exact Nat.lt_succ_of_lt (Nat.lt_succ_of_lt hb))]
      exact (old b u e).2
    obtain ⟨n, hn⟩ := PyProof.Rows.sortedHeap_at (vs := its) (out := out.toArray) hoL
    have hd : s.heap.objs.size ≤ (gath s.heap its).objs.size := by rw [gath_new]; exact Nat.le_succ _
    refine wpAny_pure ⟨_, rfl, ?_⟩
    refine ⟨.ref (gath s.heap its).objs.size, upd H (gath s.heap its).objs.size (.lst (out.map backV)), I.laid (t' := s.toks) kp hd ⟨?_, out, n, vals_back h3, hn⟩, rfl, q _ _ ?_ (I.hok.fresh hd)⟩
    · rw [List.length_map, hp.length_eq]
      exact hiz
    · rw [e1]
      exact hp.map backV
def rSortPTW : W → (W → Prop) → Prop := fun w q => match tupW w with
  | some xs => (∀ d ∈ xs, pr1 d = true) ∧ ∀ es : List D, es.Perm xs → q (.new es)
  | none => False
theorem b_sortPT : bi "sorted" (r1 rSortPTW) X := ⟨_, cr_sortedPT, ar1_of fun P Hc H σ δ v w q Q R rv hr post => by
  unfold rSortPTW at hr
  split at hr
  · rename_i xs e
    rw [tupW_inv e] at rv
    have rv : RV X.K Hc v (.tuple xs) := rv
    cases rv with
    | tup h1 hz h2 =>
      refine ⟨_, _, rfl, SqT.of (R.coldH _ _ h1), fun x hx => ?_, fun ys p hp hn => ?_⟩
      · obtain ⟨d, hd, r⟩ := h2.mem hx
        obtain ⟨i, j, rfl⟩ := pr1_inv (hr.1 d hd)
        cases r with
        | tup k1 _ k2 =>
          cases k2 with
          | cons a1 a2 =>
            cases a2 with
            | cons b1 b2 =>
              cases b2
              cases a1
              cases b1
              exact ⟨_, i, j, rfl, R.coldH _ _ k1⟩
      · obtain ⟨es, e1, e2⟩ := RVs.perm hp h2
        exact post.newL R hn e2 (by rw [e1.length_eq]; exact hz) (hr.2 es e1)
  · exact hr.elim⟩
end
end Zl
end
section
set_option maxHeartbeats 1000000
namespace Zl
open PySem PySem.Spec PyProof.Rows L2
/-! ### a dict that is walked: locked meanwhile -/
def swH (F : Hp) (d : Addr) (o : HO) : Hp := fun b => if b = d then (F d).map (fun _ => o) else F b
def Pm.sw (P : Pm) (d : Addr) (o : HO) : Pm := { P with F := swH P.F d o, B := swH P.B d o }
/-- the same dict, locked or not -/
def Tw (o o' : HO) : Prop := ∃ kvs, (o = .dK kvs ∨ ∃ u, o = .frz u (.dK kvs)) ∧ (o' = .dK kvs ∨ ∃ u, o' = .frz u (.dK kvs))
theorem Tw.symm {o o' : HO} : Tw o o' → Tw o' o := fun ⟨kvs, a, b⟩ => ⟨kvs, b, a⟩
theorem Tw.nl {o o' : HO} (t : Tw o o') {xs : List V} (e : o = .lst xs) : False := by
  obtain ⟨kvs, a | ⟨u, a⟩, _⟩ := t <;> rw [a] at e <;> cases e
theorem Tw.nt {o o' : HO} (t : Tw o o') {xs : List V} (e : o = .tup xs) : False := by
  obtain ⟨kvs, a | ⟨u, a⟩, _⟩ := t <;> rw [a] at e <;> cases e
theorem Tw.rd {o o' : HO} (t : Tw o o') {H : Hp} {d : Addr} (hd : H d = some o) {ks : List (Key × V)} (h : Rd H d (.dK ks)) : Rd (upd H d o') d (.dK ks) := by
  obtain ⟨kvs, a, b⟩ := t
  have e : ks = kvs := by
    rcases h with h | ⟨u, h⟩
    · rw [hd] at h
      rcases a with a | ⟨u', a⟩ <;> (rw [a] at h; cases h)
      rfl
    · rw [hd] at h
      rcases a with a | ⟨u', a⟩ <;> (rw [a] at h; cases h)
      rfl
  subst e
  rcases b with b | ⟨u, b⟩
  · exact .inl (by rw [upd_same, b])
  · exact .inr ⟨u, by rw [upd_same, b]⟩
section
variable {K : PySem.W.Frag} {H : Hp} {d : Addr} {o o' : HO}
theorem Tw.lstN (t : Tw o o') (hd : H d = some o) {a : Addr} {xs : List V} (h : H a = some (.lst xs)) : a ≠ d := fun e => by
  rw [e, hd] at h
  cases h
  exact t.nl rfl
theorem Tw.tupN (t : Tw o o') (hd : H d = some o) {a : Addr} {xs : List V} (h : H a = some (.tup xs)) : a ≠ d := fun e => by
  rw [e, hd] at h
  cases h
  exact t.nt rfl
mutual
theorem RV.swp (hd : H d = some o) (t : Tw o o') : ∀ {v : V} {x : D}, RV K H v x → RV K (upd H d o') v x
  | _, _, .non => .non
  | _, _, .bl b => .bl b
  | _, _, .int i => .int i
  | _, _, .str x => .str x
  | _, _, .lst h z r => .lst (by rw [upd_ne (t.lstN hd h)]; exact h) z (RVs.swp hd t r)
  | _, _, .tup h z r => .tup (by rw [upd_ne (t.tupN hd h)]; exact h) z (RVs.swp hd t r)
  | _, _, .dct (a := a) h r => .dct (by
      by_cases e : a = d
      · subst e
        exact t.rd hd h
      · exact h.imp (fun q => by rw [upd_ne e]; exact q) fun ⟨u, q⟩ => ⟨u, by rw [upd_ne e]; exact q⟩) (RVd.swp hd t r)
theorem RVs.swp (hd : H d = some o) (t : Tw o o') : ∀ {v : List V} {x : List D}, RVs K H v x → RVs K (upd H d o') v x
  | _, _, .nil => .nil
  | _, _, .cons h r => .cons (RV.swp hd t h) (RVs.swp hd t r)
theorem RVd.swp (hd : H d = some o) (t : Tw o o') : ∀ {v : List (Key × V)} {x : List (D × D)}, RVd K H v x → RVd K (upd H d o') v x
  | _, _, .nil => .nil
  | _, _, .cons h r => .cons (RV.swp hd t h) (RVd.swp hd t r)
end
theorem RKs.swp (hd : H d = some o) (t : Tw o o') {v : List (Key × V)} {x : List (Key × D)} (h : RKs K H v x) : RKs K (upd H d o') v x :=
  L2.Paired.mapP h fun p q z => ⟨z.1, z.2.swp hd t⟩
end
section
variable {K : PySem.W.Frag} {P : Pm} {Hc H : Hp} {σ : L2.St} {δ : List Sl} {d : Addr} {o o' : HO}
theorem swH_none {F : Hp} {a : Addr} (h : F a = none) : swH F d o' a = none := by
  unfold swH
  by_cases e : a = d
  · subst e
    rw [if_pos rfl, h]
    rfl
  · rw [if_neg e]
    exact h
theorem swH_some {F : Hp} {a : Addr} {u : HO} (h : swH F d o' a = some u) : (a = d ∧ u = o' ∧ ∃ x, F d = some x) ∨ (a ≠ d ∧ F a = some u) := by
  unfold swH at h
  by_cases e : a = d
  · rw [if_pos e] at h
    cases q : F d with
    | none => rw [q] at h; cases h
    | some x =>
      rw [q] at h
      cases h
      exact .inl ⟨e, rfl, x, rfl⟩
  · rw [if_neg e] at h
    exact .inr ⟨e, h⟩
theorem RSl.swp {x : Option (Option V)} {s : Sl} (h : RSl K P Hc H x s) (hd : Hc d = some o) (hd2 : H d = some o) (t : Tw o o') : RSl K (P.sw d o') (upd Hc d o') (upd H d o') x s := by
  cases s with
  | un => trivial
  | w y =>
    cases y with
    | d y => obtain ⟨v, h1, h2⟩ := h; exact ⟨v, h1, h2.swp hd t⟩
    | bag => exact h
    | op v => exact h
    | hot xs => exact h
    | hotd xs => exact h
    | new xs => exact h
    | newd xs => exact h
    | brw xs => exact h
  | hl xs =>
    obtain ⟨a, h1, h2, vs, h3, h4, h5, h6, h7⟩ := h
    have ne : a ≠ d := t.lstN hd2 h3
    exact ⟨a, h1, by rw [upd_ne ne]; exact h2, vs, by rw [upd_ne ne]; exact h3, swH_none h4, h5, h6.swp hd t, h7⟩
  | hd xs =>
    obtain ⟨a, h1, h2, vs, h3, h4, h5, h6⟩ := h
    have ne : a ≠ d := fun e => by rw [e, hd] at h2; cases h2
    exact ⟨a, h1, by rw [upd_ne ne]; exact h2, vs, by rw [upd_ne ne]; exact h3, swH_none h4, h5, h6.swp hd t⟩
theorem RW.swp (R : RW K P Hc H σ δ) (hd : Hc d = some o) (t : Tw o o') : RW K (P.sw d o') (upd Hc d o') (upd H d o') σ δ := by
  have hd2 : H d = some o := R.coldH d o hd
  have hg : P.g ≠ some d := (nb_some (R.cold d o hd)).1
  have nbw : ∀ {F : Hp}, Le F (nb P.g H) → Le (swH F d o') (nb P.g (upd H d o')) := fun {F} l b u e => by
    rcases swH_some e with ⟨rfl, rfl, x, hx⟩ | ⟨ne, e⟩
    · exact nb_of hg upd_same
    · obtain ⟨z1, z2⟩ := nb_some (l b u e)
      exact nb_of z1 (by rw [upd_ne ne]; exact z2)
  refine ⟨fun b u e => ?_, fun b u e => ?_, fun b u e => ?_, fun b u e => ?_, fun a ha => ?_, R.len, fun i s e => (R.sl i s e).swp hd hd2 t, R.apart, fun p hp => ⟨(R.gst p hp).1.swp hd hd2 t, (R.gst p hp).2⟩⟩
  · rcases swH_some e with ⟨rfl, rfl, x, hx⟩ | ⟨ne, e⟩
    · exact upd_same
    · rw [upd_ne ne]
      exact R.base b u e
  · by_cases ne : b = d
    · subst ne
      rw [upd_same] at e
      cases e
      rcases R.fresh b o hd with z | z
      · left
        show swH P.B b o' b = some o'
        unfold swH
        rw [if_pos rfl, z]
        rfl
      · exact .inr (swH_none z)
    · rw [upd_ne ne] at e
      rcases R.fresh b u e with z | z
      · left
        show swH P.B d o' b = some u
        unfold swH
        rw [if_neg ne]
        exact z
      · exact .inr (swH_none z)
  · by_cases ne : b = d
    · subst ne
      rw [upd_same] at e
      cases e
      exact nb_of hg upd_same
    · rw [upd_ne ne] at e
      obtain ⟨z1, z2⟩ := nb_some (R.cold b u e)
      exact nb_of z1 (by rw [upd_ne ne]; exact z2)
  · obtain ⟨y1, y2⟩ := nb_some e
    rcases swH_some y2 with ⟨rfl, rfl, x, hx⟩ | ⟨ne, y2⟩
    · exact nb_of hg upd_same
    · obtain ⟨z1, z2⟩ := nb_some (R.old b u (nb_of y1 y2))
      exact nb_of z1 (by rw [upd_ne ne]; exact z2)
  · obtain ⟨⟨b0, b1, b2, cs, e1, e2, e3⟩, u, hu⟩ := R.bag a ha
    have n1 : a ≠ d := t.lstN hd2 e1
    have n2 : P.r ≠ d := t.lstN hd2 e2
    exact ⟨⟨b0, b1, b2, cs, by rw [upd_ne n1]; exact e1, by show upd H d o' P.r = _; rw [upd_ne n2]; exact e2, e3⟩, u, by show upd Hc d o' P.r = _; rw [upd_ne n2]; exact hu⟩
theorem swH_back {F : Hp} (h : ∀ x, F d = some x → x = o) : swH (swH F d o') d o = F := by
  funext b
  unfold swH
  by_cases e : b = d
  · subst e
    rw [if_pos rfl, if_pos rfl]
    cases q : F b with
    | none => rfl
    | some x => rw [h x q]; rfl
  · rw [if_neg e, if_neg e]
theorem RW.sw_back (R : RW K P Hc H σ δ) (hd : Hc d = some o) : (P.sw d o').sw d o = P := by
  have hd2 : H d = some o := R.coldH d o hd
  have hg : P.g ≠ some d := (nb_some (R.cold d o hd)).1
  have h1 : swH (swH P.F d o') d o = P.F := swH_back fun x hx => by
    have z := (nb_some (R.old d x (nb_of hg hx))).2
    rw [hd2] at z
    cases z
    rfl
  have h2 : swH (swH P.B d o') d o = P.B := swH_back fun x hx => by
    have z := R.base d x hx
    rw [hd] at z
    cases z
    rfl
  show Pm.mk (swH (swH P.F d o') d o) (swH (swH P.B d o') d o) P.g P.r P.gh = P
  rw [h1, h2]
/-- unlocked again -/
theorem RW.back {Hc2 H2 : Hp} {σ2 : L2.St} {δ2 : List Sl} (R : RW K P Hc H σ δ) (hd : Hc d = some o) (t : Tw o o') (l : Le (upd Hc d o') Hc2) (R2 : RW K (P.sw d o') Hc2 H2 σ2 δ2) :
    H2 d = some o' ∧ Le Hc (upd Hc2 d o) ∧ RW K P (upd Hc2 d o) (upd H2 d o) σ2 δ2 := by
  have h2 : Hc2 d = some o' := l d o' upd_same
  refine ⟨R2.coldH d o' h2, fun b u e => ?_, ?_⟩
  · by_cases ne : b = d
    · subst ne
      rw [hd] at e
      cases e
      exact upd_same
    · rw [upd_ne ne]
      exact l b u (by rw [upd_ne ne]; exact e)
  · have z := R2.swp h2 t.symm
    rw [R.sw_back hd] at z
    exact z
theorem RVw.back {Hc2 H2 : Hp} {σ2 : L2.St} {δ2 : List Sl} {v : V} {w : W} {od : Obj} {kvs : List (Key × V)} (R : RW K P Hc H σ δ) (hd : Hc d = some o) (t : Tw o (.frz od (.dK kvs))) (h2 : Hc2 d = some (.frz od (.dK kvs))) (h3 : H2 d = some (.frz od (.dK kvs)))
    (r : RVw K (P.sw d (.frz od (.dK kvs))) Hc2 H2 σ2 δ2 v w) : RVw K P (upd Hc2 d o) (upd H2 d o) σ2 δ2 v w := by
  have t2 := t.symm
  have hF : ∀ {a : Addr}, (P.sw d (.frz od (.dK kvs))).F a = none → P.F a = none := fun {a} h => by
    have h : swH P.F d _ a = none := h
    unfold swH at h
    by_cases e : a = d
    · subst e
      rw [if_pos rfl] at h
      cases q : P.F a with
      | none => rfl
      | some x => rw [q] at h; cases h
    · rw [if_neg e] at h
      exact h
  cases w with
  | d x => exact RV.swp h2 t2 r
  | bag => exact r
  | op u => exact r
  | hot xs =>
    obtain ⟨a, e, vs, z1, z2, z3, z4, z5⟩ := r
    exact ⟨a, e, vs, by rw [upd_ne (t2.lstN h3 z1)]; exact z1, hF z2, z3, z4.swp h2 t2, z5⟩
  | hotd xs =>
    obtain ⟨a, e, vs, z1, z2, z3, z4⟩ := r
    have ne : a ≠ d := fun q => by rw [q, h3] at z1; cases z1
    exact ⟨a, e, vs, by rw [upd_ne ne]; exact z1, hF z2, z3, z4.swp h2 t2⟩
  | new xs =>
    obtain ⟨a, e, z0, ⟨vs, z1, z2, z3, z4, z5⟩, ap⟩ := r
    have ne : a ≠ d := t2.lstN h3 z1
    exact ⟨a, e, by rw [upd_ne ne]; exact z0, ⟨vs, by rw [upd_ne ne]; exact z1, hF z2, z3, z4.swp h2 t2, z5⟩, ap⟩
  | newd xs =>
    obtain ⟨a, e, z0, ⟨vs, z1, z2, z3, z4⟩, ap⟩ := r
    have ne : a ≠ d := fun q => by rw [q, h3] at z1; cases z1
    exact ⟨a, e, by rw [upd_ne ne]; exact z0, ⟨vs, by rw [upd_ne ne]; exact z1, hF z2, z3, z4.swp h2 t2⟩, ap⟩
  | brw x =>
    have hg : P.g ≠ some d := (nb_some (R.cold d o hd)).1
    have r : RV K (allH (P.sw d (.frz od (.dK kvs))) Hc2 H2) v x := r
    have hA : allH (P.sw d (.frz od (.dK kvs))) Hc2 H2 d = some (.frz od (.dK kvs)) := by
      unfold allH
      rw [if_pos (.inl (by rw [h2]; rfl))]
      exact nb_of hg h3
    have e : upd (allH (P.sw d (.frz od (.dK kvs))) Hc2 H2) d o = allH P (upd Hc2 d o) (upd H2 d o) := by
      funext b
      by_cases ne : b = d
      · subst ne
        rw [upd_same]
        unfold allH
        rw [if_pos (.inl (by rw [upd_same]; rfl))]
        exact (nb_of hg upd_same).symm
      · rw [upd_ne ne]
        unfold allH
        have e1 : upd Hc2 d o b = Hc2 b := upd_ne ne
        have e2 : nb P.g (upd H2 d o) b = nb P.g H2 b := by
          unfold nb
          rw [upd_ne ne]
        have e3 : (P.sw d (.frz od (.dK kvs))).F b = P.F b := by
          show swH P.F d _ b = _
          unfold swH
          rw [if_neg ne]
        rw [e1, e2, e3]
        rfl
    show RV K _ v x
    rw [← e]
    exact r.swp hA t2
/-- the ends of what runs while it is locked -/
theorem EOk.lock {N : Ez} {E : Ends} {kvs : List (Key × V)} {od : Obj} (R : RW K P Hc H σ δ) (hd : Hc d = some (.dK kvs)) (h : EOk K P Hc N E) :
    EOk K (P.sw d (.frz od (.dK kvs))) (upd Hc d (.frz od (.dK kvs))) N ⟨fun σ' H' => H' d = some (.frz od (.dK kvs)) ∧ E.nx σ' (upd H' d (.dK kvs)), fun v H' => H' d = some (.frz od (.dK kvs)) ∧ E.rt v (upd H' d (.dK kvs)), fun σ' H' => H' d = some (.frz od (.dK kvs)) ∧ E.bk σ' (upd H' d (.dK kvs)), fun σ' H' => H' d = some (.frz od (.dK kvs)) ∧ E.ct σ' (upd H' d (.dK kvs))⟩ := by
  have t : Tw (.dK kvs) (.frz od (.dK kvs)) := ⟨kvs, .inl rfl, .inr ⟨od, rfl⟩⟩
  refine ⟨fun Hc' H' σ' δ' l R' n => ?_, fun Hc' H' σ' δ' v w l R' rv n => ?_, fun Hc' H' σ' δ' l R' n => ?_, fun Hc' H' σ' δ' l R' n => ?_⟩
  · obtain ⟨a, b, c⟩ := R.back hd t l R'
    exact ⟨a, h.nx _ _ _ _ b c n⟩
  · obtain ⟨a, b, c⟩ := R.back hd t l R'
    exact ⟨a, h.rt _ _ _ _ _ _ b c (rv.back R hd t (l d _ upd_same) a) n⟩
  · obtain ⟨a, b, c⟩ := R.back hd t l R'
    exact ⟨a, h.bk _ _ _ _ b c n⟩
  · obtain ⟨a, b, c⟩ := R.back hd t l R'
    exact ⟨a, h.ct _ _ _ _ b c n⟩
theorem Post.lock {q : W → Prop} {Q : VK} {kvs : List (Key × V)} {od : Obj} (R : RW K P Hc H σ δ) (hd : Hc d = some (.dK kvs)) (h : Post K P Hc H σ δ q Q) :
    Post K (P.sw d (.frz od (.dK kvs))) (upd Hc d (.frz od (.dK kvs))) (upd H d (.frz od (.dK kvs))) σ δ q fun v H' => H' d = some (.frz od (.dK kvs)) ∧ Q v (upd H' d (.dK kvs)) := by
  have t : Tw (.dK kvs) (.frz od (.dK kvs)) := ⟨kvs, .inl rfl, .inr ⟨od, rfl⟩⟩
  intro Hc' H' v w l f R' rv hq
  obtain ⟨a, b, c⟩ := R.back hd t l R'
  refine ⟨a, h _ _ v w b (fun x u e => ?_) c (rv.back R hd t (l d _ upd_same) a) hq⟩
  obtain ⟨e1, e2⟩ := nb_some e
  by_cases ne : x = d
  · subst ne
    rw [R.coldH _ _ hd] at e2
    cases e2
    exact nb_of e1 upd_same
  · obtain ⟨z1, z2⟩ := nb_some (f x u (nb_of e1 (by rw [upd_ne ne]; exact e2)))
    exact nb_of z1 (by rw [upd_ne ne]; exact z2)
end
/-! ### what is walked: keys, pairs -/
def keysD (ys : List (D × D)) : List D := ys.map (·.1)
def itemsD (ys : List (D × D)) : List D := ys.map fun p => .tuple [p.1, p.2]
def valsD (ys : List (D × D)) : List D := ys.map (·.2)
theorem RVd.at {K : PySem.W.Frag} {H : Hp} : ∀ {v : List (Key × V)} {x : List (D × D)} {i : Nat} {k : Key} {u : V}, RVd K H v x → v[i]? = some (k, u) → ∃ y, x[i]? = some (keyD k, y) ∧ RV K H u y
  | _, _, _, _, _, .nil, e => by simp at e
  | _, _, 0, _, _, .cons h t, e => by
    cases e
    exact ⟨_, rfl, h⟩
  | _, _, i + 1, k, u, .cons h t, e => RVd.at (i := i) t (by simpa using e)
theorem rv_key {K : PySem.W.Frag} {H : Hp} (k : Key) : RV K H (kV k) (keyD k) := by
  cases k with
  | inl i => exact .int i
  | inr x => exact .str x
section
variable {K : PySem.W.Frag} {P : Pm} {Hc : Hp} {d : Addr} {od : Obj} {kvs : List (Key × V)} {ys : List (D × D)}
theorem Wk.keys (h : Hc d = some (.frz od (.dK kvs))) (r : RVd K Hc kvs ys) (hz : kvs.length ≤ sizeLine) : Wk K P Hc (Itk d od kvs) (keysD ys) := by
  have hl : (keysD ys).length = kvs.length := by unfold keysD; rw [List.length_map, r.len]
  refine ⟨fun i l Hc' H σ δ le R hi => ⟨R.coldH _ _ (le _ _ h), by omega⟩, by omega, fun l Hc' H σ δ le R => ⟨R.coldH _ _ (le _ _ h), by omega⟩, fun i l Hc' H σ δ x H' e le R he y => ?_⟩
  obtain ⟨rfl, k, v, hk, rfl⟩ := y
  obtain ⟨y, hy, _⟩ := r.at hk
  have : (keysD ys)[i]? = some (keyD k) := by unfold keysD; rw [List.getElem?_map, hy]; rfl
  rw [this] at he
  cases he
  exact ⟨Hc', Le.refl _, Le.refl _, R, rv_key k⟩
theorem Wk.vals (h : Hc d = some (.frz od (.dK kvs))) (r : RVd K Hc kvs ys) (hz : kvs.length ≤ sizeLine) : Wk K P Hc (Itd d od kvs) (valsD ys) := by
  have hl : (valsD ys).length = kvs.length := by unfold valsD; rw [List.length_map, r.len]
  refine ⟨fun i l Hc' H σ δ le R hi => ⟨R.coldH _ _ (le _ _ h), by omega⟩, by omega, fun l Hc' H σ δ le R => ⟨R.coldH _ _ (le _ _ h), by omega⟩, fun i l Hc' H σ δ x H' e le R he y => ?_⟩
  obtain ⟨rfl, k, hk⟩ := y
  obtain ⟨y, hy, ry⟩ := r.at hk
  have : (valsD ys)[i]? = some y := by unfold valsD; rw [List.getElem?_map, hy]; rfl
  rw [this] at he
  cases he
  exact ⟨Hc', Le.refl _, Le.refl _, R, ry.mono le⟩
theorem Wk.items (h : Hc d = some (.frz od (.dK kvs))) (r : RVd K Hc kvs ys) (hz : kvs.length ≤ sizeLine) : Wk K P Hc (Iti d od kvs) (itemsD ys) := by
  have hl : (itemsD ys).length = kvs.length := by unfold itemsD; rw [List.length_map, r.len]
  refine ⟨fun i l Hc' H σ δ le R hi => ⟨R.coldH _ _ (le _ _ h), by omega⟩, by omega, fun l Hc' H σ δ le R => ⟨R.coldH _ _ (le _ _ h), by omega⟩, fun i l Hc' H σ δ x H' e le R he y => ?_⟩
  obtain ⟨T, k, v, hk, rfl, hT, rfl⟩ := y
  obtain ⟨y, hy, ry⟩ := r.at hk
  have : (itemsD ys)[i]? = some (.tuple [keyD k, y]) := by unfold itemsD; rw [List.getElem?_map, hy]; rfl
  rw [this] at he
  cases he
  have ln : Le Hc' (upd Hc' T (.tup [kV k, v])) := le_new (R.free hT).1
  exact ⟨upd Hc' T (.tup [kV k, v]), ln, nb_new hT, R.newC hT, RV.tup upd_same (by show 2 ≤ sizeLine; decide) (.cons (rv_key k) (.one (ry.mono (le.trans ln))))⟩
end
/-- how a dict is walked -/
inductive Wy where
  | keys | vals | items
def Wy.ds : Wy → List (D × D) → List D
  | .keys => keysD
  | .vals => valsD
  | .items => itemsD
def Wy.ti : Wy → TE → TI
  | .keys => iKeys
  | .vals => iVals
  | .items => iItems
def Wy.it : Wy → Addr → Obj → List (Key × V) → It
  | .keys => Itk
  | .vals => Itd
  | .items => Iti
theorem Wy.reads {y : Wy} {td : TE} {σ : L2.St} {H : Hp} {R : It → Hp → Prop} {d : Addr} {od : Obj} {kvs : List (Key × V)} (h : td σ H fun x H1 => x = .ref d ∧ H1 d = some (.frz od (.dK kvs)) ∧ R (y.it d od kvs) H1) (hm : ∀ {Q Q' : VK}, (∀ x H1, Q x H1 → Q' x H1) → td σ H Q → td σ H Q') : y.ti td σ H R := by
  cases y with
  | keys => exact hm (fun x H1 ⟨a, b, c⟩ => ⟨d, od, a, .inl ⟨kvs, b, c⟩⟩) h
  | vals => exact hm (fun x H1 ⟨a, b, c⟩ => ⟨d, od, kvs, a, b, c⟩) h
  | items => exact hm (fun x H1 ⟨a, b, c⟩ => ⟨d, od, kvs, a, b, c⟩) h
theorem Wk.wy {K : PySem.W.Frag} {P : Pm} {Hc : Hp} {d : Addr} {od : Obj} {kvs : List (Key × V)} {ys : List (D × D)} (y : Wy) (h : Hc d = some (.frz od (.dK kvs))) (r : RVd K Hc kvs ys) (hz : kvs.length ≤ sizeLine) : Wk K P Hc (y.it d od kvs) (y.ds ys) := by
  cases y with
  | keys => exact Wk.keys h r hz
  | vals => exact Wk.vals h r hz
  | items => exact Wk.items h r hz
/-- a loop, told from the walked thing on -/
theorem for_in {K : PySem.W.Frag} {P : Pm} {Hc Hc' H' : Hp} {σ : L2.St} {δ : List Sl} {N : Ez} {Dn : Ends} {g : TGz} {tb : TZ} {ds : List D} {J : It} (E : EOk K P Hc N Dn) (l : Le Hc Hc') (R' : RW K P Hc' H' σ δ) (wk : Wk K P Hc' J ds) (hq : zLoop g tb N ds δ) :
    ∃ Z : Nat → Nat → L2.St → Hp → Prop, (∃ m, Z 0 m σ H') ∧ ∀ i m σ H, Z i m σ H →
      (J.stop i H ∧ Dn.nx σ H) ∨ (J.go i H ∧ ∃ M : L2.St → Hp → Prop, (∀ σ' H', M σ' H' → ∃ m', m' < m ∧ Z (i + 1) m' σ' H') ∧ ∀ x H', J.yld i H x H' → lftG K g x σ H' fun σ2 H2 => lftS K tb { Dn with nx := M, ct := M, bk := Dn.nx } σ2 H2) := by
  refine ⟨fun i m σ H => ∃ Hc2 δ2, Le Hc' Hc2 ∧ RW K P Hc2 H σ δ2 ∧ m = ds.length - i ∧ i ≤ ds.length ∧ zLoop g tb N (ds.drop i) δ2, ⟨ds.length, Hc', δ, Le.refl _, R', by omega, Nat.zero_le _, hq⟩, ?_⟩
  rintro i m σ2 H2 ⟨Hc2, δ2, l2, R2, rfl, hi, hz⟩
  by_cases hlt : i < ds.length
  · refine .inr ⟨wk.goes i P Hc2 H2 σ2 δ2 l2 R2 hlt, fun σ3 H3 => ∃ Hc3 δ3, Le Hc' Hc3 ∧ RW K P Hc3 H3 σ3 δ3 ∧ zLoop g tb N (ds.drop (i + 1)) δ3, ?_, ?_⟩
    · rintro σ3 H3 ⟨Hc3, δ3, l3, R3, h3⟩
      exact ⟨ds.length - (i + 1), by omega, Hc3, δ3, l3, R3, rfl, hlt, h3⟩
    · intro x H3 y
      have e : ds[i]? = some ds[i] := by simp [hlt]
      obtain ⟨Hc3, l3, f3, R3, rv⟩ := wk.yields i P Hc2 H2 σ2 δ2 x H3 _ l2 R2 e y
      have hz : zLoop g tb N (ds[i] :: ds.drop (i + 1)) δ2 := by
        rw [List.drop_eq_getElem_cons hlt] at hz
        exact hz
      refine ⟨P, Hc3, δ2, .d ds[i], _, R3, rv, hz, fun Hc4 H4 σ4 δ4 l4 R4 h4 => ?_⟩
      refine ⟨P, Hc4, δ4, _, R4, h4, ?_, ?_, ?_, ?_⟩
      · exact fun Hc5 H5 σ5 δ5 l5 R5 h5 => ⟨Hc5, δ5, ((l2.trans l3).trans l4).trans l5, R5, h5⟩
      · exact fun Hc5 H5 σ5 δ5 v w l5 R5 rv5 h5 => E.rt Hc5 H5 σ5 δ5 v w ((((l.trans l2).trans l3).trans l4).trans l5) R5 rv5 h5
      · exact fun Hc5 H5 σ5 δ5 l5 R5 h5 => E.nx Hc5 H5 σ5 δ5 ((((l.trans l2).trans l3).trans l4).trans l5) R5 h5
      · exact fun Hc5 H5 σ5 δ5 l5 R5 h5 => ⟨Hc5, δ5, ((l2.trans l3).trans l4).trans l5, R5, h5⟩
  · have ei : i = ds.length := by omega
    subst ei
    rw [List.drop_length] at hz
    exact .inl ⟨wk.stops P Hc2 H2 σ2 δ2 l2 R2, E.nx Hc2 H2 σ2 δ2 (l.trans l2) R2 hz⟩
/-- the dict in slot i, walked -/
def iDct (i : Nat) (y : Wy) : TIz := fun δ q => match δ[i]? with
  | some (.w (.d (.dict ys))) => q (y.ds ys)
  | _ => False
/-- for .. in d, d.items() -/
theorem zs_forD {X : Cx} {tg it : Expr} {body : List Stmt} {pos : Pos} (i : Nat) (y : Wy) {g : TGz} {tb : TZ} (hp : PassesOwn (model X.prog X.w) X.A X.env X.xe) (hc : X.calm = true) (hi : PI X tg it (y.ti (tVar i))) (hg : ZG X tg g) (hb : ZB X body tb)
    (hs : ∀ x, foldedSetIterable it X.env x = pure x := by intro _; rfl) : ZS X (.For tg it body [] pos) (zFor (iDct i y) g tb) := by
  have base := ps_for (pos := pos) hp hc hi hg hb hs
  refine ⟨fun pins s σ H Dn I z => ?_⟩
  obtain ⟨P, Hc, δ, N, R, h, E⟩ := z
  have h : iDct i y δ fun ds => zLoop g tb N ds δ := h
  unfold iDct at h
  split at h
  · rename_i ys e
    obtain ⟨v, hv, rv⟩ := R.sl i _ e
    cases rv with
    | dct rd r =>
      rename_i d kvs
      have hz := (dk_rd I.hok (rd_le R.coldH rd)).1
      rcases rd with hd | ⟨od, hd⟩
      · refine (ps_lock base).run pins s σ H Dn I ⟨d, .dK kvs, R.coldH _ _ hd, trivial, fun od => ?_⟩
        have t : Tw (.dK kvs) (.frz od (.dK kvs)) := ⟨kvs, .inl rfl, .inr ⟨od, rfl⟩⟩
        refine Wy.reads (d := d) (od := od) (kvs := kvs) ⟨.ref d, hv, rfl, upd_same, ?_⟩ (fun hq ⟨v, a, b⟩ => ⟨v, a, hq _ _ b⟩)
        exact for_in (E.lock R hd) (Le.refl _) (R.swp hd t) (Wk.wy y upd_same (r.swp hd t) hz) h
      · refine base.run pins s σ H Dn I ?_
        refine Wy.reads (d := d) (od := od) (kvs := kvs) ⟨.ref d, hv, rfl, R.coldH _ _ hd, ?_⟩ (fun hq ⟨v, a, b⟩ => ⟨v, a, hq _ _ b⟩)
        exact for_in E (Le.refl _) R (Wk.wy y hd r hz) h
  · exact h.elim
end Zl
end
section
set_option maxHeartbeats 1000000
namespace Zl
open PySem PySem.Spec PyProof.Rows L2
/-! ### comprehensions over dicts, and that give dicts -/
theorem lc_in {K : PySem.W.Frag} {P : Pm} {Hc Hc1 H H1 : Hp} {σ : L2.St} {δ : List Sl} {q : W → Prop} {Q : VK} {J : It} {ds : List D} {g : TG} {gz : TGz} {tt : TT} {ttz : TPt} {te : TP} {vs : List Nat} (hg : GRel K vs g gz) (ht : ∀ σ H Q, lftT K ttz σ H Q → tt σ H Q)
    (post : Post K P Hc H σ δ q Q) (hcold : coldAll δ vs = true) (l1 : Le Hc Hc1) (f1 : Le (nb P.g H) (nb P.g H1)) (R1 : RW K P Hc1 H1 σ δ) (wk : Wk K P Hc1 J ds) (hq : zComp gz ttz te q (wipeZ δ vs) ds []) (Dn : Addr) (hD : H1 Dn = none) :
    ∃ Z : Nat → Nat → Hp → Prop, (∃ m, Z 0 m (upd H1 Dn (.lst []))) ∧ ∀ i m H, Z i m H →
      (J.stop i H ∧ Q (.ref Dn) H) ∨ (J.go i H ∧ ∃ Nx : Hp → Prop, (∀ H', Nx H' → ∃ m', m' < m ∧ Z (i + 1) m' H') ∧ ∀ x H', J.yld i H x H' → g x (L2.wipe σ vs) H' fun σ2 H2 => L2.wipe σ2 vs = L2.wipe σ vs ∧ tt σ2 H2 fun b H3 =>
        if b = true then lft K te σ2 H3 fun y H4 => ∃ acc, H4 Dn = some (.lst acc) ∧ acc.length < sizeLine ∧ Nx (upd H4 Dn (.lst (acc ++ [y]))) else Nx H3) := by
  have free := R1.free hD
  have ap := R1.new_apart hD
  refine ⟨fun i m H => ∃ Hc2 acc accV, Le Hc1 Hc2 ∧ Le (nb P.g H1) (nb P.g H) ∧ RW K (P.add [(Dn, .hl acc)]) Hc2 H (L2.wipe σ vs) (wipeZ δ vs) ∧ H Dn = some (.lst accV) ∧ RVs K Hc2 accV acc ∧ acc.length ≤ i ∧ m = ds.length - i ∧ i ≤ ds.length ∧ zComp gz ttz te q (wipeZ δ vs) (ds.drop i) acc, ⟨ds.length, Hc1, [], [], Le.refl _, nb_new hD, ?_, upd_same, .nil, Nat.le_refl _, by omega, Nat.zero_le _, hq⟩, ?_⟩
  · exact (R1.wipe vs).ghost hD .nil (Nat.zero_le _)
  rintro i m H2 ⟨Hc2, acc, accV, l2, f2, R2, hDn, hacc, hle, rfl, hi, hz⟩
  have lim := wk.lim
  by_cases hlt : i < ds.length
  · refine .inr ⟨wk.goes i (P.add [(Dn, .hl acc)]) Hc2 H2 _ _ l2 R2 hlt, fun H => ∃ Hc2 acc accV, Le Hc1 Hc2 ∧ Le (nb P.g H1) (nb P.g H) ∧ RW K (P.add [(Dn, .hl acc)]) Hc2 H (L2.wipe σ vs) (wipeZ δ vs) ∧ H Dn = some (.lst accV) ∧ RVs K Hc2 accV acc ∧ acc.length ≤ i + 1 ∧ zComp gz ttz te q (wipeZ δ vs) (ds.drop (i + 1)) acc, ?_, ?_⟩
    · rintro H3 ⟨Hc3, acc3, accV3, l3, f3, R3, a3, b3, c3, z3⟩
      exact ⟨ds.length - (i + 1), by omega, Hc3, acc3, accV3, l3, f3, R3, a3, b3, c3, rfl, hlt, z3⟩
    · intro x H3 y
      have e : ds[i]? = some ds[i] := by simp [hlt]
      obtain ⟨Hc3, l3, f3, R3, rv⟩ := wk.yields i (P.add [(Dn, .hl acc)]) Hc2 H2 _ _ x H3 _ l2 R2 e y
      have hz : zComp gz ttz te q (wipeZ δ vs) (ds[i] :: ds.drop (i + 1)) acc := by
        rw [List.drop_eq_getElem_cons hlt] at hz
        exact hz
      have f3 : Le (nb P.g H2) (nb P.g H3) := f3
      refine hg (P.add [(Dn, .hl acc)]) Hc3 H3 _ _ x (.d ds[i]) _ _ R3 rv hz fun σ4 δ4 e4 ez4 R4 hq4 => ⟨by rw [e4]; exact wipe_wipe vs σ, ht _ _ _ ⟨P.add [(Dn, .hl acc)], Hc3, δ4, _, R4, hq4, fun Hc5 H5 k l5 f5 R5 hq5 => ?_⟩⟩
      have f5 : Le (nb P.g H3) (nb P.g H5) := f5
      -- back to the slots as they were
      have back : ∀ {Hc6 H6}, RW K (P.add [(Dn, .hl acc)]) Hc6 H6 σ4 δ4 → RW K (P.add [(Dn, .hl acc)]) Hc6 H6 (L2.wipe σ vs) (wipeZ δ vs) := fun {Hc6 H6} R6 => by
        have z := R6.wipe vs
        rw [e4, ez4, wipe_wipe, wipeZ_wipe] at z
        exact z
      have here : ∀ {Hc6 H6}, RW K (P.add [(Dn, .hl acc)]) Hc6 H6 σ4 δ4 → ∃ us, H6 Dn = some (.lst us) ∧ RVs K Hc6 us acc := fun {Hc6 H6} R6 => by
        obtain ⟨⟨b, eb, _, us, h1, _, _, h2, _⟩, _, _⟩ := R6.gst (Dn, .hl acc) List.mem_cons_self
        cases eb
        exact ⟨us, h1, h2⟩
      cases k with
      | false =>
        obtain ⟨us, h1, h2⟩ := here R5
        exact ⟨Hc5, acc, us, ((l2.trans l3).trans l5), ((f2.trans f3).trans f5), back R5, h1, h2, by omega, hq5⟩
      | true =>
        refine ⟨P.add [(Dn, .hl acc)], Hc5, δ4, _, R5, hq5, fun Hc6 H6 v w l6 f6 R6 rv6 hq6 => ?_⟩
        have f6 : Le (nb P.g H5) (nb P.g H6) := f6
        obtain ⟨us, h1, h2⟩ := here R6
        cases w with
        | d y =>
          have hus := h2.len
          have ng : ∀ q ∈ P.gh, q.1 ≠ Dn := ap.2
          have r2 : RVs K Hc6 (us ++ [v]) (acc ++ [y]) := h2.append (.one rv6)
          have hl2 : (acc ++ [y]).length ≤ sizeLine := by
            rw [List.length_append]
            show acc.length + 1 ≤ _
            omega
          refine ⟨us, h1, by omega, Hc6, acc ++ [y], us ++ [v], ((l2.trans l3).trans l5).trans l6, ?_, (back R6).ghostPut r2 hl2 ng, upd_same, r2, ?_, hq6⟩
          · intro b o eb
            have zz := ((f2.trans f3).trans f5).trans f6 b o eb
            obtain ⟨n1, n2⟩ := nb_some zz
            refine nb_of n1 ?_
            rw [upd_ne (fun z => ?_)]
            · exact n2
            · rw [z] at eb
              have := (nb_some eb).2
              rw [hD] at this
              cases this
          · rw [List.length_append]
            show acc.length + 1 ≤ _
            omega
        | _ => exact hq6.elim
  · have ei : i = ds.length := by omega
    subst ei
    rw [List.drop_length] at hz
    refine .inl ⟨wk.stops (P.add [(Dn, .hl acc)]) Hc2 H2 _ _ l2 R2, ?_⟩
    have R5 : RW K P Hc2 H2 σ δ := R1.unwipe R2.drop l2 f2 hcold
    obtain ⟨⟨b, eb, hc, us, h1, hF, hg', h2⟩, _, h3⟩ := R2.gst (Dn, .hl acc) List.mem_cons_self
    cases eb
    exact post Hc2 H2 _ (.new acc) (l1.trans l2) (f1.trans f2) R5 ⟨Dn, rfl, hc, ⟨us, h1, hF, hg', h2⟩, ap.1, ap.2⟩ hz
section
variable {K : PySem.W.Frag} {P : Pm} {Hc H Hc' H' : Hp} {σ : L2.St} {δ : List Sl}
theorem RW.ghostD {a : Addr} {vs : List (Key × V)} {ds : List (Key × D)} (R : RW K P Hc H σ δ) (h : H a = none) (r : RKs K Hc vs ds) : RW K (P.add [(a, .hd ds)]) Hc (upd H a (.dK vs)) σ δ :=
  (R.newO h).hold (v := .ref a) (w := .newd ds) (R.hotNewD h r)
theorem RW.ghostPutD {a : Addr} {ws : List (Key × V)} {ds es : List (Key × D)} (R : RW K (P.add [(a, .hd ds)]) Hc H σ δ) (r : RKs K Hc ws es) (ng : ∀ q ∈ P.gh, q.1 ≠ a) : RW K (P.add [(a, .hd es)]) Hc (upd H a (.dK ws)) σ δ := by
  obtain ⟨⟨b, eb, hc, us, h1, hF, hg, h2⟩, _, h3⟩ := R.gst (a, .hd ds) List.mem_cons_self
  cases eb
  have nbu : ∀ b u, b ≠ a → nb P.g H b = some u → nb P.g (upd H a (.dK ws)) b = some u := fun b u hb e => by
    obtain ⟨e1, e2⟩ := nb_some e
    exact nb_of e1 (by rw [upd_ne hb]; exact e2)
  refine ⟨R.base, R.fresh, fun b u e => nbu b u (fun z => by rw [z, hc] at e; cases e) (R.cold b u e), fun b u e => nbu b u (fun z => by
    rw [z] at e
    have q := (nb_some e).2
    have hF : P.F a = none := hF
    have q : P.F a = some u := q
    rw [hF] at q
    cases q) (R.old b u e), fun g' hg' => ?_, R.len, fun j u e => ?_, R.apart, fun q hq => ?_⟩
  · obtain ⟨hb, u, hu⟩ := R.bag g' hg'
    refine ⟨hb.grow (fun o' h' => ?_) (fun o' h' => ?_), u, hu⟩
    · rw [upd_ne (fun z => by rw [z] at hg'; exact hg hg')]
      exact h'
    · rw [upd_ne (fun z => by rw [z, hc] at hu; cases hu)]
      exact h'
  · have z := R.sl j u e
    have ap : ∀ b, u.hot = true → σ[j]? = some (some (.ref b)) → b ≠ a := fun b hu eb eq => h3 j ⟨u, e, hu⟩ (by rw [eb, eq])
    cases u with
    | un => trivial
    | w x => cases x <;> exact z
    | hl xs =>
      obtain ⟨b, z1, z2, vs, z3, z4⟩ := z
      exact ⟨b, z1, z2, vs, by rw [upd_ne (ap b rfl z1)]; exact z3, z4⟩
    | hd xs =>
      obtain ⟨b, z1, z2, vs, z3, z4⟩ := z
      exact ⟨b, z1, z2, vs, by rw [upd_ne (ap b rfl z1)]; exact z3, z4⟩
  · rcases List.mem_append.mp hq with hq | hq
    · rcases List.mem_singleton.mp hq with rfl
      exact ⟨⟨a, rfl, hc, ws, upd_same, hF, hg, r⟩, rfl, h3⟩
    · obtain ⟨z, z1, z2⟩ := R.gst q (List.mem_append_right _ hq)
      have ap := ng q hq
      refine ⟨?_, z1, z2⟩
      obtain ⟨q1, q2⟩ := q
      cases q2 with
      | un => cases z1
      | w x => cases z1
      | hl xs =>
        obtain ⟨b, y1, y2, vs, y3, y4⟩ := z
        cases y1
        exact ⟨_, rfl, y2, vs, by rw [upd_ne ap]; exact y3, y4⟩
      | hd xs =>
        obtain ⟨b, y1, y2, vs, y3, y4⟩ := z
        cases y1
        exact ⟨_, rfl, y2, vs, by rw [upd_ne ap]; exact y3, y4⟩
end
def zDComp (g : TGz) (tt : TPt) (tk te : TP) (q : W → Prop) (δ : List Sl) : List D → List (Key × D) → Prop
  | [], acc => q (.newd acc)
  | d :: ds, acc => g (.d d) δ fun δ1 => tt δ1 fun k => if k = true then tk δ1 fun u => (match keyW u with
    | some ky => te δ1 fun w => (match w with
      | .d y => zDComp g tt tk te q δ ds (putKD acc ky y)
      | _ => False)
    | none => False) else zDComp g tt tk te q δ ds acc
def zDc (it : TIz) (g : TGz) (tt : TPt) (tk te : TP) (vs : List Nat) : TP := fun δ q => match coldAll δ vs with
  | true => it δ fun ds => zDComp g tt tk te q (wipeZ δ vs) ds []
  | false => False
theorem dc_in {K : PySem.W.Frag} {P : Pm} {Hc Hc1 H H1 : Hp} {σ : L2.St} {δ : List Sl} {q : W → Prop} {Q : VK} {J : It} {ds : List D} {g : TG} {gz : TGz} {tt : TT} {ttz : TPt} {tk te : TP} {vs : List Nat} (hg : GRel K vs g gz) (ht : ∀ σ H Q, lftT K ttz σ H Q → tt σ H Q)
    (post : Post K P Hc H σ δ q Q) (hcold : coldAll δ vs = true) (l1 : Le Hc Hc1) (f1 : Le (nb P.g H) (nb P.g H1)) (R1 : RW K P Hc1 H1 σ δ) (wk : Wk K P Hc1 J ds) (hq : zDComp gz ttz tk te q (wipeZ δ vs) ds []) (Dn : Addr) (hD : H1 Dn = none) :
    ∃ Z : Nat → Nat → Hp → Prop, (∃ m, Z 0 m (upd H1 Dn (.dK []))) ∧ ∀ i m H, Z i m H →
      (J.stop i H ∧ Q (.ref Dn) H) ∨ (J.go i H ∧ ∃ Nx : Hp → Prop, (∀ H', Nx H' → ∃ m', m' < m ∧ Z (i + 1) m' H') ∧ ∀ x H', J.yld i H x H' → g x (L2.wipe σ vs) H' fun σ2 H2 => L2.wipe σ2 vs = L2.wipe σ vs ∧ tt σ2 H2 fun b H3 =>
        if b = true then lft K tk σ2 H3 fun y H4 => lft K te σ2 H4 fun z H5 => ∃ kvs k, y = kV k ∧ H5 Dn = some (.dK kvs) ∧ kvs.length < sizeLine ∧ Nx (upd H5 Dn (.dK (putK kvs k z))) else Nx H3) := by
  have free := R1.free hD
  have ap := R1.new_apart hD
  refine ⟨fun i m H => ∃ (Hc2 : Hp) (acc : List (Key × D)) (accV : List (Key × V)), Le Hc1 Hc2 ∧ Le (nb P.g H1) (nb P.g H) ∧ RW K (P.add [(Dn, .hd acc)]) Hc2 H (L2.wipe σ vs) (wipeZ δ vs) ∧ H Dn = some (.dK accV) ∧ RKs K Hc2 accV acc ∧ acc.length ≤ i ∧ m = ds.length - i ∧ i ≤ ds.length ∧ zDComp gz ttz tk te q (wipeZ δ vs) (ds.drop i) acc, ⟨ds.length, Hc1, [], [], Le.refl _, nb_new hD, ?_, upd_same, .nil, Nat.le_refl _, by omega, Nat.zero_le _, hq⟩, ?_⟩
  · exact (R1.wipe vs).ghostD hD .nil
  rintro i m H2 ⟨Hc2, acc, accV, l2, f2, R2, hDn, hacc, hle, rfl, hi, hz⟩
  have lim := wk.lim
  by_cases hlt : i < ds.length
  · refine .inr ⟨wk.goes i (P.add [(Dn, .hd acc)]) Hc2 H2 _ _ l2 R2 hlt, fun H => ∃ (Hc2 : Hp) (acc : List (Key × D)) (accV : List (Key × V)), Le Hc1 Hc2 ∧ Le (nb P.g H1) (nb P.g H) ∧ RW K (P.add [(Dn, .hd acc)]) Hc2 H (L2.wipe σ vs) (wipeZ δ vs) ∧ H Dn = some (.dK accV) ∧ RKs K Hc2 accV acc ∧ acc.length ≤ i + 1 ∧ zDComp gz ttz tk te q (wipeZ δ vs) (ds.drop (i + 1)) acc, ?_, ?_⟩
    · rintro H3 ⟨Hc3, acc3, accV3, l3, f3, R3, a3, b3, c3, z3⟩
      exact ⟨ds.length - (i + 1), by omega, Hc3, acc3, accV3, l3, f3, R3, a3, b3, c3, rfl, hlt, z3⟩
    · intro x H3 y
      have e : ds[i]? = some ds[i] := by simp [hlt]
      obtain ⟨Hc3, l3, f3, R3, rv⟩ := wk.yields i (P.add [(Dn, .hd acc)]) Hc2 H2 _ _ x H3 _ l2 R2 e y
      have hz : zDComp gz ttz tk te q (wipeZ δ vs) (ds[i] :: ds.drop (i + 1)) acc := by
        rw [List.drop_eq_getElem_cons hlt] at hz
        exact hz
      have f3 : Le (nb P.g H2) (nb P.g H3) := f3
      refine hg (P.add [(Dn, .hd acc)]) Hc3 H3 _ _ x (.d ds[i]) _ _ R3 rv hz fun σ4 δ4 e4 ez4 R4 hq4 => ⟨by rw [e4]; exact wipe_wipe vs σ, ht _ _ _ ⟨P.add [(Dn, .hd acc)], Hc3, δ4, _, R4, hq4, fun Hc5 H5 k l5 f5 R5 hq5 => ?_⟩⟩
      have f5 : Le (nb P.g H3) (nb P.g H5) := f5
      -- back to the slots as they were
      have back : ∀ {Hc6 H6}, RW K (P.add [(Dn, .hd acc)]) Hc6 H6 σ4 δ4 → RW K (P.add [(Dn, .hd acc)]) Hc6 H6 (L2.wipe σ vs) (wipeZ δ vs) := fun {Hc6 H6} R6 => by
        have z := R6.wipe vs
        rw [e4, ez4, wipe_wipe, wipeZ_wipe] at z
        exact z
      have here : ∀ {Hc6 H6}, RW K (P.add [(Dn, .hd acc)]) Hc6 H6 σ4 δ4 → ∃ us, H6 Dn = some (.dK us) ∧ RKs K Hc6 us acc := fun {Hc6 H6} R6 => by
        obtain ⟨⟨b, eb, _, us, h1, _, _, h2⟩, _, _⟩ := R6.gst (Dn, .hd acc) List.mem_cons_self
        cases eb
        exact ⟨us, h1, h2⟩
      cases k with
      | false =>
        obtain ⟨us, h1, h2⟩ := here R5
        exact ⟨Hc5, acc, us, ((l2.trans l3).trans l5), ((f2.trans f3).trans f5), back R5, h1, h2, by omega, hq5⟩
      | true =>
        refine ⟨P.add [(Dn, .hd acc)], Hc5, δ4, _, R5, hq5, fun Hc7 H7 u x l7 f7 R7 rv7 hq7 => ?_⟩
        have f7 : Le (nb P.g H5) (nb P.g H7) := f7
        split at hq7
        · rename_i ky eky
          have hku := keyW_ok rv7 eky
          subst hku
          refine ⟨P.add [(Dn, .hd acc)], Hc7, δ4, _, R7, hq7, fun Hc6 H6 v w l6 f6 R6 rv6 hq6 => ?_⟩
          have f6 : Le (nb P.g H7) (nb P.g H6) := f6
          obtain ⟨us, h1, h2⟩ := here R6
          cases w with
          | d y =>
            have hus := h2.len
            have ng : ∀ q ∈ P.gh, q.1 ≠ Dn := ap.2
            have r2 : RKs K Hc6 (putK us ky v) (putKD acc ky y) := h2.put rv6
            have hl2 : (putKD acc ky y).length ≤ acc.length + 1 := by
              unfold putKD
              split
              · rw [List.length_map]; omega
              · rw [List.length_append]; simp
            refine ⟨us, ky, rfl, h1, by omega, Hc6, putKD acc ky y, putK us ky v, (((l2.trans l3).trans l5).trans l7).trans l6, ?_, (back R6).ghostPutD r2 ng, upd_same, r2, by omega, hq6⟩
            intro b o eb
            have zz := (((f2.trans f3).trans f5).trans f7).trans f6 b o eb
            obtain ⟨n1, n2⟩ := nb_some zz
            refine nb_of n1 ?_
            rw [upd_ne (fun z => ?_)]
            · exact n2
            · rw [z] at eb
              have := (nb_some eb).2
              rw [hD] at this
              cases this
          | _ => exact hq6.elim
        · exact hq7.elim
  · have ei : i = ds.length := by omega
    subst ei
    rw [List.drop_length] at hz
    refine .inl ⟨wk.stops (P.add [(Dn, .hd acc)]) Hc2 H2 _ _ l2 R2, ?_⟩
    have R5 : RW K P Hc2 H2 σ δ := R1.unwipe R2.drop l2 f2 hcold
    obtain ⟨⟨b, eb, hc, us, h1, hF, hg', h2⟩, _, h3⟩ := R2.gst (Dn, .hd acc) List.mem_cons_self
    cases eb
    exact post Hc2 H2 _ (.newd acc) (l1.trans l2) (f1.trans f2) R5 ⟨Dn, rfl, hc, ⟨us, h1, hF, hg', h2⟩, ap.1, ap.2⟩ hz
/-! ### the forms -/
/-- the tests of a comprehension -/
structure IfZ (X : Cx) (scope : Scope) (ifs : List Expr) (tt : TT) (ttz : TPt) : Prop where
  a : ∀ (s : Shared) (H : Hp) (C : Addr) (cl : List (Str × Addr)) (fp : List Addr), PTs (X.blk s H scope (compEnvC scope cl C X.env) fp) ifs tt
  b : ∀ σ H Q, lftT X.K ttz σ H Q → tt σ H Q
/-- what is walked: some sequence, or a dict in a slot -/
structure ItZ (X : Cx) (tg iter : Expr) (ti : TI) (it : TIz) : Prop where
  p : PI X tg iter ti
  go : ∀ {P Hc H σ δ q R}, RW X.K P Hc H σ δ → (∀ d kvs, Rd H d (.dK kvs) → kvs.length ≤ sizeLine) → it δ q → (∀ Hc' H' ds J, Le Hc Hc' → Le (nb P.g H) (nb P.g H') → RW X.K P Hc' H' σ δ → Wk X.K P Hc' J ds → q ds → R J H') →
    ti σ H R ∨ ∃ d kvs, Hc d = some (.dK kvs) ∧ ∀ od R', (∀ ds J, Wk X.K (P.sw d (.frz od (.dK kvs))) (upd Hc d (.frz od (.dK kvs))) J ds → q ds → R' J (upd H d (.frz od (.dK kvs)))) → ti σ (upd H d (.frz od (.dK kvs))) R'
section
variable {X : Cx} {scope : Scope} {tg iter : Expr}
theorem ifN : IfZ X scope [] tYes zYes := ⟨fun _ _ _ _ _ => pts_nil, fun _ _ _ => zyes_ok⟩
theorem ifY {c : Expr} {tc : TPt} (ht : ∀ (s : Shared) (H : Hp) (C : Addr) (cl : List (Str × Addr)) (fp : List Addr), ZT (X.blk s H scope (compEnvC scope cl C X.env) fp) c tc) : IfZ X scope [c] (lftT X.K tc) tc := ⟨fun s H C cl fp => pts_one (ht s H C cl fp), fun _ _ _ z => z⟩
theorem itS {it : TIz} (h : ZI X tg iter it) : ItZ X tg iter (lftI X.K it) it := ⟨h, fun R _ hi post => .inl ⟨_, _, _, _, R, hi, post⟩⟩
theorem itD (i : Nat) (y : Wy) (h : PI X tg iter (y.ti (tVar i))) : ItZ X tg iter (y.ti (tVar i)) (iDct i y) := by
  refine ⟨h, fun {P Hc H σ δ q R0} R hz hi post => ?_⟩
  unfold iDct at hi
  split at hi
  · rename_i ys e
    obtain ⟨v, hv, rv⟩ := R.sl i _ e
    cases rv with
    | dct rd r =>
      rename_i d kvs
      have hz := hz d kvs (rd_le R.coldH rd)
      rcases rd with hd | ⟨od, hd⟩
      · refine .inr ⟨d, kvs, hd, fun od R' h' => ?_⟩
        have t : Tw (.dK kvs) (.frz od (.dK kvs)) := ⟨kvs, .inl rfl, .inr ⟨od, rfl⟩⟩
        exact Wy.reads (d := d) (od := od) (kvs := kvs) ⟨.ref d, hv, rfl, upd_same, h' _ _ (Wk.wy y upd_same (r.swp hd t) hz) hi⟩ (fun hq ⟨v, a, b⟩ => ⟨v, a, hq _ _ b⟩)
      · exact .inl (Wy.reads (d := d) (od := od) (kvs := kvs) ⟨.ref d, hv, rfl, R.coldH _ _ hd, post _ _ _ _ (Le.refl _) (Le.refl _) R (Wk.wy y hd r hz) hi⟩ (fun hq ⟨v, a, b⟩ => ⟨v, a, hq _ _ b⟩))
  · exact hi.elim
/-- [..] of whatever is walked -/
theorem lft_lcG {ti : TI} {it : TIz} {ifs : List Expr} {g : TG} {gz : TGz} {tt : TT} {ttz : TPt} {te : TP} {vs : List Nat} {pins : List (Addr × Obj)} {s : Shared} {σ : L2.St} {H : Hp} {Q : VK} (I : Inv X pins σ H s) (hi : ItZ X tg iter ti it) (hg : GRel X.K vs g gz) (ht : IfZ X scope ifs tt ttz) (h : lft X.K (zLc it gz ttz te vs) σ H Q) :
    tLc ti g tt (lft X.K te) vs σ H Q ∨ tLockE (tLc ti g tt (lft X.K te) vs) σ H Q := by
  obtain ⟨P, Hc, δ, q, R, h, post⟩ := h
  unfold zLc at h
  cases hcold : coldAll δ vs with
  | false =>
    rw [hcold] at h
    exact h.elim
  | true =>
    rw [hcold] at h
    rcases hi.go (R := fun J H1 => ∀ D, H1 D = none → ∃ Z : Nat → Nat → Hp → Prop, (∃ m, Z 0 m (upd H1 D (.lst []))) ∧ ∀ i m H, Z i m H →
      (J.stop i H ∧ Q (.ref D) H) ∨ (J.go i H ∧ ∃ Nx : Hp → Prop, (∀ H', Nx H' → ∃ m', m' < m ∧ Z (i + 1) m' H') ∧ ∀ x H', J.yld i H x H' → g x (L2.wipe σ vs) H' fun σ2 H2 => L2.wipe σ2 vs = L2.wipe σ vs ∧ tt σ2 H2 fun b H3 =>
        if b = true then lft X.K te σ2 H3 fun y H4 => ∃ acc, H4 D = some (.lst acc) ∧ acc.length < sizeLine ∧ Nx (upd H4 D (.lst (acc ++ [y]))) else Nx H3)) R (fun d kvs hd => (dk_rd I.hok hd).1) h (fun Hc1 H1 ds J l1 f1 R1 wk hq => lc_in hg ht.b post hcold l1 f1 R1 wk hq) with z | ⟨d, kvs, hd, z⟩
    · exact .inl z
    · refine .inr ⟨d, .dK kvs, R.coldH _ _ hd, trivial, fun od => z od _ fun ds J wk hq => ?_⟩
      have t : Tw (.dK kvs) (.frz od (.dK kvs)) := ⟨kvs, .inl rfl, .inr ⟨od, rfl⟩⟩
      exact lc_in hg ht.b (Post.lock (od := od) R hd post) hcold (Le.refl _) (Le.refl _) (R.swp hd t) wk hq
theorem lft_dcG {ti : TI} {it : TIz} {ifs : List Expr} {g : TG} {gz : TGz} {tt : TT} {ttz : TPt} {tk te : TP} {vs : List Nat} {pins : List (Addr × Obj)} {s : Shared} {σ : L2.St} {H : Hp} {Q : VK} (I : Inv X pins σ H s) (hi : ItZ X tg iter ti it) (hg : GRel X.K vs g gz) (ht : IfZ X scope ifs tt ttz) (h : lft X.K (zDc it gz ttz tk te vs) σ H Q) :
    tDc ti g tt (lft X.K tk) (lft X.K te) vs σ H Q ∨ tLockE (tDc ti g tt (lft X.K tk) (lft X.K te) vs) σ H Q := by
  obtain ⟨P, Hc, δ, q, R, h, post⟩ := h
  unfold zDc at h
  cases hcold : coldAll δ vs with
  | false =>
    rw [hcold] at h
    exact h.elim
  | true =>
    rw [hcold] at h
    rcases hi.go (R := fun J H1 => ∀ D, H1 D = none → ∃ Z : Nat → Nat → Hp → Prop, (∃ m, Z 0 m (upd H1 D (.dK []))) ∧ ∀ i m H, Z i m H →
      (J.stop i H ∧ Q (.ref D) H) ∨ (J.go i H ∧ ∃ Nx : Hp → Prop, (∀ H', Nx H' → ∃ m', m' < m ∧ Z (i + 1) m' H') ∧ ∀ x H', J.yld i H x H' → g x (L2.wipe σ vs) H' fun σ2 H2 => L2.wipe σ2 vs = L2.wipe σ vs ∧ tt σ2 H2 fun b H3 =>
        if b = true then lft X.K tk σ2 H3 fun y H4 => lft X.K te σ2 H4 fun z H5 => ∃ kvs k, y = kV k ∧ H5 D = some (.dK kvs) ∧ kvs.length < sizeLine ∧ Nx (upd H5 D (.dK (putK kvs k z))) else Nx H3)) R (fun d kvs hd => (dk_rd I.hok hd).1) h (fun Hc1 H1 ds J l1 f1 R1 wk hq => dc_in hg ht.b post hcold l1 f1 R1 wk hq) with z | ⟨d, kvs, hd, z⟩
    · exact .inl z
    · refine .inr ⟨d, .dK kvs, R.coldH _ _ hd, trivial, fun od => z od _ fun ds J wk hq => ?_⟩
      have t : Tw (.dK kvs) (.frz od (.dK kvs)) := ⟨kvs, .inl rfl, .inr ⟨od, rfl⟩⟩
      exact dc_in hg ht.b (Post.lock (od := od) R hd post) hcold (Le.refl _) (Le.refl _) (R.swp hd t) wk hq
theorem z_lcG {elt : Expr} {ifs : List Expr} {own : List (Str × Nat)} {pos : Pos} {ti : TI} {it : TIz} {g : TG} {gz : TGz} {tt : TT} {ttz : TPt} {te : TP} (hc : X.calm = true) (hN : X.N.Nodup) (hi : ItZ X tg iter ti it) (ok : BlkOk X.N X.env.scope scope own)
    (hg : ∀ (s : Shared) (H : Hp) (C : Addr) (cl : List (Str × Addr)) (fp : List Addr), PG (X.blk s H scope (compEnvC scope cl C X.env) fp) tg g) (gr : GRel X.K (own.map (·.2)) g gz) (ht : IfZ X scope ifs tt ttz)
    (he : ∀ (s : Shared) (H : Hp) (C : Addr) (cl : List (Str × Addr)) (fp : List Addr), ZE (X.blk s H scope (compEnvC scope cl C X.env) fp) elt te) (hs : ∀ x, foldedSetIterable iter X.env x = pure x := by intro _; rfl) :
    ZE X (.ListComp elt [⟨tg, iter, ifs, 0⟩] scope pos) (zLc it gz ttz te (own.map (·.2))) := by
  have base := pe_lc (pos := pos) (te := lft X.K te) hc hN hi.p ok hg ht.a he hs
  exact ⟨fun pins s σ H Q I h => (lft_lcG I hi gr ht h).elim (base.run pins s σ H Q I) ((pe_lock base).run pins s σ H Q I)⟩
theorem z_dcG {kx elt : Expr} {ifs : List Expr} {own : List (Str × Nat)} {pos : Pos} {ti : TI} {it : TIz} {g : TG} {gz : TGz} {tt : TT} {ttz : TPt} {tk te : TP} (hc : X.calm = true) (hN : X.N.Nodup) (hi : ItZ X tg iter ti it) (ok : BlkOk X.N X.env.scope scope own)
    (hg : ∀ (s : Shared) (H : Hp) (C : Addr) (cl : List (Str × Addr)) (fp : List Addr), PG (X.blk s H scope (compEnvC scope cl C X.env) fp) tg g) (gr : GRel X.K (own.map (·.2)) g gz) (ht : IfZ X scope ifs tt ttz)
    (hk : ∀ (s : Shared) (H : Hp) (C : Addr) (cl : List (Str × Addr)) (fp : List Addr), ZE (X.blk s H scope (compEnvC scope cl C X.env) fp) kx tk)
    (he : ∀ (s : Shared) (H : Hp) (C : Addr) (cl : List (Str × Addr)) (fp : List Addr), ZE (X.blk s H scope (compEnvC scope cl C X.env) fp) elt te) (hs : ∀ x, foldedSetIterable iter X.env x = pure x := by intro _; rfl) :
    ZE X (.DictComp kx elt [⟨tg, iter, ifs, 0⟩] scope pos) (zDc it gz ttz tk te (own.map (·.2))) := by
  have base := pe_dc (pos := pos) (tk := lft X.K tk) (tv := lft X.K te) hc hN hi.p ok hg ht.a hk he hs
  exact ⟨fun pins s σ H Q I h => (lft_dcG I hi gr ht h).elim (base.run pins s σ H Q I) ((pe_lock base).run pins s σ H Q I)⟩
/-- name = {..} on one line, the name a local -/
theorem ps_setDcV {i : Nat} {y : Str} {py : Pos} {kx elt : Expr} {ifs : List Expr} {own : List (Str × Nat)} {pos spos : Pos} {wi : TI} {g : TG} {tt : TT} {tk te : TE} (hc : X.calm = true) (hN : X.N.Nodup) (hy : X.N[i]? = some y) (hyl : X.env.scope.names.lookup y = some .local)
    (hsw : swapsWith (.DictComp kx elt [⟨tg, iter, ifs, 0⟩] scope pos) (some (.Name y py)) spos.line X.env = pure true) (hi : PI X tg iter wi) (ok : BlkOk X.N X.env.scope scope own)
    (hg : ∀ (s : Shared) (H : Hp) (C : Addr) (cl : List (Str × Addr)) (fp : List Addr), PG (X.blk s H scope (compEnvC scope cl C X.env) fp) tg g) (ht : ∀ (s : Shared) (H : Hp) (C : Addr) (cl : List (Str × Addr)) (fp : List Addr), PTs (X.blk s H scope (compEnvC scope cl C X.env) fp) ifs tt)
    (hk : ∀ (s : Shared) (H : Hp) (C : Addr) (cl : List (Str × Addr)) (fp : List Addr), PE (X.blk s H scope (compEnvC scope cl C X.env) fp) kx tk)
    (he : ∀ (s : Shared) (H : Hp) (C : Addr) (cl : List (Str × Addr)) (fp : List Addr), PE (X.blk s H scope (compEnvC scope cl C X.env) fp) elt te) (hs : ∀ x, foldedSetIterable iter X.env x = pure x) :
    PS X (.Assign [.Name y py] (.DictComp kx elt [⟨tg, iter, ifs, 0⟩] scope pos) spos) (tAsg (tDc wi g tt tk te (own.map (·.2))) (gName i)) := by
  refine ⟨fun pins s σ H D I z => ?_⟩
  have z : tDc wi g tt tk te (own.map (·.2)) σ H (fun x H1 => gName i x σ H1 D.nx) := z
  rw [exec_Assign_Name_used _ _ _ _ hsw]
  refine wpAny_bind (wpAny_standAt (wpAny_bind ?_))
  show wpAny _ X.A (do let _ ← comprehension (.DictComp kx elt [⟨tg, iter, ifs, 0⟩] scope pos) scope X.env (firstIterPos [⟨tg, iter, ifs, 0⟩] pos) newDict false (eval iter X.env) (some (assign (.Name y py) X.env))) _ _ s
  refine wpAny_bind (thn (dc_core (Qf := fun _ s' => SP X pins D .next s') hc hN I hi ok hg ht hk he hs z fun L C s' m H' I' q hn f => ?_) fun _ s' hq => wpAny_pure (wpAny_pure hq))
  show wpAny _ _ (assign (.Name y py) X.env (.ref L)) _ _ _
  obtain ⟨f0, f1, f2, f3, f4, f5⟩ := f
  refine wpAny_assign_Name (store_ok2 (v := V.ref L) I' hN hy (.inl hyl) rfl (fun s2 I2 ⟨a, sb, ha⟩ => ?_) (.inr hyl))
  have ne : C ≠ a := ha.elim (fun z => by rw [z]; exact f1) fun z e => f4 y a z e.symm
  exact ⟨m, hn.sameBut sb ne, fun h3 sb3 => ⟨_, H', I2.turned (t' := s2.toks) (fun b o hb e => (sb3.2 b hb).trans e) f0 f1 f3 f4 f5, q⟩⟩
theorem sw_trueD {kx elt : Expr} {gs : List Comprehension} {pos py : Pos} {y : Str} {l : Nat} {env : Env} (hk : env.scope.kind = .function) (hy : env.scope.names.lookup y = some .local) (hl : (py.line == pos.line) = true)
    (ha : (scope.names.any fun (n, k) => n == y && (k == .local || k == .cell)) = false) : swapsWith (.DictComp kx elt gs scope pos) (some (.Name y py)) l env = pure true := by
  have hb : env.blockKind = .function := by unfold Env.blockKind; rw [hk]; rfl
  have ky : env.kindOf y = some .local := hy
  unfold swapsWith
  simp only [hb, ky, ha, Expr.pos, hl]
  rfl
theorem zs_setLcG {y : Nat} {yn : Str} {py : Pos} {elt : Expr} {ifs : List Expr} {own : List (Str × Nat)} {pos spos : Pos} {ti : TI} {it : TIz} {g : TG} {gz : TGz} {tt : TT} {ttz : TPt} {te : TP} (hc : X.calm = true) (hN : X.N.Nodup) (hi : ItZ X tg iter ti it) (ok : BlkOk X.N X.env.scope scope own)
    (hg : ∀ (s : Shared) (H : Hp) (C : Addr) (cl : List (Str × Addr)) (fp : List Addr), PG (X.blk s H scope (compEnvC scope cl C X.env) fp) tg g) (gr : GRel X.K (own.map (·.2)) g gz) (ht : IfZ X scope ifs tt ttz)
    (he : ∀ (s : Shared) (H : Hp) (C : Addr) (cl : List (Str × Addr)) (fp : List Addr), ZE (X.blk s H scope (compEnvC scope cl C X.env) fp) elt te)
    (hy : X.N[y]? = some yn := by rfl) (hyl : X.env.scope.names.lookup yn = some .local := by rfl) (hsw : swapsWith (.ListComp elt [⟨tg, iter, ifs, 0⟩] scope pos) (some (.Name yn py)) spos.line X.env = pure true := by exact sw_true rfl rfl rfl (by decide +kernel))
    (hs : ∀ x, foldedSetIterable iter X.env x = pure x := by intro _; rfl) :
    ZS X (.Assign [.Name yn py] (.ListComp elt [⟨tg, iter, ifs, 0⟩] scope pos) spos) (zAsg (zLc it gz ttz te (own.map (·.2))) (gzName y)) := by
  have base := ps_setLc (te := lft X.K te) hc hN hy hyl hsw hi.p ok hg ht.a he hs
  refine ⟨fun pins s σ H Dn I z => ?_⟩
  obtain ⟨P, Hc, δ, N, R, h, E⟩ := z
  refine (lft_lcG (Q := fun x H1 => Dn.nx (σ.set y (some x)) H1) I hi gr ht ⟨P, Hc, δ, _, R, h, fun Hc' H' v w l f R' rv hq => ?_⟩).elim (base.run pins s σ H Dn I) ((ps_lock base).run pins s σ H Dn I)
  obtain ⟨s, hs, R2⟩ := R'.store (i := y) (k := fun s => N.nx (δ.set y s)) rv hq
  exact E.nx Hc' H' _ _ l R2 hs
theorem zs_setDcG {y : Nat} {yn : Str} {py : Pos} {kx elt : Expr} {ifs : List Expr} {own : List (Str × Nat)} {pos spos : Pos} {ti : TI} {it : TIz} {g : TG} {gz : TGz} {tt : TT} {ttz : TPt} {tk te : TP} (hc : X.calm = true) (hN : X.N.Nodup) (hi : ItZ X tg iter ti it) (ok : BlkOk X.N X.env.scope scope own)
    (hg : ∀ (s : Shared) (H : Hp) (C : Addr) (cl : List (Str × Addr)) (fp : List Addr), PG (X.blk s H scope (compEnvC scope cl C X.env) fp) tg g) (gr : GRel X.K (own.map (·.2)) g gz) (ht : IfZ X scope ifs tt ttz)
    (hk : ∀ (s : Shared) (H : Hp) (C : Addr) (cl : List (Str × Addr)) (fp : List Addr), ZE (X.blk s H scope (compEnvC scope cl C X.env) fp) kx tk)
    (he : ∀ (s : Shared) (H : Hp) (C : Addr) (cl : List (Str × Addr)) (fp : List Addr), ZE (X.blk s H scope (compEnvC scope cl C X.env) fp) elt te)
    (hy : X.N[y]? = some yn := by rfl) (hyl : X.env.scope.names.lookup yn = some .local := by rfl) (hsw : swapsWith (.DictComp kx elt [⟨tg, iter, ifs, 0⟩] scope pos) (some (.Name yn py)) spos.line X.env = pure true := by exact sw_trueD rfl rfl rfl (by decide +kernel))
    (hs : ∀ x, foldedSetIterable iter X.env x = pure x := by intro _; rfl) :
    ZS X (.Assign [.Name yn py] (.DictComp kx elt [⟨tg, iter, ifs, 0⟩] scope pos) spos) (zAsg (zDc it gz ttz tk te (own.map (·.2))) (gzName y)) := by
  have base := ps_setDcV (tk := lft X.K tk) (te := lft X.K te) hc hN hy hyl hsw hi.p ok hg ht.a hk he hs
  refine ⟨fun pins s σ H Dn I z => ?_⟩
  obtain ⟨P, Hc, δ, N, R, h, E⟩ := z
  refine (lft_dcG (Q := fun x H1 => Dn.nx (σ.set y (some x)) H1) I hi gr ht ⟨P, Hc, δ, _, R, h, fun Hc' H' v w l f R' rv hq => ?_⟩).elim (base.run pins s σ H Dn I) ((ps_lock base).run pins s σ H Dn I)
  obtain ⟨s, hs, R2⟩ := R'.store (i := y) (k := fun s => N.nx (δ.set y s)) rv hq
  exact E.nx Hc' H' _ _ l R2 hs
end
end Zl
end
section
set_option maxHeartbeats 1000000
namespace Zl
open PySem PySem.Spec PyProof.Rows L2
/-! ### repr of data with dicts within -/
mutual
/-- data read off a heap; a dict among it is not the interpreter's own table -/
inductive Rk (h : Heap) : Value → D → Prop
  | non : Rk h .none .none
  | bl (b : Bool) : Rk h (.bool b) (.bool b)
  | int (i : Int) (t : Tok) : Rk h (.int i t) (.int i)
  | str (x : Str) (t : Tok) : Rk h (.str x t) (.str x)
  | lst {a : Addr} {o : Obj} {vs : Array Value} {n : Nat} {xs : List D} : h.get? a = some o → o.cls = .type "list" → o.data = .seq vs n → RkA h vs.toList xs → Rk h (.ref a) (.list xs)
  | tup {a : Addr} {o : Obj} {vs : Array Value} {n : Nat} {xs : List D} : h.get? a = some o → o.cls = .type "tuple" → o.data = .seq vs n → RkA h vs.toList xs → Rk h (.ref a) (.tuple xs)
  | dct {a : Addr} {o : Obj} {es : Array DictEntry} {n : Nat} {kvs : List (D × D)} : h.get? a = some o → o.cls = .type "dict" → o.data = .dict es n → (a == sysModules) = false → RkA h (es.toList.map (·.key)) (kvs.map (·.1)) → RkA h (es.toList.map (·.val)) (kvs.map (·.2)) → Rk h (.ref a) (.dict kvs)
inductive RkA (h : Heap) : List Value → List D → Prop
  | nil : RkA h [] []
  | cons {v : Value} {vs : List Value} {d : D} {ds : List D} : Rk h v d → RkA h vs ds → RkA h (v :: vs) (d :: ds)
end
mutual
theorem Rk.rd {h : Heap} : ∀ {v : Value} {d : D}, Rk h v d → ∃ as, Reads h v d as
  | _, _, .non => ⟨_, .none⟩
  | _, _, .bl b => ⟨_, .bool b⟩
  | _, _, .int i t => ⟨_, .int i t⟩
  | _, _, .str x t => ⟨_, .str x t⟩
  | _, _, .lst a b c r => let ⟨_, q⟩ := RkA.rd r; ⟨_, .list a b c q⟩
  | _, _, .tup a b c r => let ⟨_, q⟩ := RkA.rd r; ⟨_, .tuple a b c q⟩
  | _, _, .dct a b c _ r r2 => let ⟨_, q⟩ := RkA.rd r; let ⟨_, q2⟩ := RkA.rd r2; ⟨_, .dict a b c q q2⟩
theorem RkA.rd {h : Heap} : ∀ {v : List Value} {d : List D}, RkA h v d → ∃ as, ReadsAll h v d as
  | _, _, .nil => ⟨_, .nil⟩
  | _, _, .cons a b => let ⟨_, q⟩ := Rk.rd a; let ⟨_, q2⟩ := RkA.rd b; ⟨_, .cons q q2⟩
end
section
variable {prog : Program} {w : World} {h₀ : Heap}
theorem ram_self {a : Addr} {d : D} {as : List Addr} {n : Nat} {cs : List Addr} (r : Reads h₀ (.ref a) d as) (hn : n ≤ d.depth) (hb : ReadAtMost h₀ n cs) : ReadAtMost h₀ d.depth (a :: cs) := ReadAtMost.cons r hn hb
mutual
theorem Rk.shows : ∀ {v : Value} {d : D}, Rk h₀ v d → d.showable = true → d.shown.length ≤ sizeLine → ∃ cs, ReadAtMost h₀ d.depth cs ∧ ReprK prog w cs h₀ d.depth v d.shown
  | _, _, .non, _, _ => ⟨[], (fun _ z => nomatch z), by simp only [PyData.shown]; exact ReprK.of_is ReprIs.none _ _ _⟩
  | _, _, .bl b, _, _ => ⟨[], (fun _ z => nomatch z), by simp only [PyData.shown]; exact ReprK.of_is (ReprIs.bool b) _ _ _⟩
  | _, _, .int i t, hs, _ => ⟨[], (fun _ z => nomatch z), by simp only [PyData.shown]; exact ReprK.of_is (ReprIs.int t (by simpa [PyData.showable] using hs)) _ _ _⟩
  | _, _, .str x t, _, hz => ⟨[], (fun _ z => nomatch z), by simp only [PyData.shown]; exact ReprK.of_is (ReprIs.str x t (by simpa only [PyData.shown] using hz)) _ _ _⟩
  | _, _, .lst (a := p) (vs := us) (xs := ds) k1 k2 k3 k4, hs, hz => by
    have zz : (listText (PyData.shownAll ds)).length ≤ sizeLine := by simpa only [PyData.shown] using hz
    obtain ⟨cs, c1, c2⟩ := RkA.shows k4 (by simpa [PyData.showable] using hs) fun t ht => Nat.le_trans (listText_mem_le ht) zz
    obtain ⟨as, rr⟩ := Rk.rd (.lst k1 k2 k3 k4)
    have out : p ∉ cs := not_mem_of_deeper rr (by rw [PyData.depth]; omega) c1
    refine ⟨p :: cs, ram_self rr (by rw [PyData.depth]; omega) c1, ?_⟩
    simp only [PyData.shown, PyData.depth]
    obtain ⟨us⟩ := us
    cases us with
    | nil =>
      have k4 : RkA h₀ [] ds := k4
      cases k4
      rw [PyData.shownAll, listText_nil]
      exact ReprK.listEmpty k1 k2 k3
    | cons u us => exact ReprK.list k1 k2 k3 out (by simpa using c2.length_eq) fun i y e => c2.item i y (by simpa using e)
  | _, _, .tup (a := p) (xs := ds) k1 k2 k3 k4, hs, hz => by
    have zz : (tupleText (PyData.shownAll ds)).length ≤ sizeLine := by simpa only [PyData.shown] using hz
    obtain ⟨cs, c1, c2⟩ := RkA.shows k4 (by simpa [PyData.showable] using hs) fun t ht => Nat.le_trans (tupleText_mem_le ht) zz
    obtain ⟨as, rr⟩ := Rk.rd (.tup k1 k2 k3 k4)
    have out : p ∉ cs := not_mem_of_deeper rr (by rw [PyData.depth]; omega) c1
    refine ⟨p :: cs, ram_self rr (by rw [PyData.depth]; omega) c1, ?_⟩
    simp only [PyData.shown, PyData.depth]
    exact ReprK.tuple k1 k2 k3 out c2
  | _, _, .dct (a := p) (es := es) (kvs := ps) k1 k2 k3 k0 k4 k5, hs, hz => by
    have zz : (dictText (PyData.shownKv ps)).length ≤ sizeLine := by simpa only [PyData.shown] using hz
    obtain ⟨s1, s2⟩ := PyData.showableKv_split ps (by simpa [PyData.showable] using hs)
    obtain ⟨c1, b1, e1⟩ := RkA.shows k4 s1 fun t ht => by
      obtain ⟨q, hq, hl⟩ := PyData.shownKv_key_le ps t ht
      exact Nat.le_trans hl (Nat.le_trans (dictText_mem_le hq) zz)
    obtain ⟨c2, b2, e2⟩ := RkA.shows k5 s2 fun t ht => by
      obtain ⟨q, hq, hl⟩ := PyData.shownKv_val_le ps t ht
      exact Nat.le_trans hl (Nat.le_trans (dictText_mem_le hq) zz)
    have d1 := PyData.depthAll_keys_le ps
    have d2 := PyData.depthAll_vals_le ps
    have bb : ReadAtMost h₀ (PyData.depthKv ps) (c1 ++ c2) := ReadAtMost.append (b1.mono d1) (b2.mono d2)
    obtain ⟨as, rr⟩ := Rk.rd (.dct k1 k2 k3 k0 k4 k5)
    have out : p ∉ c1 ++ c2 := not_mem_of_deeper rr (by rw [PyData.depth]; omega) bb
    refine ⟨p :: (c1 ++ c2), ram_self rr (by rw [PyData.depth]; omega) bb, ?_⟩
    simp only [PyData.shown, PyData.depth, PyData.shownKv_eq]
    refine ReprK.dict k1 k2 k3 k0 out ?_
    exact ReprEntriesK.of_two es.toList _ _ (e1.more_le (fun b m => List.mem_append_left _ m) d1) (e2.more_le (fun b m => List.mem_append_right _ m) d2)
theorem RkA.shows : ∀ {v : List Value} {d : List D}, RkA h₀ v d → PyData.showableAll d = true → (∀ t ∈ PyData.shownAll d, t.length ≤ sizeLine) → ∃ cs, ReadAtMost h₀ (PyData.depthAll d) cs ∧ ReprAllK prog w cs h₀ (PyData.depthAll d) v (PyData.shownAll d)
  | _, _, .nil, _, _ => ⟨[], (fun _ z => nomatch z), by rw [PyData.shownAll]; exact .nil⟩
  | _, _, .cons (d := d) (ds := ds) a b, hs, hz => by
    have hs2 : d.showable = true ∧ PyData.showableAll ds = true := by simpa [PyData.showableAll] using hs
    obtain ⟨c1, b1, e1⟩ := Rk.shows a hs2.1 (hz _ (by rw [PyData.shownAll]; exact List.mem_cons_self))
    obtain ⟨c2, b2, e2⟩ := RkA.shows b hs2.2 fun t ht => hz t (by rw [PyData.shownAll]; exact List.mem_cons_of_mem _ ht)
    have m1 : d.depth ≤ PyData.depthAll (d :: ds) := by rw [PyData.depthAll]; exact Nat.le_max_left _ _
    have m2 : PyData.depthAll ds ≤ PyData.depthAll (d :: ds) := by rw [PyData.depthAll]; exact Nat.le_max_right _ _
    refine ⟨c1 ++ c2, ReadAtMost.append (b1.mono m1) (b2.mono m2), ?_⟩
    have e3 := e2.more_le (as' := c1 ++ c2) (fun b m => List.mem_append_right _ m) m2
    rw [PyData.shownAll]
    exact .cons ((e1.more fun b m => List.mem_append_left _ m).level_le m1) e3
end
end
/-! ### what may be shown -/
mutual
inductive Gx : Nat → Nat → D → Prop
  | g {k n : Nat} {d : D} : Vq.Gd k n d → Gx k n d
  | str (k : Nat) {n : Nat} {x : Str} : x.cps.size ≤ n → (x.cps.toList.all fun c => decide (c < 16 ^ 8)) = true → Gx k n (.str x)
  | tup {k n : Nat} {xs : List D} : GxA k n xs → Gx (k + 1) n (.tuple xs)
  | lst {k n : Nat} {xs : List D} : GxA k n xs → Gx (k + 1) n (.list xs)
  | dct {k n : Nat} {kvs : List (D × D)} : GxK k n kvs → Gx (k + 1) n (.dict kvs)
inductive GxA : Nat → Nat → List D → Prop
  | nil (k n : Nat) : GxA k n []
  | cons {k n m : Nat} {d : D} {ds : List D} : Gx k n d → GxA k m ds → GxA k (n + 1 + m) (d :: ds)
inductive GxK : Nat → Nat → List (D × D) → Prop
  | nil (k n : Nat) : GxK k n []
  | cons {k n m l : Nat} {a b : D} {r : List (D × D)} : Gx k n a → Gx k m b → GxK k l r → GxK k (n + m + 2 + l) ((a, b) :: r)
end
structure GxF (k n : Nat) (d : D) : Prop where
  sh : d.showable = true
  dp : d.depth ≤ k
  bk : d.bulk ≤ n
  ls : d.leavesShort 600 = true
mutual
theorem Gx.f : ∀ {k n : Nat} {d : D}, Gx k n d → GxF k n d
  | _, _, _, .g h => let q := Vq.Gd.f h; ⟨q.sh, q.dp, q.bk, q.ls⟩
  | k, _, _, .str _ a b => ⟨by rw [PyData.showable], by rw [PyData.depth]; exact Nat.zero_le k, by rw [PyData.bulk]; exact a, by rw [PyData.leavesShort]; exact b⟩
  | _, _, _, .tup h => let q := GxA.f h; ⟨by rw [PyData.showable]; exact q.1, by rw [PyData.depth]; exact Nat.succ_le_succ q.2.1, by rw [PyData.bulk]; exact q.2.2.1, by rw [PyData.leavesShort]; exact q.2.2.2⟩
  | _, _, _, .lst h => let q := GxA.f h; ⟨by rw [PyData.showable]; exact q.1, by rw [PyData.depth]; exact Nat.succ_le_succ q.2.1, by rw [PyData.bulk]; exact q.2.2.1, by rw [PyData.leavesShort]; exact q.2.2.2⟩
  | _, _, _, .dct h => let q := GxK.f h; ⟨by rw [PyData.showable]; exact q.1, by rw [PyData.depth]; exact Nat.succ_le_succ q.2.1, by rw [PyData.bulk]; exact q.2.2.1, by rw [PyData.leavesShort]; exact q.2.2.2⟩
theorem GxA.f : ∀ {k n : Nat} {d : List D}, GxA k n d → PyData.showableAll d = true ∧ PyData.depthAll d ≤ k ∧ PyData.bulkAll d ≤ n ∧ PyData.leavesShortAll 600 d = true
  | _, _, _, .nil k n => ⟨by rw [PyData.showableAll], by rw [PyData.depthAll]; exact Nat.zero_le k, by rw [PyData.bulkAll]; exact Nat.zero_le n, by rw [PyData.leavesShortAll]⟩
  | _, _, _, .cons a b => by
    have p := Gx.f a
    have q := GxA.f b
    refine ⟨by rw [PyData.showableAll, p.sh, q.1]; rfl, by rw [PyData.depthAll]; exact Nat.max_le.mpr ⟨p.dp, q.2.1⟩, ?_, by rw [PyData.leavesShortAll, p.ls, q.2.2.2]; rfl⟩
    rw [PyData.bulkAll]
    have h1 := p.bk
    have h2 := q.2.2.1
    omega
theorem GxK.f : ∀ {k n : Nat} {d : List (D × D)}, GxK k n d → PyData.showableKv d = true ∧ PyData.depthKv d ≤ k ∧ PyData.bulkKv d ≤ n ∧ PyData.leavesShortKv 600 d = true
  | _, _, _, .nil k n => ⟨by rw [PyData.showableKv], by rw [PyData.depthKv]; exact Nat.zero_le k, by rw [PyData.bulkKv]; exact Nat.zero_le n, by rw [PyData.leavesShortKv]⟩
  | _, _, _, .cons a b c => by
    have p := Gx.f a
    have p2 := Gx.f b
    have q := GxK.f c
    refine ⟨by rw [PyData.showableKv, p.sh, p2.sh, q.1]; rfl, by rw [PyData.depthKv]; exact Nat.max_le.mpr ⟨Nat.max_le.mpr ⟨p.dp, p2.dp⟩, q.2.1⟩, ?_, by rw [PyData.leavesShortKv, p.ls, p2.ls, q.2.2.2]; rfl⟩
    rw [PyData.bulkKv]
    have h1 := p.bk
    have h2 := p2.bk
    have h3 := q.2.2.1
    omega
end
theorem Gx.fits {k n : Nat} {d : D} (h : Gx k n d) (hn : n ≤ 20000) : d.shown.length ≤ sizeLine := by
  have e := PyData.shown_le_bulk 600 (by decide) d h.f.ls
  have b := h.f.bk
  rw [sizeLine_eq]
  omega
section
variable {X : Cx} {pins : List (Addr × Obj)} {σ : L2.St} {H : Hp} {s : Shared}
theorem rk_key {h : Heap} {k : Key} {u : Value} (e : keyIs k u = true) : Rk h u (keyD k) := by
  have r := relV_key e
  cases k with
  | inl i =>
    obtain ⟨t, rfl⟩ := (show ∃ t, u = Value.int i t from r)
    exact .int i t
  | inr x =>
    obtain ⟨t, rfl⟩ := (show ∃ t, u = Value.str x t from r)
    exact .str x t
mutual
theorem RV.rk (I : Inv X pins σ H s) : ∀ {x : V} {d : D} {v : Value}, RV X.K H x d → RelV x v → Rk s.heap v d
  | _, _, _, .non, r => by cases (show _ = Value.none from r); exact .non
  | _, _, _, .bl b, r => by cases (show _ = Value.bool b from r); exact .bl b
  | _, _, _, .int i, r => by obtain ⟨t, rfl⟩ := (show ∃ t, _ = Value.int i t from r); exact .int i t
  | _, _, _, .str x, r => by obtain ⟨t, rfl⟩ := (show ∃ t, _ = Value.str x t from r); exact .str x t
  | _, _, _, .lst h _ q, r => by
    cases (show _ = Value.ref _ from r)
    obtain ⟨_, its, n, rv, e⟩ := I.hok _ _ h
    exact .lst e rfl rfl (by rw [List.toList_toArray]; exact RVs.rk I q rv)
  | _, _, _, .tup h _ q, r => by
    cases (show _ = Value.ref _ from r)
    obtain ⟨_, its, rv, o, e, c, n, dd⟩ := I.hok _ _ h
    exact .tup e c dd (by rw [List.toList_toArray]; exact RVs.rk I q rv)
  | _, _, _, .dct h q, r => by
    cases (show _ = Value.ref _ from r)
    obtain ⟨_, hs, vs, rel, o, es, ep, e, ex, dd, _, pr, _⟩ := dk_rd I.hok h
    obtain ⟨l⟩ := es
    obtain ⟨a, b⟩ := RVd.rk I q rel pr
    exact .dct e ex.1 dd hs a b
theorem RVs.rk (I : Inv X pins σ H s) : ∀ {x : List V} {d : List D} {v : List Value}, RVs X.K H x d → Vals x v → RkA s.heap v d
  | _, _, _, .nil, r => by cases r; exact .nil
  | _, _, _, .cons a b, r => by
    cases r with
    | cons r1 r2 => exact .cons (RV.rk I a r1) (RVs.rk I b r2)
theorem RVd.rk (I : Inv X pins σ H s) : ∀ {x : List (Key × V)} {d : List (D × D)} {v : List (Key × Value)} {l : List DictEntry}, RVd X.K H x d → KV x v → Pairs (mixKind X.prog X.w) l v → RkA s.heap (l.map (·.key)) (d.map (·.1)) ∧ RkA s.heap (l.map (·.val)) (d.map (·.2))
  | _, _, _, _, .nil, r, p => by
    cases r
    cases p
    exact ⟨.nil, .nil⟩
  | _, _, _, _, .cons a b, r, p => by
    cases r with
    | cons r1 r2 =>
      cases p with
      | cons p1 p2 p3 =>
        obtain ⟨z1, z2⟩ := RVd.rk I b r2 p3
        obtain ⟨e1, e2⟩ := r1
        refine ⟨.cons (rk_key ?_) z1, .cons (RV.rk I a ?_) z2⟩
        · have q : keyIs _ _ = true := p1
          rw [← e1] at q
          exact q
        · rename_i e0 _
          show L2.RelV _ e0.val
          rw [p2]
          exact e2
end
def rShowX (K : PySem.W.Frag) : List V → Hp → VK → Prop := fun xs H Q => ∃ a d k n, xs = [V.ref a] ∧ RV K H (.ref a) d ∧ Gx k n d ∧ k ≤ 60 ∧ n ≤ 20000 ∧ Q (.str d.shown) H
theorem cr_showX (hg : X.A.guards = some []) (hu : X.A.units + 64 < cLine) : CallR X (.builtin "repr") (rShowX X.K) := by
  intro pins s σ H xs us Q I r h
  obtain ⟨a, d, k, n, rfl, hd, g, hk, hn, q⟩ := h
  obtain ⟨u, rfl, ru⟩ := vals1 r
  have rr := RV.rk I hd ru
  cases ru
  have fit := g.fits hn
  have hdp := g.f.dp
  have hsh := g.f.sh
  have fin : ∀ h' u tk, (∀ b o, s.heap.get? b = some o → h'.get? b = some o) → ∃ y H1, Inv X pins σ H1 { s with heap := h', toks := tk } ∧ RelV y (.str d.shown u) ∧ Q y H1 := fun h' u tk hk' => ⟨.str d.shown, H, I.kept hk', ⟨u, rfl⟩, q⟩
  cases rr with
  | lst k1 k2 k3 k4 =>
    rename_i o us n ds
    have zz : (listText (PyData.shownAll ds)).length ≤ sizeLine := by simpa only [PyData.shown] using fit
    obtain ⟨cs, c1, c2⟩ := RkA.shows (prog := X.prog) (w := X.w) k4 (by simpa [PyData.showable] using hsh) fun t ht => Nat.le_trans (listText_mem_le ht) zz
    obtain ⟨as, rr⟩ := Rk.rd (.lst k1 k2 k3 k4)
    have out : a ∉ cs := not_mem_of_deeper rr (by rw [PyData.depth]; omega) c1
    rw [PyData.depth] at hdp
    simp only [PyData.shown] at fin
    refine call_repr_slot (by omega) ⟨o, k1, k2⟩ F.slot_list_repr.toG ?_
    have fin2 : ∀ h' u tk, (∀ b o, s.heap.get? b = some o → h'.get? b = some o) → ∃ x t, Value.str (listText (PyData.shownAll ds)) u = Value.str x t ∧ ∃ y H1, Inv X pins σ H1 { s with heap := h', toks := tk } ∧ RelV y (.str (listText (PyData.shownAll ds)) u) ∧ Q y H1 := fun h' u tk hk => ⟨_, _, rfl, fin h' u tk hk⟩
    obtain ⟨us⟩ := us
    cases us with
    | nil =>
      have k4 : RkA s.heap [] ds := k4
      cases k4
      simp only [PyData.shownAll, listText_nil] at fin2
      exact call_list_repr_empty ⟨o, k1, k2⟩ k1 k3 (fin2 s.heap _ _ fun _ _ e => e)
    | cons u us =>
      exact call_list_reprK k1 k2 k3 out (by simpa using c2.length_eq) (fun i y e => c2.item i y (by simpa using e)) hg (fun b _ => Clear.nil b) (show X.A.units + 1 + (PyData.depthAll ds + 1) < cLine by omega) (fun _ _ e => e) fin2 zz
  | tup k1 k2 k3 k4 =>
    rename_i o us n ds
    have zz : (tupleText (PyData.shownAll ds)).length ≤ sizeLine := by simpa only [PyData.shown] using fit
    obtain ⟨cs, c1, c2⟩ := RkA.shows (prog := X.prog) (w := X.w) k4 (by simpa [PyData.showable] using hsh) fun t ht => Nat.le_trans (tupleText_mem_le ht) zz
    obtain ⟨as, rr⟩ := Rk.rd (.tup k1 k2 k3 k4)
    have out : a ∉ cs := not_mem_of_deeper rr (by rw [PyData.depth]; omega) c1
    rw [PyData.depth] at hdp
    simp only [PyData.shown] at fin
    refine call_repr_slot (by omega) ⟨o, k1, k2⟩ F.slot_tuple_repr ?_
    exact call_tuple_reprK k1 k2 k3 out c2 hg (fun b _ => Clear.nil b) (show X.A.units + 1 + (PyData.depthAll ds + 1) < cLine by omega) (fun _ _ e => e) (fun h' u tk hk => ⟨_, _, rfl, fin h' u tk hk⟩) zz
  | dct k1 k2 k3 k0 k4 k5 =>
    rename_i o es n ps
    have zz : (dictText (PyData.shownKv ps)).length ≤ sizeLine := by simpa only [PyData.shown] using fit
    obtain ⟨s1, s2⟩ := PyData.showableKv_split ps (by simpa [PyData.showable] using hsh)
    obtain ⟨c1, b1, e1⟩ := RkA.shows (prog := X.prog) (w := X.w) k4 s1 fun t ht => by
      obtain ⟨q, hq, hl⟩ := PyData.shownKv_key_le ps t ht
      exact Nat.le_trans hl (Nat.le_trans (dictText_mem_le hq) zz)
    obtain ⟨c2, b2, e2⟩ := RkA.shows (prog := X.prog) (w := X.w) k5 s2 fun t ht => by
      obtain ⟨q, hq, hl⟩ := PyData.shownKv_val_le ps t ht
      exact Nat.le_trans hl (Nat.le_trans (dictText_mem_le hq) zz)
    have d1 := PyData.depthAll_keys_le ps
    have d2 := PyData.depthAll_vals_le ps
    have bb : ReadAtMost s.heap (PyData.depthKv ps) (c1 ++ c2) := ReadAtMost.append (b1.mono d1) (b2.mono d2)
    obtain ⟨as, rr⟩ := Rk.rd (.dct k1 k2 k3 k0 k4 k5)
    have out : a ∉ c1 ++ c2 := not_mem_of_deeper rr (by rw [PyData.depth]; omega) bb
    rw [PyData.depth] at hdp
    simp only [PyData.shown, PyData.shownKv_eq] at fin
    refine call_repr_slot (by omega) ⟨o, k1, k2⟩ F.slot_dict_repr ?_
    have ent := ReprEntriesK.of_two es.toList _ _ (e1.more_le (fun b m => List.mem_append_left _ m) d1) (e2.more_le (fun b m => List.mem_append_right _ m) d2)
    exact call_dict_reprK k1 k2 k3 k0 out ent hg (fun b _ => Clear.nil b) (show X.A.units + 1 + (PyData.depthKv ps + 1) < cLine by omega) (fun _ _ e => e) (fun h' u tk hk => ⟨_, _, rfl, fin h' u tk hk⟩) (by rw [← PyData.shownKv_eq]; exact zz)
end
end Zl
end
section
set_option maxHeartbeats 1000000
namespace Zl
open PySem PySem.Spec PyProof.Rows L2
/-! ### repr, list, len, == of dicts; d.clear(); chains -/
section
variable {X : Cx}
def rShowXW : W → (W → Prop) → Prop := fun w q => match datB w with
  | some d => (∃ k n, Gx k n d ∧ k ≤ 60 ∧ n ≤ 20000) ∧ (match d with
    | .tuple _ => True
    | .list _ => True
    | .dict _ => True
    | _ => False) ∧ q (.d (.str d.shown))
  | none => False
theorem b_reprX (hg : X.A.guards = some []) (hu : X.A.units + 64 < cLine) : bi "repr" (r1 rShowXW) X := ⟨_, cr_showX hg hu, ar1_of fun P Hc H σ δ v w q Q R rv hr post => by
  unfold rShowXW at hr
  split at hr
  · rename_i d e
    obtain ⟨⟨k, n, g, hk, hn⟩, h3, hq⟩ := hr
    have r : RV X.K H v d := RV.mono (fun b o h => (nb_some (R.all.2.1 b o h)).2) (rv.datB R e)
    have z := post.at R (w := .d (.str d.shown)) (RV.str _) hq
    cases r with
    | lst a b c => exact ⟨_, _, k, n, rfl, RV.lst a b c, g, hk, hn, z⟩
    | tup a b c => exact ⟨_, _, k, n, rfl, RV.tup a b c, g, hk, hn, z⟩
    | dct a b => exact ⟨_, _, k, n, rfl, RV.dct a b, g, hk, hn, z⟩
    | _ => exact h3.elim
  · exact hr.elim⟩
/-- repr of what may be shown, its text told by a name -/
def rShowV : W → (W → Prop) → Prop := fun w q => match datB w with
  | some d => (∃ k n, Gx k n d ∧ k ≤ 60 ∧ n ≤ 20000) ∧ (match d with
    | .str _ => False
    | _ => True) ∧ ∀ S, S = d.shown → q (.d (.str S))
  | none => False
theorem b_reprV (hg : X.A.guards = some []) (hu : X.A.units + 64 < cLine) : bi "repr" (r1 rShowV) X := ⟨_, CallR.or (CallR.or (cr_showX hg hu) SkE.call_repr_int) cr_showS, ar1_of fun P Hc H σ δ v w q Q R rv hr post => by
  unfold rShowV at hr
  split at hr
  · rename_i d e
    obtain ⟨⟨k, n, g, hk, hn⟩, h3, hq⟩ := hr
    have r : RV X.K H v d := RV.mono (fun b o h => (nb_some (R.all.2.1 b o h)).2) (rv.datB R e)
    have z := post.at R (w := .d (.str d.shown)) (RV.str _) (hq _ rfl)
    cases r with
    | lst a b c => exact .inl (.inl ⟨_, _, k, n, rfl, RV.lst a b c, g, hk, hn, z⟩)
    | tup a b c => exact .inl (.inl ⟨_, _, k, n, rfl, RV.tup a b c, g, hk, hn, z⟩)
    | dct a b => exact .inl (.inl ⟨_, _, k, n, rfl, RV.dct a b, g, hk, hn, z⟩)
    | int i =>
      cases g with
      | g g =>
        cases g with
        | int _ _ hi => exact .inl (.inr ⟨i, rfl, Vq.int_log hi, z⟩)
    | bl b => exact .inr (.inl ⟨b, rfl, z⟩)
    | non => exact .inr (.inr ⟨rfl, z⟩)
    | str x => exact h3.elim
  · exact hr.elim⟩
def rListDz : W → (W → Prop) → Prop := fun w q => match dctW w with
  | some xs => xs.length ≤ sizeLine ∧ q (.new (xs.map fun p => keyD p.1))
  | none => False
theorem rvs_keys {K : PySem.W.Frag} {Hc H : Hp} : ∀ {v : List (Key × V)} {d : List (Key × D)}, RKs K H v d → RVs K Hc (v.map fun p => kV p.1) (d.map fun p => keyD p.1)
  | _, _, .nil => .nil
  | p :: ps, q :: qs, .cons ⟨h1, _⟩ t => by
    rw [List.map_cons, List.map_cons, h1]
    exact .cons (rv_key q.1) (rvs_keys t)
theorem t_listDz (hc : X.calm = true) : bt "list" (r1 rListDz) X := ⟨_, call_listD hc, ar1_of fun P Hc H σ δ v w q Q R rv hr post => by
  unfold rListDz at hr
  split at hr
  · rename_i xs e
    obtain ⟨hz, hq⟩ := hr
    obtain ⟨a, vs, rfl, h1, h2⟩ := RVw.dctW R rv e
    exact ⟨a, vs, rfl, h1, fun p hp => post.newL R hp (rvs_keys h2) (by rw [List.length_map]; exact hz) hq⟩
  · exact hr.elim⟩
def rLenDz : W → (W → Prop) → Prop := fun w q => match dctW w with
  | some xs => q (.d (.int (xs.length : Nat)))
  | none => False
theorem cr_lenD : CallR X (.builtin "len") (fun xs H Q => ∃ (a : Addr) (kvs : List (Key × V)), xs = [.ref a] ∧ Rd H a (.dK kvs) ∧ Q (.int (kvs.length : Nat)) H) := by
  intro pins s σ H xs us Q I r h
  obtain ⟨a, kvs, rfl, hd, q⟩ := h
  obtain ⟨u, rfl, ru⟩ := vals1 r
  cases ru
  exact d_len I hd fun t s' I' => ⟨.int (kvs.length : Nat), H, I', ⟨t, rfl⟩, q⟩
theorem b_lenD : bi "len" (r1 rLenDz) X := ⟨_, cr_lenD, ar1_of fun P Hc H σ δ v w q Q R rv hr post => by
  unfold rLenDz at hr
  split at hr
  · rename_i xs e
    obtain ⟨a, vs, rfl, h1, h2⟩ := RVw.dctW R rv e
    exact ⟨a, vs, rfl, h1, by rw [h2.len]; exact post.at R (w := .d (.int _)) (RV.int _) hr⟩
  · exact hr.elim⟩
/-! ### == of dicts whose values are ints -/
def isI (d : D) : Bool := match d with
  | .int _ => true
  | _ => false
def sameI (d : D) (o : Option D) : Bool := match d, o with
  | .int i, some (.int j) => decide (i = j)
  | _, _ => false
def eqKI (xs ys : List (Key × D)) : Bool := xs.length == ys.length && xs.all fun p => sameI p.2 (lookD ys p.1)
def sameV (v : V) (o : Option V) : Bool := match v, o with
  | .int i, some (.int j) => i == j
  | _, _ => false
def eqKV (ks ls : List (Key × V)) : Bool := ks.length == ls.length && ks.all fun p => sameV p.2 (valV ls p.1)
def rEqKI : R2 := fun x y H Q => ∃ a b ks ls, x = .ref a ∧ y = .ref b ∧ Rd H a (.dK ks) ∧ Rd H b (.dK ls) ∧ (∀ p ∈ ks, ∃ i, p.2 = .int i) ∧ (∀ p ∈ ls, ∃ i, p.2 = .int i) ∧ Q (.bl (eqKV ks ls)) H
theorem hits_int {A : Around} {s : Shared} {ls : List (Key × V)} {vb : List (Key × Value)} (rb : KV ls vb) (hl : ∀ p ∈ ls, ∃ i, p.2 = .int i) : ∀ {ks : List (Key × V)} {va : List (Key × Value)}, KV ks va → (∀ p ∈ ks, ∃ i, p.2 = .int i) →
    PySem.W.KeqHits A s vb va (ks.all fun p => sameV p.2 (valV ls p.1))
  | _, _, .nil, _ => .nil
  | (k, v) :: ks, (k', u) :: va, .cons r t, hk => by
    obtain ⟨e1, e2⟩ := r
    have e1 : k = k' := e1
    subst e1
    obtain ⟨i, hi⟩ := hk (k, v) List.mem_cons_self
    have hi : v = .int i := hi
    subst hi
    obtain ⟨tk, rfl⟩ := (show ∃ t, u = Value.int i t from e2)
    have ih := hits_int (A := A) (s := s) rb hl t fun p hp => hk p (List.mem_cons_of_mem _ hp)
    rw [List.all_cons]
    cases q : valV ls k with
    | none =>
      have z := rb.val k
      rw [q] at z
      cases hz : valueAt vb k with
      | some y => rw [hz] at z; cases z
      | none =>
        show PySem.W.KeqHits A s vb _ (sameV (.int i) none && _)
        exact .miss hz
    | some y =>
      obtain ⟨w', hw, rw'⟩ := RelO.some_of (v := y) (o := valueAt vb k) (by rw [← q]; exact rb.val k)
      have hj : ∃ j, y = .int j := by
        unfold valV at q
        cases f : ls.find? (fun kv => decide (kv.1 = k)) with
        | none => rw [f] at q; cases q
        | some p =>
          rw [f] at q
          cases q
          exact hl p (List.mem_of_find?_eq_some f)
      obtain ⟨j, rfl⟩ := hj
      obtain ⟨tk2, rfl⟩ := (show ∃ t, w' = Value.int j t from rw')
      exact .hit hw (SeqAt.EqAt.int_int i tk j tk2) ih
theorem op_eqKI (hu : X.A.units < cLine) : OpR X (compareOp .Eq) rEqKI := by
  intro pins s σ H x y v u Q I rx ry h
  obtain ⟨a, b, ks, ls, rfl, rfl, ea, eb, h1, h2, q⟩ := h
  cases rx
  cases ry
  obtain ⟨_, ya, va, ra, da⟩ := dk_rd I.hok ea
  obtain ⟨_, yb, vb, rb, db⟩ := dk_rd I.hok eb
  refine PySem.W.keq_eq (knd := mixKind X.prog X.w) (r := ks.all fun p => sameV p.2 (valV ls p.1)) ya yb da db hu (fun _ => hits_int rb h2 ra h1) ?_
  have e1 := ra.length
  have e2 := rb.length
  rw [← e1, ← e2]
  exact ⟨.bl (eqKV ks ls), H, I, rfl, q⟩
theorem rks_int {K : PySem.W.Frag} {H : Hp} : ∀ {v : List (Key × V)} {d : List (Key × D)}, RKs K H v d → (d.all fun p => isI p.2) = true → ∀ p ∈ v, ∃ i, p.2 = .int i
  | _, _, .nil, _, p, hp => by cases hp
  | _, _, .cons (a := x) (b := y) r t, h, p, hp => by
    rw [List.all_cons, Bool.and_eq_true] at h
    rcases List.mem_cons.mp hp with rfl | hp
    · obtain ⟨_, r2⟩ := r
      obtain ⟨k, d⟩ := y
      cases d with
      | int i =>
        obtain ⟨k2, v2⟩ := p
        have r2 : RV K H v2 (.int i) := r2
        cases r2
        exact ⟨i, rfl⟩
      | _ => cases h.1
    · exact rks_int t h.2 p hp
theorem eqKV_eq {K : PySem.W.Frag} {H H' : Hp} {ls : List (Key × V)} {ys : List (Key × D)} (rb : RKs K H ls ys) (hb : (ys.all fun p => isI p.2) = true) {ks : List (Key × V)} {xs : List (Key × D)} (ra : RKs K H' ks xs) (ha : (xs.all fun p => isI p.2) = true) : eqKV ks ls = eqKI xs ys := by
  unfold eqKV eqKI
  rw [ra.len, rb.len]
  congr 1
  induction ra with
  | nil => rfl
  | cons r t ih =>
    rename_i x y v d
    obtain ⟨x1, x2⟩ := x
    obtain ⟨y1, y2⟩ := y
    rw [List.all_cons, Bool.and_eq_true] at ha
    rw [List.all_cons, List.all_cons, ih ha.2]
    congr 1
    obtain ⟨r1, r2⟩ := r
    have r1 : x1 = y1 := r1
    subst r1
    have r2 : RV K H' x2 y2 := r2
    cases y2 with
    | int i =>
      cases r2
      have f := rb.find x1
      cases q : lookD ys x1 with
      | none => rw [f.2 q]; rfl
      | some z =>
        obtain ⟨z', e1, e2⟩ := f.1 z q
        rw [e1]
        have hz : isI z = true := by
          unfold lookD at q
          cases g : ys.find? (fun kv => decide (kv.1 = x1)) with
          | none => rw [g] at q; cases q
          | some p =>
            rw [g] at q
            cases q
            exact List.all_eq_true.mp hb p (List.mem_of_find?_eq_some g)
        cases z with
        | int j =>
          cases e2
          show (i == j) = decide (i = j)
          by_cases e : i = j
          · rw [e]; simp
          · rw [decide_eq_false e]; simpa using e
        | _ => cases hz
    | _ => cases ha.1
def rEqDd : W → W → (W → Prop) → Prop := fun x y q => match dctW x, dctW y with
  | some xs, some ys => (xs.all fun p => isI p.2) = true ∧ (ys.all fun p => isI p.2) = true ∧ q (.d (.bool (eqKI xs ys)))
  | _, _ => False
theorem rEqDd_ok {K : PySem.W.Frag} : Bi2 K rEqDd rEqKI := fun P Hc H σ δ v u w x q Q R rv ru hr post => by
  unfold rEqDd at hr
  split at hr
  · rename_i xs ys e1 e2
    obtain ⟨h1, h2, hq⟩ := hr
    obtain ⟨a, vs, rfl, k1, k2⟩ := RVw.dctW R rv e1
    obtain ⟨b, us, rfl, l1, l2⟩ := RVw.dctW R ru e2
    exact ⟨a, b, vs, us, rfl, rfl, k1, l1, rks_int k2 h1, rks_int l2 h2, by rw [eqKV_eq l2 h2 k2 h1]; exact post.at R (w := .d (.bool _)) (RV.bl _) hq⟩
  · exact hr.elim
section
variable {a b : Expr} {ta tb : TP} {pos : Pos}
theorem z_eqDd (hu : X.A.units < cLine) (ha : ZE X a ta) (hb : ZE X b tb) (hm : behindInMarks .Eq b = false) : ZE X (.Compare a [.Eq] [b] pos) (bZ ta tb rEqDd) := z_cmpR (op_eqKI hu) rEqDd_ok ha hb hm
theorem zt_eqDd (hu : X.A.units < cLine) (ha : ZE X a ta) (hb : ZE X b tb) (hm : behindInMarks .Eq b = false) : ZT X (.Compare a [.Eq] [b] pos) (tbZ (bZ ta tb rEqDd)) := zt_cmpR (op_eqKI hu) rEqDd_ok ha hb hm
/-! ### a op b op c of ints -/
def zChain (f g : Int → Int → Bool) (ta tb tc : TP) : TP := fun δ q => ta δ fun x => tb δ fun y => match held x, y with
  | .d (.int i), .d (.int j) => (match f i j with
    | true => tc δ fun z => (match z with
      | .d (.int k) => q (.d (.bool (g j k)))
      | _ => False)
    | false => q (.d (.bool false)))
  | _, _ => False
theorem chain_ok {K : PySem.W.Frag} {f g : Int → Int → Bool} {ta tb tc : TP} {σ : L2.St} {H : Hp} {Q : VK} (z : lft K (zChain f g ta tb tc) σ H Q) :
    tChain (rI0 fun i j => .bl (f i j)) (rI0 fun i j => .bl (g i j)) (lft K ta) (lft K tb) (lft K tc) σ H Q := by
  obtain ⟨P, Hc, δ, q, R, h, post⟩ := z
  refine ⟨P, Hc, δ, _, R, h, fun Hc1 H1 v w l1 f1 R1 rv hq => ⟨P, Hc1, δ, _, R1, hq, fun Hc2 H2 u x l2 f2 R2 ru hq2 => ?_⟩⟩
  split at hq2
  · rename_i i j e1
    have rw1 := rv.held (σ' := σ) (δ' := δ) l2 f2
    rw [e1] at rw1
    refine ⟨i, j, rw1.int, ru.int, f i j, rfl, ?_⟩
    cases hf : f i j with
    | true =>
      rw [hf] at hq2
      rw [if_pos rfl]
      refine ⟨P, Hc2, δ, _, R2, hq2, fun Hc3 H3 t y l3 f3 R3 rt hq3 => ?_⟩
      split at hq3
      · rename_i k
        exact ⟨j, k, ru.int, rt.int, post Hc3 H3 _ (.d (.bool _)) ((l1.trans l2).trans l3) ((f1.trans f2).trans f3) R3 (RV.bl _) hq3⟩
      · exact hq3.elim
    | false =>
      rw [hf] at hq2
      rw [if_neg (by decide)]
      exact post Hc2 H2 _ (.d (.bool _)) (l1.trans l2) (f1.trans f2) R2 (RV.bl _) hq2
  · exact hq2.elim
/-- which comparison of ints -/
structure CmI (X : Cx) (op : CmpOp) (f : Int → Int → Bool) : Prop where
  o : OpR X (compareOp op) (rI0 fun i j => .bl (f i j))
theorem cm_lt : CmI X .Lt fun i j => decide (i < j) := ⟨op_lt⟩
theorem cm_le : CmI X .LtE fun i j => decide (i ≤ j) := ⟨op_le⟩
theorem cm_gt : CmI X .Gt fun i j => decide (j < i) := ⟨op_gt⟩
theorem cm_ge : CmI X .GtE fun i j => decide (j ≤ i) := ⟨op_ge⟩
theorem z_chain {c : Expr} {tc : TP} {op op' : CmpOp} {f g : Int → Int → Bool} (h : CmI X op f) (h' : CmI X op' g) (ha : ZE X a ta) (hb : ZE X b tb) (hc : ZE X c tc) (hm : lastMarks [op, op'] [b, c] = false := by with_unfolding_all rfl) :
    ZE X (.Compare a [op, op'] [b, c] pos) (zChain f g ta tb tc) := pe_imp (pe_chain h.o h'.o ha hb hc hm) fun _ _ _ z => chain_ok z
theorem zt_chain {c : Expr} {tc : TP} {op op' : CmpOp} {f g : Int → Int → Bool} (h : CmI X op f) (h' : CmI X op' g) (ha : ZE X a ta) (hb : ZE X b tb) (hc : ZE X c tc) (hm : lastMarks [op, op'] [b, c] = false := by with_unfolding_all rfl) :
    ZT X (.Compare a [op, op'] [b, c] pos) (tbZ (zChain f g ta tb tc)) := pt_imp (pt_chain h.o h'.o ha hb hc hm) fun σ H Q z => chain_ok (tbZ_ok z)
end
/-! ### d.clear(), of a dict of the def's own -/
def zClr (i : Nat) : TZ := fun N δ => match δ[i]? with
  | some (.hd _) => N.nx (δ.set i (.hd []))
  | _ => False
theorem zs_clr {pos : Pos} {e : Expr} (i : Nat) (h : PS X (.Expr e pos) (tDrop (tBM0 X.K "dict" rDClear (tVar i)))) : ZS X (.Expr e pos) (zClr i) := ps_imp h fun Dn σ H => by
  rintro ⟨P, Hc, δ, N, R, h, E⟩
  unfold zClr at h
  split at h
  · rename_i xs e1
    obtain ⟨a, vs, h1, h2, h3, h4, h5, h6⟩ := R.slD e1
    exact ⟨.ref a, h1, .inr (.inr (.inl ⟨rfl, .inl ⟨vs, h3⟩⟩)), a, vs, rfl, rfl, h3, E.nx Hc _ σ _ (Le.refl _) (R.putD e1 h1 .nil) h⟩
  · exact h.elim
/-! ### return x, x a thing of the def's own: told as a new one -/
def PostR (K : PySem.W.Frag) (P : Pm) (Hc : Hp) (q : W → Prop) (Q : VK) : Prop := ∀ Hc' H' σ' δ' v w, Le Hc Hc' → RW K P Hc' H' σ' δ' → RVw K P Hc' H' σ' δ' v w → q w → Q v H'
def lftR (K : PySem.W.Frag) (t : TP) : TE := fun σ H Q => ∃ P Hc δ q, RW K P Hc H σ δ ∧ t δ q ∧ PostR K P Hc q Q
def ZR (X : Cx) (e : Expr) (t : TP) : Prop := PE X e (lftR X.K t)
section
variable {e : Expr} {te : TP} {pos : Pos}
theorem zr_of (h : ZE X e te) : ZR X e te := pe_imp h fun σ H Q => by
  rintro ⟨P, Hc, δ, q, R, ht, post⟩
  exact ⟨P, Hc, δ, q, R, ht, fun Hc' H' v w l f R' rv hq => post Hc' H' σ δ v w l R' rv hq⟩
theorem zs_retR (he : ZR X e te) : ZS X (.Return (some e) pos) (zRet te) := ps_imp (ps_ret he) fun D σ H => by
  rintro ⟨P, Hc, δ, N, R, h, E⟩
  exact ⟨P, Hc, δ, _, R, h, fun Hc' H' σ' δ' v w l R' rv hq => E.rt Hc' H' σ' δ' v w l R' rv hq⟩
theorem zr_if {c a b : Expr} {tc : TPt} {ta tb : TP} (hc : ZT X c tc) (ha : ZR X a ta) (hb : ZR X b tb) : ZR X (.IfExp c a b pos) (zIf tc ta tb) := by
  refine pe_imp (pe_ifExp hc ha hb) fun σ H Q => ?_
  rintro ⟨P, Hc, δ, q, R, ht, post⟩
  refine ⟨P, Hc, δ, _, R, ht, fun Hc' H' k e f' R' hq => ?_⟩
  have p2 : PostR X.K P Hc' q Q := fun Hc2 H2 σ2 δ2 v w l => post Hc2 H2 σ2 δ2 v w (e.trans l)
  cases k with
  | true => exact ⟨P, Hc', δ, q, R', hq, p2⟩
  | false => exact ⟨P, Hc', δ, q, R', hq, p2⟩
def zOwn (i : Nat) : TP := fun δ q => match δ[i]? with
  | some (.hl xs) => q (.new xs)
  | some (.hd xs) => q (.newd xs)
  | some (.w x) => q x
  | _ => False
theorem RW.forget {K : PySem.W.Frag} {P : Pm} {Hc H : Hp} {σ : L2.St} {δ : List Sl} (R : RW K P Hc H σ δ) (i : Nat) : RW K P Hc H σ (δ.set i .un) := by
  have hh : ∀ m, hotAt (δ.set i .un) m → i ≠ m ∧ hotAt δ m := fun m hm => by
    rcases hotAt_set hm with ⟨_, q⟩ | ⟨n, q⟩
    · cases q
    · exact ⟨n, q⟩
  refine ⟨R.base, R.fresh, R.cold, R.old, R.bag, by rw [List.length_set]; exact R.len, fun j t e => ?_, fun j k a hj hk => R.apart j k a (hh j hj).2 (hh k hk).2, fun q hq => ⟨(R.gst q hq).1, (R.gst q hq).2.1, fun j hj => (R.gst q hq).2.2 j (hh j hj).2⟩⟩
  rcases set_get e with ⟨rfl, rfl, hl⟩ | ⟨e1, e2⟩
  · trivial
  · exact R.sl j t e2
theorem zr_own (i : Nat) {x : Str} (hN : X.N[i]? = some x := by rfl) (hv : Vis X.env.scope x := by first | exact Or.inl rfl | exact Or.inr (Or.inl rfl) | exact Or.inr (Or.inr rfl)) (hd : (x == ("__debug__" : Str)) = false := by decide)
    (hcd : (x == ("__classdict__" : Str)) = false := by decide) : ZR X (.Name x pos) (zOwn i) := pe_imp (pe_var hN hv hd hcd) fun σ H Q => by
  rintro ⟨P, Hc, δ, q, R, ht, post⟩
  unfold zOwn at ht
  have ap : ∀ {s : Sl} {a : Addr}, δ[i]? = some s → s.hot = true → σ[i]? = some (some (.ref a)) → Apart P σ (δ.set i .un) a := fun {s a} e hs ea => by
    refine ⟨fun j hj ej => ?_, fun p hp pe => (R.gst p hp).2.2 i ⟨s, e, hs⟩ (by rw [ea, pe])⟩
    obtain ⟨t, et, ht⟩ := hj
    rcases set_get et with ⟨rfl, rfl, _⟩ | ⟨n, e2⟩
    · cases ht
    · exact n (R.apart i j a ⟨s, e, hs⟩ ⟨t, e2, ht⟩ ea ej)
  split at ht
  · rename_i xs e
    obtain ⟨a, h1, h2, h3⟩ := R.sl i _ e
    exact ⟨_, h1, post Hc H σ (δ.set i .un) _ (.new xs) (Le.refl _) (R.forget i) ⟨a, rfl, h2, h3, ap e rfl h1⟩ ht⟩
  · rename_i xs e
    obtain ⟨a, h1, h2, h3⟩ := R.sl i _ e
    exact ⟨_, h1, post Hc H σ (δ.set i .un) _ (.newd xs) (Le.refl _) (R.forget i) ⟨a, rfl, h2, h3, ap e rfl h1⟩ ht⟩
  · rename_i x e
    have z := R.sl i _ e
    cases x with
    | d y =>
      obtain ⟨v, h1, h2⟩ := z
      exact ⟨v, h1, post Hc H σ δ v (.d y) (Le.refl _) R h2 ht⟩
    | bag =>
      obtain ⟨a, h1, h2⟩ := z
      exact ⟨_, h2, post Hc H σ δ _ .bag (Le.refl _) R ⟨a, h1, rfl⟩ ht⟩
    | op v => exact ⟨v, z, post Hc H σ δ v (.op v) (Le.refl _) R rfl ht⟩
    | _ => exact z.elim
  · exact ht.elim
end
end
end Zl
end
section
set_option maxHeartbeats 1000000
set_option exponentiation.threshold 3000
namespace Zl
open PySem PySem.Spec PyProof.Rows L2
/-! ### dicts from events to something -/
def kvD (kvs : List (Key × D)) : D := .dict (kvs.map fun p => (keyD p.1, p.2))
theorem dctW_kv : ∀ kvs : List (Key × D), dctW (.d (kvD kvs)) = some kvs
  | [] => rfl
  | x :: l => by
    have h := dctW_kv l
    unfold dctW kvD at h ⊢
    change List.mapM _ _ = _ at h
    change List.mapM _ (_ :: _) = _
    rw [List.mapM_cons, h]
    obtain ⟨k, d⟩ := x
    cases k <;> rfl
def evK (f : Nat → D) (es : List Nat) : List (Key × D) := es.map fun (e : Nat) => (.inl (e : Int), f e)
def evD (f : Nat → D) (es : List Nat) : D := kvD (evK f es)
theorem dctW_ev (f : Nat → D) (es : List Nat) : dctW (.d (evD f es)) = some (evK f es) := dctW_kv _
theorem evK_len (f : Nat → D) (es : List Nat) : (evK f es).length = es.length := List.length_map _
theorem look_ev (f : Nat → D) : ∀ (es : List Nat) (e : Nat), lookD (evK f es) (.inl (e : Int)) = if e ∈ es then some (f e) else none
  | [], e => rfl
  | a :: es, e => by
    have ih := look_ev f es e
    unfold lookD evK at ih ⊢
    rw [List.map_cons, List.find?_cons]
    by_cases h : a = e
    · subst h
      rw [decide_eq_true rfl, if_pos List.mem_cons_self]
      rfl
    · have hk : ¬ (Sum.inl (a : Int) : Key) = Sum.inl (e : Int) := fun z => by
        injection z with z
        omega
      rw [decide_eq_false hk]
      show Option.map _ _ = _
      rw [ih]
      by_cases g : e ∈ es
      · rw [if_pos g, if_pos (List.mem_cons_of_mem _ g)]
      · rw [if_neg g, if_neg (fun z => by rcases List.mem_cons.mp z with z | z; exact h z.symm; exact g z)]
theorem keys_ev (f : Nat → D) (es : List Nat) : keysD ((evK f es).map fun p => (keyD p.1, p.2)) = es.map fun (e : Nat) => PyData.int (e : Nat) := by
  unfold keysD evK
  rw [List.map_map, List.map_map]
  rfl
theorem rdget_ev {f : Nat → D} {es : List Nat} {e : Nat} {p : D → Prop} (he : e ∈ es) (h : p (f e)) : (match dctW (.d (evD f es)), keyW (.d (.int (e : Nat))) with
    | some xs, some k => (match lookD xs k with
      | some d => p d
      | none => False)
    | _, _ => False) := by
  rw [dctW_ev]
  show (match lookD (evK f es) (.inl (e : Int)) with
    | some d => p d
    | none => False)
  rw [look_ev, if_pos he]
  exact h
theorem rdget_fk {ch : List (Nat × Nat)} {e i : Nat} {p : D → Prop} (he : lk ch e = some i) (h : p (.int (i : Nat))) : (match dctW (.d (dictD ch)), keyW (.d (.int (e : Nat))) with
    | some xs, some k => (match lookD xs k with
      | some d => p d
      | none => False)
    | _, _ => False) := by
  rw [dct_fk]
  show (match lookD (ch.map fkD) (.inl (e : Int)) with
    | some d => p d
    | none => False)
  rw [look_fk, he]
  exact h
theorem rdin_ev {f : Nat → D} {es : List Nat} {e : Nat} {p : Key → List (Key × D) → Prop} (h : p (.inl (e : Int)) (evK f es)) : (match keyW (.d (.int (e : Nat))), dctW (.d (evD f es)) with
    | some k, some xs => p k xs
    | _, _ => False) := by
  rw [dctW_ev]
  exact h
theorem dct_ev {f : Nat → D} {es : List Nat} {p : List (Key × D) → Prop} (h : p (evK f es)) : (match dctW (.d (evD f es)) with
    | some xs => p xs
    | none => False) := by
  rw [dctW_ev]
  exact h
theorem in_ev (f : Nat → D) (es : List Nat) (e : Nat) : (lookD (evK f es) (.inl (e : Int))).isSome = decide (e ∈ es) := by
  rw [look_ev]
  by_cases c : e ∈ es
  · rw [if_pos c, decide_eq_true c]; rfl
  · rw [if_neg c, decide_eq_false c]; rfl
theorem bs_map {β : Type} {l : List β} {f : β → Bool} {p : List Bool → Prop} (h : p (l.map f)) : (match bsD (l.map fun x => .bool (f x)) with
    | some bs => p bs
    | none => False) := by
  have e : (l.map fun x => PyData.bool (f x)) = (l.map f).map PyData.bool := by rw [List.map_map]; rfl
  rw [e, bsD_map]
  exact h
theorem two_ev {f g : Nat → D} {es : List Nat} {p : List (Key × D) → List (Key × D) → Prop} (h : p (evK f es) (evK g es)) : (match dctW (.d (evD f es)), dctW (.d (evD g es)) with
    | some xs, some ys => p xs ys
    | _, _ => False) := by
  rw [dctW_ev, dctW_ev]
  exact h
theorem ev_ints (f : Nat → Int) (es : List Nat) : ((evK (fun e => .int (f e)) es).all fun p => isI p.2) = true := by
  rw [List.all_eq_true]
  intro p hp
  obtain ⟨e, _, rfl⟩ := List.mem_map.mp hp
  rfl
theorem eqKI_ev (f g : Nat → Int) (es : List Nat) : eqKI (evK (fun e => .int (f e)) es) (evK (fun e => .int (g e)) es) = es.all fun e => decide (f e = g e) := by
  unfold eqKI
  rw [evK_len, evK_len, beq_self_eq_true, Bool.true_and]
  refine Bool.eq_iff_iff.mpr ?_
  have e1 : (evK (fun e => PyData.int (f e)) es).all (fun p => sameI p.2 (lookD (evK (fun e => PyData.int (g e)) es) p.1)) = es.all fun e => sameI (.int (f e)) (lookD (evK (fun e => PyData.int (g e)) es) (.inl (e : Int))) := by
    conv => lhs; arg 1; unfold evK
    rw [List.all_map]
    rfl
  rw [e1, List.all_eq_true, List.all_eq_true]
  refine forall_congr' fun e => forall_congr' fun he => ?_
  rw [look_ev, if_pos he]
  exact Iff.rfl
theorem zDComp_fm {β : Type} (enc : β → D) (f : β → Option (Nat × D)) {g : TGz} {tt : TPt} {tk te : TP} {q : W → Prop} {δ : List Sl} : ∀ (xs : List β) (acc : List (Key × D)),
    (acc.map (·.1) ++ (xs.filterMap f).map fun p => (.inl ((p.1 : Nat) : Int) : Key)).Nodup →
    (∀ x ∈ xs, ∀ (k : Key → D → Prop) (k0 : Prop), (∀ e y, f x = some (e, y) → k (.inl ((e : Nat) : Int)) y) → (f x = none → k0) → g (.d (enc x)) δ fun δ1 => tt δ1 fun b => if b = true then tk δ1 fun u => (match keyW u with
      | some ky => te δ1 fun w => (match w with
        | .d y => k ky y
        | _ => False)
      | none => False) else k0) →
    q (.newd (acc ++ (xs.filterMap f).map fun p => ((.inl ((p.1 : Nat) : Int) : Key), p.2))) → zDComp g tt tk te q δ (xs.map enc) acc
  | [], acc, _, _, h => by rw [List.filterMap_nil, List.map_nil, List.append_nil] at h; exact h
  | x :: xs, acc, nd, st, h => by
    refine st x List.mem_cons_self (fun ky y => zDComp g tt tk te q δ (xs.map enc) (putKD acc ky y)) (zDComp g tt tk te q δ (xs.map enc) acc) (fun e y ex => ?_) fun ex => ?_
    · rw [List.filterMap_cons_some ex] at nd h
      have hn : putKD acc (.inl ((e : Nat) : Int)) y = acc ++ [(.inl ((e : Nat) : Int), y)] := by
        unfold putKD
        rw [if_neg]
        intro z
        rw [List.any_eq_true] at z
        obtain ⟨p, hp, hd⟩ := z
        have hd := of_decide_eq_true hd
        rw [List.nodup_append] at nd
        exact nd.2.2 _ (List.mem_map.mpr ⟨p, hp, rfl⟩) _ (by rw [List.map_cons]; exact List.mem_cons_self) hd
      rw [hn]
      refine zDComp_fm enc f xs _ ?_ (fun z hz => st z (List.mem_cons_of_mem _ hz)) ?_
      · rw [List.map_append, List.append_assoc]
        exact nd
      · rw [List.append_assoc]
        exact h
    · rw [List.filterMap_cons_none ex] at nd h
      exact zDComp_fm enc f xs _ nd (fun z hz => st z (List.mem_cons_of_mem _ hz)) h
theorem nat_keys_nodup {l : List Nat} (h : l.Nodup) : (l.map fun (e : Nat) => (.inl ((e : Nat) : Int) : Key)).Nodup := h.map _ fun a b hab e => hab (by injection e with e; omega)
theorem zDComp_ev (f : Nat → D) {g : TGz} {tt : TPt} {tk te : TP} {q : W → Prop} {δ : List Sl} (es : List Nat) (nd : es.Nodup)
    (st : ∀ e ∈ es, ∀ (k : Key → D → Prop) (k0 : Prop), k (.inl ((e : Nat) : Int)) (f e) → g (.d (.int ((e : Nat) : Int))) δ fun δ1 => tt δ1 fun b => if b = true then tk δ1 fun u => (match keyW u with
      | some ky => te δ1 fun w => (match w with
        | .d y => k ky y
        | _ => False)
      | none => False) else k0) (h : q (.newd (evK f es))) : zDComp g tt tk te q δ (es.map fun (e : Nat) => PyData.int (e : Nat)) [] := by
  have e1 : es.filterMap (fun e => some (e, f e)) = es.map fun e => (e, f e) := congrFun (List.filterMap_eq_map (f := fun e => (e, f e))) es
  refine zDComp_fm (fun (e : Nat) => PyData.int (e : Nat)) (fun e => some (e, f e)) es [] ?_ (fun e he k k0 h1 _ => st e he k k0 (h1 e _ rfl)) ?_
  · rw [e1, List.map_map]
    exact nat_keys_nodup nd
  · rw [e1, List.map_map, List.nil_append]
    exact h
/-! ### sorted keys -/
theorem sorted_uniq : ∀ {a b : List Int}, a.Perm b → a.Pairwise (· ≤ ·) → b.Pairwise (· ≤ ·) → a = b
  | [], b, h, _, _ => by rw [List.nil_perm.mp h]
  | x :: a, [], h, _, _ => by cases List.perm_nil.mp h
  | x :: a, y :: b, h, ha, hb => by
    rw [List.pairwise_cons] at ha hb
    have h1 : y ≤ x := by
      rcases List.mem_cons.mp (h.mem_iff.mp List.mem_cons_self) with e | e
      · omega
      · exact hb.1 x e
    have h2 : x ≤ y := by
      rcases List.mem_cons.mp (h.mem_iff.mpr (List.mem_cons_self (a := y) (l := b))) with e | e
      · omega
      · exact ha.1 y e
    obtain rfl : x = y := by omega
    rw [sorted_uniq h.cons_inv ha.2 hb.2]
def srtN (l : List Nat) : List Nat := l.mergeSort fun a b => decide (a ≤ b)
theorem srtN_perm (l : List Nat) : (srtN l).Perm l := List.mergeSort_perm l _
theorem srtN_sorted (l : List Nat) : (srtN l).Pairwise (· ≤ ·) := by
  have := List.pairwise_mergeSort (le := fun a b : Nat => decide (a ≤ b)) (fun a b c h1 h2 => by simp at *; omega) (fun a b => by simp; omega) l
  exact this.imp fun h => of_decide_eq_true h
theorem srtN_mem {l : List Nat} {e : Nat} : e ∈ srtN l ↔ e ∈ l := (srtN_perm l).mem_iff
theorem srtN_nd {l : List Nat} (h : l.Nodup) : (srtN l).Nodup := (srtN_perm l).nodup_iff.mpr h
theorem srtN_is {l : List Nat} {ns : List Int} (hp : ns.Perm (l.map fun (e : Nat) => (e : Int))) (hs : ns.Pairwise (· ≤ ·)) : ns = (srtN l).map fun (e : Nat) => (e : Int) :=
  sorted_uniq (hp.trans ((srtN_perm l).symm.map _)) hs (List.pairwise_map.mpr ((srtN_sorted l).imp fun {a b} h => by omega))
theorem srtN_id {l : List Nat} (h : l.Pairwise (· ≤ ·)) : srtN l = l := by
  have e := srtN_is (l := l) (ns := l.map fun (e : Nat) => (e : Int)) (List.Perm.refl _) (List.pairwise_map.mpr (h.imp fun {a b} h => by omega))
  have inj : ∀ {a b : List Nat}, (a.map fun (e : Nat) => (e : Int)) = (b.map fun (e : Nat) => (e : Int)) → a = b := fun {a b} h => by
    have := congrArg (List.map Int.toNat) h
    rw [List.map_map, List.map_map] at this
    have id1 : ∀ l : List Nat, l.map (Int.toNat ∘ fun (e : Nat) => (e : Int)) = l := fun l => by
      have : (Int.toNat ∘ fun (e : Nat) => (e : Int)) = id := by funext x; rfl
      rw [this, List.map_id]
    rw [id1, id1] at this
    exact this
  exact (inj e).symm
/-! ### weights of chosen waits -/
def chE (ch : List (Nat × Nat)) : List Nat := srtN (ch.map (·.1))
def chO (s : Sys) (ch : List (Nat × Nat)) (e : Nat) : List Opt := match lk ch e with
  | some i => opts s i
  | none => []
def wfCl (es : List Nat) (O : OF) : Bool := es.all fun e => (O e).all fun o => decide (o.1 ∈ es)
def wfSt (N : Int) (O : OF) (es : List Nat) : Bool := es.all fun e => decide (wIt N O (es.length + 1) e = wIt N O es.length e)
def ownV (s : Sys) (ch : List (Nat × Nat)) (e : Nat) : D := .tuple [.int (((lk ch e).getD 0 : Nat) : Int), .int (wIt s.1 (chO s ch) (chE ch).length e)]
def wfW (s : Sys) (ch : List (Nat × Nat)) : W := if wfCl (chE ch) (chO s ch) = true ∧ wfSt s.1 (chO s ch) (chE ch) = true then .newd (evK (ownV s ch) (chE ch)) else .d .none
theorem wfCl_iff {es : List Nat} {O : OF} : wfCl es O = true ↔ Cl es O := by
  unfold wfCl Cl
  simp only [List.all_eq_true, decide_eq_true_eq]
theorem lk_some {ch : List (Nat × Nat)} {e : Nat} (h : e ∈ ch.map (·.1)) : ∃ i, lk ch e = some i := by
  obtain ⟨x, hx, rfl⟩ := List.mem_map.mp h
  unfold lk
  cases q : ch.find? fun y => decide (y.1 = x.1) with
  | none => exact absurd (decide_eq_true rfl) (List.find?_eq_none.mp q x hx)
  | some y => exact ⟨y.2, rfl⟩
structure WfIn (s : Sys) (ch : List (Nat × Nat)) : Prop where
  sys : SysIn s
  short : ∀ w ∈ s.2, w.2.length ≤ 1000
  nd : (ch.map (·.1)).Nodup
  ix : ∀ x ∈ ch, x.2 < s.2.length
  len : ch.length ≤ 1000
section
variable {P : Program} {w : World} {K : PySem.W.Frag} {mg : Str → Option Value} {base : Heap}
def sp_lower_weight : Spz := fun ws q => ∃ (N : Nat) (v : Nat → Int) (es : List Nat) (e : Nat) (O : OF), ws = [.d (.int N), .d (evD (fun e => .int (v e)) es), .d (.int (e : Nat)), .d (.tuple ((O e).map optD))] ∧ e ∈ es ∧ (∀ o ∈ O e, o.1 ∈ es) ∧ N ≤ 1000 ∧ (O e).length ≤ 1000 ∧ q (.d (.int (lowW N O v e)))
def sp_weights_for : Spz := fun ws q => ∃ (s : Sys) (ch : List (Nat × Nat)), ws = [.d (sysD s), .d (dictD ch)] ∧ WfIn s ch ∧ q (wfW s ch)
def wfS (s : Sys) (ch : List (Nat × Nat)) (a3 a4 a5 a6 a7 : Sl) : List Sl := [.w (.d (sysD s)), .w (.d (dictD ch)), .w (.d (.tuple (s.2.map waitD))), a3, a4, a5, a6, a7, .un, .un]
end
end Zl
end
section
set_option maxHeartbeats 1000000
namespace Zl
open PySem PySem.Spec PyProof.Rows L2
/-! ### == of a list of dicts and Nones with a list of Nones -/
theorem dict_not_none {P : Program} {w : World} {X2 : Type} [DecidableEq X2] {kd : KeyKind P w X2} {A : Around} {s : Shared} {a : Addr} {kvs : List (X2 × Value)} (da : s.heap.DictOf kd a kvs) (hu : A.units < cLine) : PySem.SeqAt.EqP P w A s (.ref a) .none false := fun E Q hq => by
  unfold eqBool
  refine wpAny_holding ?_
  refine wpAny_ite_split (fun z => absurd (eq_of_beq z) nofun) fun _ => ?_
  refine wpAny_bind ?_
  refine PySem.SeqAt.rc_eq_decline_or (k := false) (Q := fun r s1 => wpAny (model P w) A (truthOfDropped r) Q E s1) da.typeIs rfl (by decide) PySem.F.sub_NoneType_dict PySem.F.slot_dict_eq PySem.F.slot_NoneType_eq_refl (fun Q' z => ?_) (fun Q' z => ?_) (fun Q' z => ?_) (.inr hu) (wpAny_truthy_bool hq)
  · refine wpAny_call_entry PySem.F.slot_dict_eq da.typeIs PySem.F.entry_dict_eq ?_ (PySem.F.args_dict_eq_2 _ _)
    show wpAny _ _ (Builtin.Dict.dictSlotArgs "__eq__" ⟨[.ref a, .none], []⟩ >>= _) _ _ s
    refine wpAny_bind ?_
    unfold Builtin.Dict.dictSlotArgs
    refine wpAny_bind (wpAny_notOrdered_dict da.typeIs ?_)
    show wpAny _ _ (pure (Value.ref a, Value.none)) _ _ s
    refine wpAny_pure (wpAny_bind (wpAny_isInstance (T := "NoneType") rfl PySem.F.sub_NoneType_dict ?_))
    simp only [Bool.not_false, if_true]
    exact wpAny_bind (wpAny_rule (wpAny_pure ⟨_, rfl, z⟩))
  · exact call_gives PySem.F.slot_NoneType_eq_refl rfl PySem.F.entry_NoneType_eq (PySem.F.args_NoneType_eq_2 _ _) (PySem.SeqAt.NoneType___eq___none_ref_0 a) z
  · exact wpAny_of_eq (rfl : isSame (.ref a) .none = pure false) z
def rEqN : R2 := fun x y H Q => ∃ (l b : Addr) (vs us : List V), x = .ref l ∧ y = .ref b ∧ H l = some (.lst vs) ∧ H b = some (.lst us) ∧ us.length = vs.length ∧ (∀ u ∈ us, u = .non) ∧ (∀ v ∈ vs, v = .non ∨ ∃ d kvs, v = .ref d ∧ Rd H d (.dK kvs)) ∧
  Q (.bl (vs.all fun v => decide (v = .non))) H
theorem all_idx {α : Type} (l : List α) (p : α → Bool) (e : Nat → Bool) (h : ∀ i (hi : i < l.length), e i = p l[i]) : (List.range l.length).all e = l.all p := by
  refine Bool.eq_iff_iff.mpr ?_
  rw [List.all_eq_true, List.all_eq_true]
  constructor
  · intro z x hx
    obtain ⟨i, hi, rfl⟩ := List.mem_iff_getElem.mp hx
    rw [← h i hi]
    exact z i (List.mem_range.mpr hi)
  · intro z i hi
    have hi := List.mem_range.mp hi
    rw [h i hi]
    exact z _ (List.getElem_mem hi)
theorem op_eqN {X : Cx} (hu : X.A.units + 1 < cLine) : OpR X (compareOp .Eq) rEqN := by
  intro pins s σ H x y v u Q I rx ry h
  obtain ⟨l, b, vs, us, rfl, rfl, h1, h2, hl, hn, hd, q⟩ := h
  cases rx
  cases ry
  obtain ⟨_, its, n1, r1, e1⟩ := I.hok l _ h1
  obtain ⟨_, its2, n2, r2, e2⟩ := I.hok b _ h2
  have g1 := r1.length
  have g2 := r2.length
  refine PySem.SeqAt.rcP_lists (e := fun j => decide (vs[j]? = some .non)) (items := its.toArray) (items2 := its2.toArray) ⟨_, e1, rfl, n1, rfl⟩ ⟨_, e2, rfl, n2, rfl⟩ (by simp; omega) (by omega) (fun j k1 k2 => ?_) _ _ ?_
  · have k1 : j < its.length := by simpa using k1
    have k2 : j < its2.length := by simpa using k2
    have hj : j < vs.length := by omega
    have hj2 : j < us.length := by omega
    obtain ⟨a1, f1, f2⟩ := r1.get (List.getElem?_eq_getElem hj)
    obtain ⟨a2, f3, f4⟩ := r2.get (List.getElem?_eq_getElem hj2)
    have t1 : its.toArray[j] = a1 := by
      rw [List.getElem?_eq_getElem k1] at f1
      simpa using Option.some.inj f1
    have t2 : its2.toArray[j] = a2 := by
      rw [List.getElem?_eq_getElem k2] at f3
      simpa using Option.some.inj f3
    rw [t1, t2]
    rw [hn _ (List.getElem_mem hj2)] at f4
    cases (show a2 = Value.none from f4)
    show PySem.SeqAt.EqP _ _ _ _ _ _ (decide (vs[j]? = some .non))
    rw [List.getElem?_eq_getElem hj]
    rcases hd _ (List.getElem_mem hj) with z | ⟨d, kvs, z, rd⟩
    · rw [z] at f2 ⊢
      cases (show a1 = Value.none from f2)
      rw [decide_eq_true rfl]
      exact (PySem.SeqAt.EqAt.same _).eqP
    · rw [z] at f2 ⊢
      cases (show a1 = Value.ref d from f2)
      obtain ⟨_, _, ws, _, dd⟩ := dk_rd I.hok rd
      rw [decide_eq_false (fun z => nomatch z)]
      exact dict_not_none dd (show X.A.units + 1 < cLine from hu)
  · have e3 : (List.range its.toArray.size).all (fun j => decide (vs[j]? = some V.non)) = vs.all fun v => decide (v = .non) := by
      have : its.toArray.size = vs.length := by simp; omega
      rw [this]
      refine all_idx vs (fun v => decide (v = .non)) _ fun i hi => ?_
      rw [List.getElem?_eq_getElem hi]
      exact decide_eq_decide.mpr ⟨fun z => Option.some.inj z, fun z => by rw [z]⟩
    rw [e3]
    exact ⟨.bl _, H, I, rfl, q⟩
def isNonD (d : D) : Bool := match d with
  | .none => true
  | _ => false
def nonOrD (d : D) : Bool := match d with
  | .none => true
  | .dict _ => true
  | _ => false
def rEqNz : W → W → (W → Prop) → Prop := fun x y q => match lstW x, lstW y with
  | some xs, some ys => ys.length = xs.length ∧ (ys.all isNonD) = true ∧ (xs.all nonOrD) = true ∧ q (.d (.bool (xs.all isNonD)))
  | _, _ => False
theorem rvs_non {K : PySem.W.Frag} {H : Hp} : ∀ {v : List V} {d : List D}, RVs K H v d → (d.all nonOrD) = true → (∀ u ∈ v, u = .non ∨ ∃ a kvs, u = .ref a ∧ Rd H a (.dK kvs)) ∧ (v.all fun u => decide (u = .non)) = d.all isNonD
  | _, _, .nil, _ => ⟨fun u h => (by cases h), rfl⟩
  | _, _, .cons (v := x) (d := y) r t, h => by
    rw [List.all_cons, Bool.and_eq_true] at h
    obtain ⟨a, b⟩ := rvs_non t h.2
    rw [List.all_cons, List.all_cons, b]
    cases r with
    | non =>
      refine ⟨fun u hu => ?_, rfl⟩
      rcases List.mem_cons.mp hu with rfl | hu
      · exact .inl rfl
      · exact a u hu
    | dct k1 k2 =>
      refine ⟨fun u hu => ?_, rfl⟩
      rcases List.mem_cons.mp hu with rfl | hu
      · exact .inr ⟨_, _, rfl, k1⟩
      · exact a u hu
    | _ => cases h.1
theorem rvs_nones {K : PySem.W.Frag} {H : Hp} : ∀ {v : List V} {d : List D}, RVs K H v d → (d.all isNonD) = true → ∀ u ∈ v, u = .non
  | _, _, .nil, _, u, h => by cases h
  | _, _, .cons (d := y) r t, h, u, hu => by
    rw [List.all_cons, Bool.and_eq_true] at h
    rcases List.mem_cons.mp hu with rfl | hu
    · cases r with
      | non => rfl
      | _ => cases h.1
    · exact rvs_nones t h.2 u hu
theorem rEqNz_ok {K : PySem.W.Frag} : Bi2 K rEqNz rEqN := fun P Hc H σ δ v u w x q Q R rv ru hr post => by
  unfold rEqNz at hr
  split at hr
  · rename_i xs ys e1 e2
    obtain ⟨h1, h2, h3, hq⟩ := hr
    obtain ⟨a, vs, rfl, k1, k2, _⟩ := rv.lst R e1
    obtain ⟨b, us, rfl, l1, l2, _⟩ := ru.lst R e2
    obtain ⟨m1, m2⟩ := rvs_non (k2.mono R.coldH) h3
    exact ⟨a, b, vs, us, rfl, rfl, k1, l1, by rw [k2.len, l2.len]; exact h1, rvs_nones l2 h2, m1, by rw [m2]; exact post.at R (w := .d (.bool _)) (RV.bl _) hq⟩
  · exact hr.elim
theorem z_eqN {X : Cx} {a b : Expr} {ta tb : TP} {pos : Pos} (hu : X.A.units + 1 < cLine) (ha : ZE X a ta) (hb : ZE X b tb) (hm : behindInMarks .Eq b = false) : ZE X (.Compare a [.Eq] [b] pos) (bZ ta tb rEqNz) := z_cmpR (op_eqN hu) rEqNz_ok ha hb hm
/-! ### list(range(a, b)) -/
def zLstRg2 (ta tb : TP) : TP := fun δ q => ta δ fun w => tb δ fun u => match held w, u with
  | .d (.int i), .d (.int j) => RgOk i j ∧ q (.new (rngD i (j - i).toNat))
  | _, _ => False
theorem z_listRg2 {X : Cx} {a b : Expr} {ta tb : TP} {pos : Pos} {p p2 pos2 : Pos} (hc : X.calm = true) (hg : Gl X "list") (hm : X.mg "list" = none) (hg2 : Gl X "range") (hm2 : X.mg "range" = none) (ha : ZE X a ta) (hb : ZE X b tb)
    (na : starEach [.Call (.Name "range" p2) [a, b] [] pos2] X.env = (false, eval (.Call (.Name "range" p2) [a, b] [] pos2) X.env) :: starEach [] X.env := by rfl) (na2 : starEach [a, b] X.env = (false, eval a X.env) :: starEach [b] X.env := by rfl)
    (nb : starEach [b] X.env = (false, eval b X.env) :: starEach [] X.env := by rfl) (hp : (backTo pos2 (starEach [b] X.env)).any (·.1) = false := by rfl) :
    ZE X (.Call (.Name "list" p) [.Call (.Name "range" p2) [a, b] [] pos2] [] pos) (zLstRg2 ta tb) := pe_imp (pe_listRg hc hg hm (prg_2 hg2 hm2 ha hb na2 nb hp) na) fun σ H Q => by
  rintro ⟨P, Hc, δ, q, R, ht, post⟩
  refine ⟨P, Hc, δ, _, R, ht, fun Hc' H' v w l f R' rv hq => ⟨P, Hc', δ, _, R', hq, fun Hc2 H2 u x l2 f2 R2 ru hq2 => ?_⟩⟩
  split at hq2
  · rename_i i j e1
    have r1 := rv.held (σ' := σ) (δ' := δ) l2 f2
    rw [e1] at r1
    refine ⟨i, j, r1.int, ru.int, hq2.1, fun p hp => ?_⟩
    have hl : (rngD i (j - i).toNat).length ≤ sizeLine := by
      unfold rngD
      rw [List.length_map, List.length_range, sizeLine_eq]
      have := hq2.1.2.2.2.2
      omega
    exact post Hc2 _ _ (.new _) (l.trans l2) ((f.trans f2).trans (nb_new hp)) (R2.newO hp) (R2.hotNew hp (RVs.rg i (j - i).toNat) hl) hq2.2
  · exact hq2.elim
end Zl
end
section
set_option maxHeartbeats 1000000
/-! ### tuple(dict), tuple(range(n)), xs.index(y) -/
namespace RT
open PySem PySem.Spec PyProof.Rows PySem.W
section
variable {prog : Program} {w : World} {A : Around} {E : Value → Shared → Prop} {s : Shared} {T : String} {r d : Addr} {n : Nat} {P : Nat → Value → Prop} {OK : Heap → Prop}
theorem code_iadd_src {R : Result → Shared → Prop} (K : KdlSrc prog w T r d n P OK) (hh : A.handled = none) (hok : OK s.heap) (S : Addr) (hSr : S ≠ r) (hSd : S ≠ d) (c₀ : Nat) (hS : s.heap.get? S = some { cls := .type "list", data := .seq #[] c₀ })
    (hR : ∀ h' tk acc' c', (∀ b o, b ≠ S → s.heap.get? b = some o → h'.get? b = some o) → h'.get? S = some { cls := .type "list", dict := none, data := .seq acc' c', slots := #[] } → ItemsOf P acc' n → R (.ok (.ret (.ref S))) { s with heap := h', toks := tk }) (hn : n ≤ sizeLine) :
    codeAny (model prog w) A (.builtin "list.__iadd__" ⟨[.ref S, .ref r], []⟩) R s := by
  refine codeAny_builtin F.entry_list_iadd ?_
  rw [Around.under_plainId F.plain_list_iadd _]
  exact kdl_extend K hh hok S hSr hSd _ c₀ hS hR hn
theorem collect_src {Q : List Value → Shared → Prop} (K : KdlSrc prog w T r d n P OK) (hh : A.handled = none) (hok : OK s.heap) (hn : n ≤ sizeLine)
    (hQ : ∀ (h' : Heap) (tk : Nat) (acc : Array Value), (∀ b o, s.heap.get? b = some o → h'.get? b = some o) → ItemsOf P acc n → Q acc.toList { s with heap := h', toks := tk }) :
    wpAny (model prog w) A (collect (.ref r)) Q E s := by
  unfold collect
  refine wpAny_bind (wpAny_runValue (codeAny_builtin F.entry_proto_collect ?_))
  rw [Around.under_plainId F.plain_proto_collect _]
  show wpAny _ A.in1 (newList [] >>= fun l' => again (.builtin "list.__iadd__" ⟨[l', .ref r], []⟩)) _ _ s
  refine wpAny_bind (wpAny_newObj_type ?_)
  have hS₁ : (s.heap.push { cls := .type "list", data := .seq ([] : List Value).toArray }).get? s.heap.objs.size = some { cls := .type "list", data := .seq ([] : List Value).toArray } := Heap.get?_push_size _ rfl
  have hlt := K.there _ hok
  refine wpAny_pure ⟨plainId_quiet F.plain_list_iadd _, code_iadd_src (s := { s with heap := s.heap.push { cls := .type "list", data := .seq ([] : List Value).toArray } }) K hh (K.keep _ _ hok fun b _ o e => Heap.get?_push_of_some _ e) s.heap.objs.size (Nat.ne_of_gt hlt.1) (Nat.ne_of_gt hlt.2) 0 hS₁ (fun h' tk acc' c' hk hS' hacc => ?_) hn⟩
  show wpAny _ A (load s.heap.objs.size >>= _) _ _ _
  refine wpAny_bind (wpAny_load hS' ?_)
  refine wpAny_pure ?_
  exact hQ h' tk acc' (fun b o e => hk b o (Nat.ne_of_lt (Heap.lt_size e)) (Heap.get?_push_of_some _ e)) hacc
theorem code_tuple_new_src {Q₁ : Value → Shared → Prop} (K : KdlSrc prog w T r d n P OK) (hh : A.handled = none) (hok : OK s.heap) (hn : n ≤ sizeLine)
    (h : ∀ (h' : Heap) (tk : Nat) (acc : Array Value), (∀ b o, s.heap.get? b = some o → h'.get? b = some o) → ItemsOf P acc n →
      Q₁ (.ref h'.objs.size) { s with heap := h'.push { cls := .type "tuple", data := .seq acc }, toks := tk }) :
    codeAny (model prog w) A (.call (.builtin "tuple.__new__") ⟨[.type "tuple", .ref r], []⟩) (wants Q₁ E) s := by
  refine codeAny_of_tree ?_
  show wpAny _ A.in1 (do checkBuiltinCall "tuple.__new__" ⟨[.type "tuple", .ref r], []⟩; again (.builtin "tuple.__new__" ⟨[.type "tuple", .ref r], []⟩)) _ _ s
  refine wpAny_bind (wpAny_of_eq (F.newCall_tuple_1 _) (wpAny_pure ⟨plainId_quiet F.plain_tuple_new _, codeAny_builtin F.entry_tuple_new ?_⟩))
  rw [Around.under_plainId F.plain_tuple_new _]
  have hsub := sub_tuple_self
  have hinit := init_tuple_lookup
  have hmh := madeHere_tuple
  have hTI : s.TypeIs (.ref r) T := K.type s hok
  have hnt := K.notTuple
  have hh1 : A.in1.handled = none := hh
  wp_walk using wpAny_typeOf hTI, collect_src (A := A.in1) K hh1 hok hn
  all_goals first | (intro h' tk acc hk hacc
                     show wpAny _ _ (Builtin.Tuple.tupleExact acc.toList.toArray >>= fun v => ret v) _ _ _
                     unfold Builtin.Tuple.tupleExact
                     refine wpAny_bind (wpAny_newObj_type ?_ (by show acc.toList.toArray.size ≤ sizeLine; simp only [Array.toArray_toList]; rw [hacc.1]; exact hn))
                     refine wpAny_pure ?_
                     have e : acc.toList.toArray = acc := by simp
                     rw [e]
                     exact h h' tk acc hk hacc) | skip
theorem call_tuple_src {Q : Value → Shared → Prop} (K : KdlSrc prog w T r d n P OK) (hh : A.handled = none) (hok : OK s.heap) (hn : n ≤ sizeLine)
    (hQ : ∀ (h' : Heap) (tk : Nat) (acc : Array Value), (∀ b o, s.heap.get? b = some o → h'.get? b = some o) → ItemsOf P acc n →
      Q (.ref h'.objs.size) { s with heap := h'.push { cls := .type "tuple", data := .seq acc }, toks := tk }) :
    wpAny (model prog w) A (call (.type "tuple") [.ref r]) Q E s := by
  refine callType_codes (Q₁ := fun obj s₁ => s₁.TypeIs obj "tuple" ∧ Q obj s₁) F.called_tuple (F.typeCall_tuple_1 _) F.entry_object_init
    (code_tuple_new_src (A := A.in1) K hh hok hn fun h' tk acc hk hacc => ⟨⟨_, Heap.get?_push_size _ rfl, rfl⟩, hQ h' tk acc hk hacc⟩) fun obj s₁ h₁ => ?_
  exact ⟨h₁.1, F.args_object_init_2 obj _, object_init_meets F.called_tuple.init.lookup F.called_tuple.made (by decide) prog w A.in1 _ s₁ ⟨h₁.1, rfl, h₁.2⟩⟩
end
end RT
namespace Zl
open PySem PySem.Spec PyProof.Rows L2
theorem call_tupleD {X : Cx} (hcalm : X.calm = true) : CallR X (.type "tuple") (fun xs H Q => ∃ (a : Addr) (kvs : List (Key × V)), xs = [.ref a] ∧ Rd H a (.dK kvs) ∧ ∀ p, H p = none → Q (.ref p) (upd H p (.tup (kvs.map fun kv => kV kv.1)))) := by
  intro pins s σ H xs us Q I r q
  obtain ⟨a, kvs, ex, hd, q⟩ := q
  subst ex
  obtain ⟨u, eu, rx⟩ := vals1 r
  subst eu
  cases rx
  obtain ⟨z, lo, vs, rel, dd⟩ := dk_rd I.hok hd
  obtain ⟨ep, hat⟩ := dd.dictAt
  have ek : (kvs.map fun kv => kV kv.1) = vs.map fun p => kV p.1 := by
    have e := congrArg (List.map kV) rel.keys
    rw [List.map_map, List.map_map] at e
    exact e
  refine RT.call_tuple_src (PySem.W.kdl_dict (knd := mixKind X.prog X.w) (kvs := vs) (ep := ep) lo) (I.ok.hd hcalm) hat (by rw [← rel.length]; exact z) fun h' tk acc hk hacc => ?_
  have hv : Vals (vs.map fun p => kV p.1) acc.toList := keys_at (by rw [Array.length_toList]; exact hacc.1) fun j v e => hacc.2 j v (by rw [← Array.getElem?_toList]; exact e)
  have I2 : Inv X pins σ H { s with heap := h', toks := tk } := I.kept hk
  refine ⟨.ref h'.objs.size, upd H h'.objs.size (.tup (kvs.map fun kv => kV kv.1)), I2.laid (t' := tk) (fun c o e => Heap.get?_push_of_some _ e) (Nat.le_refl _) (show ObjOk X.prog X.w _ _ _ (.tup (kvs.map fun kv => kV kv.1)) from ⟨?_, acc.toList, by rw [ek]; exact hv, ?_⟩), rfl, q _ (I2.hok.fresh (Nat.le_refl _))⟩
  · rw [List.length_map]; exact z
  · rw [Array.toArray_toList]; exact IsTup.new _ _
def rTupDz : W → (W → Prop) → Prop := fun w q => match dctW w with
  | some xs => xs.length ≤ sizeLine ∧ q (.d (.tuple (xs.map fun p => keyD p.1)))
  | none => False
section
variable {X : Cx}
theorem t_tupDz (hc : X.calm = true) : bt "tuple" (r1 rTupDz) X := ⟨_, call_tupleD hc, ar1_of fun P Hc H σ δ v w q Q R rv hr post => by
  unfold rTupDz at hr
  split at hr
  · rename_i xs e
    obtain ⟨hz, hq⟩ := hr
    obtain ⟨a, vs, rfl, h1, h2⟩ := RVw.dctW R rv e
    exact ⟨a, vs, rfl, h1, fun p hp => post.newT R hp (rvs_keys h2) (by rw [List.length_map]; exact hz) hq⟩
  · exact hr.elim⟩
def zTupRg (ta : TP) : TP := fun δ q => ta δ fun w => match w with
  | .d (.int n) => (-(2 ^ 62) ≤ n ∧ n < 2 ^ 15) ∧ q (.d (.tuple (rngD 0 n.toNat)))
  | _ => False
theorem z_tupRg {a : Expr} {ta : TP} {pos p p2 pos2 : Pos} (hc : X.calm = true) (hg : Gl X "tuple") (hm : X.mg "tuple" = none) (hg2 : Gl X "range") (hm2 : X.mg "range" = none) (ha : ZE X a ta)
    (na : starEach [.Call (.Name "range" p2) [a] [] pos2] X.env = (false, eval (.Call (.Name "range" p2) [a] [] pos2) X.env) :: starEach [] X.env := by rfl) (na2 : starEach [a] X.env = (false, eval a X.env) :: starEach [] X.env := by rfl) :
    ZE X (.Call (.Name "tuple" p) [.Call (.Name "range" p2) [a] [] pos2] [] pos) (zTupRg ta) := pe_imp (pe_tupRg hc hg hm (prg_1 hg2 hm2 ha na2) na) fun σ H Q => by
  rintro ⟨P, Hc, δ, q, R, ht, post⟩
  refine ⟨P, Hc, δ, _, R, ht, fun Hc' H' v w l f R' rv hq => ?_⟩
  split at hq
  · rename_i n
    refine ⟨n, rv.int, ⟨by omega, by omega, by omega, by omega, by omega⟩, fun p hp => ?_⟩
    have r : RVs X.K Hc' (rgV 0 n) (rngD 0 n.toNat) := by
      have z := RVs.rg (K := X.K) (H := Hc') 0 (n - 0).toNat
      rw [Int.sub_zero] at z
      unfold rgV
      rw [Int.sub_zero]
      exact z
    have hl : (rngD 0 n.toNat).length ≤ sizeLine := by
      unfold rngD
      rw [List.length_map, List.length_range, sizeLine_eq]
      omega
    exact Post.newT (fun Hc2 H2 v2 w2 e2 f2 R2 rv2 q2 => post Hc2 H2 v2 w2 (l.trans e2) (f.trans f2) R2 rv2 q2) R' hp r hl hq.2
  · exact hq.elim
def zIndex (te tk : TP) : TP := fun δ q => te δ fun w => match lstW w with
  | some _ => tk δ fun u => (match datW (held w), datW u with
    | some (.list ds), some d => Shp d ∧ Shp (.list ds) ∧ ∃ (j : Nat) (z : D), ds[j]? = some z ∧ PyData.eqv z d = true ∧ (∀ (m : Nat) (z' : D), m < j → ds[m]? = some z' → PyData.eqv z' d = false) ∧ q (.d (.int (j : Nat)))
    | _, _ => False)
  | none => False
theorem zIndex_inv {w u : W} {q : W → Prop} (h : (match datW (held w), datW u with
    | some (.list ds), some d => Shp d ∧ Shp (.list ds) ∧ ∃ (j : Nat) (z : D), ds[j]? = some z ∧ PyData.eqv z d = true ∧ (∀ (m : Nat) (z' : D), m < j → ds[m]? = some z' → PyData.eqv z' d = false) ∧ q (.d (.int (j : Nat)))
    | _, _ => False)) : ∃ d ds, datW (held w) = some (.list ds) ∧ datW u = some d ∧ Shp d ∧ Shp (.list ds) ∧ ∃ (j : Nat) (z : D), ds[j]? = some z ∧ PyData.eqv z d = true ∧ (∀ (m : Nat) (z' : D), m < j → ds[m]? = some z' → PyData.eqv z' d = false) ∧ q (.d (.int (j : Nat))) := by
  split at h
  · exact ⟨_, _, by assumption, by assumption, h⟩
  · exact h.elim
theorem z_index {e k : Expr} {te tk : TP} {apos cpos : Pos} (hu : X.A.units + 65 < cLine) (ho : ZE X e te) (hk : ZE X k tk)
    (hbase : attributeBase e "index" X.env (eval e X.env) = eval e X.env := by rfl)
    (hfew : ((backTo cpos (starEach [k] X.env)).all (fun x => !x.1) && (backToKw cpos (keywordEach [] X.env)).all (fun x => x.1.isSome)
      && decide ([k].length + ([] : List Keyword).length + (if ([] : List Keyword).isEmpty then 0 else 1) < 30)) = true := by rfl)
    (hline : (apos.endLine == cpos.line) = true := by rfl) (hs : starEach [k] X.env = (false, eval k X.env) :: starEach [] X.env := by rfl) (hplain : (backTo cpos (starEach [] X.env)).any (·.1) = false := by rfl) :
    ZE X (.Call (.Attribute e "index" apos) [k] [] cpos) (zIndex te tk) := pe_imp (pe_bm PySem.F.plainAttrs_list PySem.F.slot_list_index PySem.F.type_list_index (mt_indexD hu) ho (pa_cons hk pa_nil hs) hbase hfew hline hs hplain) fun σ H Q => by
  rintro ⟨P, Hc, δ, q, R, ht, post⟩
  refine ⟨P, Hc, δ, _, R, ht, fun Hc' H' v w l f R' rv hq => ?_⟩
  split at hq
  · rename_i xs e0
    obtain ⟨a, vs, rfl, h1, h2, hz⟩ := rv.lst R' e0
    refine ⟨.inl ⟨rfl, vs, SqL.of h1⟩, P, Hc', δ, _, R', hq, fun Hc2 H2 u y l2 f2 R2 ru hq2 => ?_⟩
    obtain ⟨d, ds, e1, e2, s1, s2, j, z, g1, g2, g3, g4⟩ := zIndex_inv hq2
    have r1 := (rv.held (σ' := σ) (δ' := δ) l2 f2).dat R2 e1
    exact ⟨a, _, d, ds, j, z, rfl, rfl, r1.dp s2.1, (ru.dat R2 e2).dp s1.1, s2.2, s1.2, g1, g2, g3, post Hc2 H2 _ (.d (.int (j : Nat))) (l.trans l2) (f.trans f2) R2 (RV.int _) g4⟩
  · exact hq.elim
end
/-! ### x is True -/
theorem op_isB {X : Cx} : OpR X (compareOp .Is) (fun x y H Q => ∃ i j, x = .bl i ∧ y = .bl j ∧ Q (.bl (decide (i = j))) H) := by
  intro pins s σ H x y v u Q I rx ry h
  obtain ⟨i, j, rfl, rfl, q⟩ := h
  cases rx
  cases ry
  exact wpAny_is_plain rfl (fin_bl I q (by cases i <;> cases j <;> rfl))
theorem op_notB {X : Cx} : OpR X (compareOp .IsNot) (fun x y H Q => ∃ i j, x = .bl i ∧ y = .bl j ∧ Q (.bl (!decide (i = j))) H) := by
  intro pins s σ H x y v u Q I rx ry h
  obtain ⟨i, j, rfl, rfl, q⟩ := h
  cases rx
  cases ry
  exact wpAny_isNot_plain rfl (fin_bl I q (by cases i <;> cases j <;> rfl))
def rIsB (neg : Bool) : W → W → (W → Prop) → Prop := fun x y q => match x, y with
  | .d (.bool i), .d (.bool j) => q (.d (.bool (neg ^^ decide (i = j))))
  | _, _ => False
section
variable {X : Cx} {a b : Expr} {ta tb : TP} {pos : Pos}
theorem rIsB_ok {K : PySem.W.Frag} : Bi2 K (rIsB false) (fun x y H Q => ∃ i j, x = .bl i ∧ y = .bl j ∧ Q (.bl (decide (i = j))) H) := fun P Hc H σ δ v u w x q Q R rv ru hr post => by
  unfold rIsB at hr
  split at hr
  · exact ⟨_, _, rv.bool, ru.bool, post.at R (w := .d (.bool _)) (RV.bl _) (by simpa using hr)⟩
  · exact hr.elim
theorem rNotB_ok {K : PySem.W.Frag} : Bi2 K (rIsB true) (fun x y H Q => ∃ i j, x = .bl i ∧ y = .bl j ∧ Q (.bl (!decide (i = j))) H) := fun P Hc H σ δ v u w x q Q R rv ru hr post => by
  unfold rIsB at hr
  split at hr
  · exact ⟨_, _, rv.bool, ru.bool, post.at R (w := .d (.bool _)) (RV.bl _) (by simpa using hr)⟩
  · exact hr.elim
theorem z_isB (ha : ZE X a ta) (hb : ZE X b tb) (hm : behindInMarks .Is b = false) : ZE X (.Compare a [.Is] [b] pos) (bZ ta tb (rIsB false)) := z_cmpR op_isB rIsB_ok ha hb hm
theorem z_notB (ha : ZE X a ta) (hb : ZE X b tb) (hm : behindInMarks .IsNot b = false) : ZE X (.Compare a [.IsNot] [b] pos) (bZ ta tb (rIsB true)) := z_cmpR op_notB rNotB_ok ha hb hm
theorem zt_isB (ha : ZE X a ta) (hb : ZE X b tb) (hm : behindInMarks .Is b = false) : ZT X (.Compare a [.Is] [b] pos) (tbZ (bZ ta tb (rIsB false))) := zt_cmpR op_isB rIsB_ok ha hb hm
theorem zt_notB (ha : ZE X a ta) (hb : ZE X b tb) (hm : behindInMarks .IsNot b = false) : ZT X (.Compare a [.IsNot] [b] pos) (tbZ (bZ ta tb (rIsB true))) := zt_cmpR op_notB rNotB_ok ha hb hm
end
end Zl
end
section
set_option maxHeartbeats 1000000
/-! ### t.index(i) of a tuple of ints -/
namespace Zl
open PySem PySem.Spec PyProof.Rows L2
section
variable {X : Cx}
def rIndexTI (K : PySem.W.Frag) : V → List V → Hp → VK → Prop := fun x xs H Q => ∃ (p : Addr) (ns : List Int) (k : Int), x = .ref p ∧ xs = [.int k] ∧ SqT K H p (ns.map V.int) ∧ k ∈ ns ∧ Q (.int (ns.idxOf k : Nat)) H
theorem mt_tup_indexI : MtR X "tuple.index" (rIndexTI X.K) := by
  intro pins s σ H x xs v us Q I rx rs h
  obtain ⟨p, ns, k, rfl, rfl, hq, hk, q⟩ := h
  cases rx
  obtain ⟨u, rfl, t, rfl⟩ := vals1 rs
  obtain ⟨its, r, pl, hz⟩ := I.tuple hq
  exact SeqAt.tuple_index_ints (vs := its) pl (intsAre_of r) hk ⟨.int _, H, I.tok _, ⟨_, rfl⟩, q⟩
end
end Zl
end
section
set_option maxHeartbeats 2000000
/-! ### [e for x in xs for y in ys] -/
namespace Zl
open PySem PySem.Spec PyProof.Rows L2
def zComp2 (g : TGz) (it1 : TIz) (g1 : TGz) (te : TP) (vs1 : List Nat) (q : W → Prop) (δ : List Sl) : List D → List D → Prop
  | [], acc => q (.new acc)
  | d :: ds, acc => g (.d d) δ fun δ1 => it1 δ1 fun es => acc.length + es.length ≤ sizeLine ∧ zComp g1 zYes te (fun w => match w with
    | .new acc' => zComp2 g it1 g1 te vs1 q δ ds acc'
    | _ => False) (wipeZ δ1 vs1) es acc
def zLc2 (it : TIz) (g : TGz) (it1 : TIz) (g1 : TGz) (te : TP) (vs vs1 : List Nat) : TP := fun δ q => match coldAll δ vs with
  | true => it δ fun ds => zComp2 g it1 g1 te vs1 q (wipeZ δ vs) ds []
  | false => False
theorem lft_lc2 {K : PySem.W.Frag} {it it1 : TIz} {g g1 : TG} {gz gz1 : TGz} {te : TP} {vs vs1 : List Nat} {σ : L2.St} {H : Hp} {Q : VK} (hv : ∀ i ∈ vs1, i ∈ vs) (hg : GRel K vs g gz) (hg1 : GRel K vs1 g1 gz1) (h : lft K (zLc2 it gz it1 gz1 te vs vs1) σ H Q) :
    tLc2 (lftI K it) g tYes (lftI K it1) g1 tYes (lft K te) vs vs1 σ H Q := by
  obtain ⟨P, Hc, δ, q, R, h, post⟩ := h
  unfold zLc2 at h
  cases hcold : coldAll δ vs with
  | false =>
    rw [hcold] at h
    exact h.elim
  | true =>
  rw [hcold] at h
  refine ⟨P, Hc, δ, _, R, h, fun Hc1 H1 ds J l1 f1 R1 wk hq Dn hD => ?_⟩
  have free := R1.free hD
  have ap := R1.new_apart hD
  refine ⟨fun i m H => ∃ Hc2 acc accV, Le Hc1 Hc2 ∧ Le (nb P.g H1) (nb P.g H) ∧ RW K (P.add [(Dn, .hl acc)]) Hc2 H (L2.wipe σ vs) (wipeZ δ vs) ∧ H Dn = some (.lst accV) ∧ RVs K Hc2 accV acc ∧ m = ds.length - i ∧ i ≤ ds.length ∧ zComp2 gz it1 gz1 te vs1 q (wipeZ δ vs) (ds.drop i) acc, ⟨ds.length, Hc1, [], [], Le.refl _, nb_new hD, ?_, upd_same, .nil, by omega, Nat.zero_le _, hq⟩, ?_⟩
  · exact (R1.wipe vs).ghost hD .nil (Nat.zero_le _)
  rintro i m H2 ⟨Hc2, acc, accV, l2, f2, R2, hDn, hacc, rfl, hi, hz⟩
  have lim := wk.lim
  by_cases hlt : i < ds.length
  · refine .inr ⟨wk.goes i (P.add [(Dn, .hl acc)]) Hc2 H2 _ _ l2 R2 hlt, fun H => ∃ Hc2 acc accV, Le Hc1 Hc2 ∧ Le (nb P.g H1) (nb P.g H) ∧ RW K (P.add [(Dn, .hl acc)]) Hc2 H (L2.wipe σ vs) (wipeZ δ vs) ∧ H Dn = some (.lst accV) ∧ RVs K Hc2 accV acc ∧ zComp2 gz it1 gz1 te vs1 q (wipeZ δ vs) (ds.drop (i + 1)) acc, ?_, ?_⟩
    · rintro H3 ⟨Hc3, acc3, accV3, l3, f3, R3, a3, b3, z3⟩
      exact ⟨ds.length - (i + 1), by omega, Hc3, acc3, accV3, l3, f3, R3, a3, b3, rfl, hlt, z3⟩
    · intro x H3 y
      have e : ds[i]? = some ds[i] := by simp [hlt]
      obtain ⟨Hc3, l3, f3, R3, rv⟩ := wk.yields i (P.add [(Dn, .hl acc)]) Hc2 H2 _ _ x H3 _ l2 R2 e y
      have hz : zComp2 gz it1 gz1 te vs1 q (wipeZ δ vs) (ds[i] :: ds.drop (i + 1)) acc := by
        rw [List.drop_eq_getElem_cons hlt] at hz
        exact hz
      have f3 : Le (nb P.g H2) (nb P.g H3) := f3
      refine hg (P.add [(Dn, .hl acc)]) Hc3 H3 _ _ x (.d ds[i]) _ _ R3 rv hz fun σ4 δ4 e4 ez4 R4 hq4 => ⟨by rw [e4]; exact wipe_wipe vs σ, ?_⟩
      show lftI K it1 σ4 H3 _
      refine ⟨P.add [(Dn, .hl acc)], Hc3, δ4, _, R4, hq4, fun Hc5 H5 es J1 l5 f5 R5 wk1 hq5 => ?_⟩
      have f5 : Le (nb P.g H3) (nb P.g H5) := f5
      obtain ⟨hsz, hq5⟩ := hq5
      have here : ∀ {acc6 : List D} {Hc6 H6 : Hp} {σ6 : L2.St} {δ6 : List Sl}, RW K (P.add [(Dn, .hl acc6)]) Hc6 H6 σ6 δ6 → ∃ us, H6 Dn = some (.lst us) ∧ RVs K Hc6 us acc6 := fun {acc6 Hc6 H6 σ6 δ6} R6 => by
        obtain ⟨⟨b, eb, _, us, h1, _, _, h2, _⟩, _, _⟩ := R6.gst (Dn, .hl acc6) List.mem_cons_self
        cases eb
        exact ⟨us, h1, h2⟩
      have back : ∀ {acc6 : List D} {Hc6 H6 : Hp}, RW K (P.add [(Dn, .hl acc6)]) Hc6 H6 (L2.wipe σ4 vs1) (wipeZ δ4 vs1) → RW K (P.add [(Dn, .hl acc6)]) Hc6 H6 (L2.wipe σ vs) (wipeZ δ vs) := fun {acc6 Hc6 H6} R6 => by
        have z := R6.wipe vs
        rw [wipe_sub vs1 vs σ4 hv, wipeZ_sub vs1 vs δ4 hv, e4, ez4, wipe_wipe, wipeZ_wipe] at z
        exact z
      obtain ⟨us0, hu1, hu2⟩ := here R5
      refine ⟨fun j k H => ∃ Hc6 acc6 accV6, Le Hc5 Hc6 ∧ Le (nb P.g H1) (nb P.g H) ∧ RW K (P.add [(Dn, .hl acc6)]) Hc6 H (L2.wipe σ4 vs1) (wipeZ δ4 vs1) ∧ H Dn = some (.lst accV6) ∧ RVs K Hc6 accV6 acc6 ∧ acc6.length ≤ acc.length + j ∧ k = es.length - j ∧ j ≤ es.length ∧ zComp gz1 zYes te (fun w => match w with
        | .new acc' => zComp2 gz it1 gz1 te vs1 q (wipeZ δ vs) (ds.drop (i + 1)) acc'
        | _ => False) (wipeZ δ4 vs1) (es.drop j) acc6, ⟨es.length, Hc5, acc, us0, Le.refl _, (f2.trans f3).trans f5, R5.wipe vs1, hu1, hu2, Nat.le_refl _, by omega, Nat.zero_le _, hq5⟩, ?_⟩
      rintro j k H6 ⟨Hc6, acc6, accV6, l6, f6, R6, hDn6, hacc6, hle6, rfl, hj, hz6⟩
      by_cases hjl : j < es.length
      · refine .inr ⟨wk1.goes j (P.add [(Dn, .hl acc6)]) Hc6 H6 _ _ l6 R6 hjl, fun H => ∃ Hc6 acc6 accV6, Le Hc5 Hc6 ∧ Le (nb P.g H1) (nb P.g H) ∧ RW K (P.add [(Dn, .hl acc6)]) Hc6 H (L2.wipe σ4 vs1) (wipeZ δ4 vs1) ∧ H Dn = some (.lst accV6) ∧ RVs K Hc6 accV6 acc6 ∧ acc6.length ≤ acc.length + (j + 1) ∧ zComp gz1 zYes te (fun w => match w with
          | .new acc' => zComp2 gz it1 gz1 te vs1 q (wipeZ δ vs) (ds.drop (i + 1)) acc'
          | _ => False) (wipeZ δ4 vs1) (es.drop (j + 1)) acc6, ?_, ?_⟩
        · rintro H7 ⟨Hc7, acc7, accV7, l7, f7, R7, a7, b7, c7, z7⟩
          exact ⟨es.length - (j + 1), by omega, Hc7, acc7, accV7, l7, f7, R7, a7, b7, c7, rfl, hjl, z7⟩
        · intro x7 H7 y7
          have e7 : es[j]? = some es[j] := by simp [hjl]
          obtain ⟨Hc7, l7, f7, R7, rv7⟩ := wk1.yields j (P.add [(Dn, .hl acc6)]) Hc6 H6 _ _ x7 H7 _ l6 R6 e7 y7
          have hz7 : zComp gz1 zYes te (fun w => match w with
            | .new acc' => zComp2 gz it1 gz1 te vs1 q (wipeZ δ vs) (ds.drop (i + 1)) acc'
            | _ => False) (wipeZ δ4 vs1) (es[j] :: es.drop (j + 1)) acc6 := by
            rw [List.drop_eq_getElem_cons hjl] at hz6
            exact hz6
          have f7 : Le (nb P.g H6) (nb P.g H7) := f7
          refine hg1 (P.add [(Dn, .hl acc6)]) Hc7 H7 _ _ x7 (.d es[j]) _ _ R7 rv7 hz7 fun σ8 δ8 e8 ez8 R8 hq8 => ⟨by rw [e8]; exact wipe_wipe vs1 σ4, ?_⟩
          show lft K te σ8 H7 _
          refine ⟨P.add [(Dn, .hl acc6)], Hc7, δ8, _, R8, hq8, fun Hc9 H9 v w l9 f9 R9 rv9 hq9 => ?_⟩
          have f9 : Le (nb P.g H7) (nb P.g H9) := f9
          obtain ⟨us, h1, h2⟩ := here R9
          cases w with
          | d y =>
            have hus := h2.len
            have ng : ∀ q ∈ P.gh, q.1 ≠ Dn := ap.2
            have r2 : RVs K Hc9 (us ++ [v]) (acc6 ++ [y]) := h2.append (.one rv9)
            have hl2 : (acc6 ++ [y]).length ≤ sizeLine := by
              rw [List.length_append]
              show acc6.length + 1 ≤ _
              omega
            have back8 : RW K (P.add [(Dn, .hl acc6)]) Hc9 H9 (L2.wipe σ4 vs1) (wipeZ δ4 vs1) := by
              have z := R9.wipe vs1
              rw [e8, ez8, wipe_wipe, wipeZ_wipe] at z
              exact z
            refine ⟨us, h1, by omega, Hc9, acc6 ++ [y], us ++ [v], (l6.trans l7).trans l9, ?_, back8.ghostPut r2 hl2 ng, upd_same, r2, ?_, hq9⟩
            · intro b o eb
              have zz := (f6.trans f7).trans f9 b o eb
              obtain ⟨n1, n2⟩ := nb_some zz
              refine nb_of n1 ?_
              rw [upd_ne (fun z => ?_)]
              · exact n2
              · rw [z] at eb
                have := (nb_some eb).2
                rw [hD] at this
                cases this
            · rw [List.length_append]
              show acc6.length + 1 ≤ _
              omega
          | _ => exact hq9.elim
      · have ej : j = es.length := by omega
        subst ej
        rw [List.drop_length] at hz6
        exact .inl ⟨wk1.stops (P.add [(Dn, .hl acc6)]) Hc6 H6 _ _ l6 R6, Hc6, acc6, accV6, (((l2.trans l3).trans l5).trans l6), f6, back R6, hDn6, hacc6, hz6⟩
  · have ei : i = ds.length := by omega
    subst ei
    rw [List.drop_length] at hz
    refine .inl ⟨wk.stops (P.add [(Dn, .hl acc)]) Hc2 H2 _ _ l2 R2, ?_⟩
    have R5 : RW K P Hc2 H2 σ δ := R1.unwipe R2.drop l2 f2 hcold
    obtain ⟨⟨b, eb, hc, us, h1, hF, hg', h2⟩, _, h3⟩ := R2.gst (Dn, .hl acc) List.mem_cons_self
    cases eb
    exact post Hc2 H2 _ (.new acc) (l1.trans l2) (f1.trans f2) R5 ⟨Dn, rfl, hc, ⟨us, h1, hF, hg', h2⟩, ap.1, ap.2⟩ hz
section
variable {X : Cx}
theorem z_lc2 {elt tg iter tg1 iter1 : Expr} {scope : Scope} {own : List (Str × Nat)} {vs1 : List Nat} {pos : Pos} {wi wi1 : TIz} {g g1 : TG} {gz gz1 : TGz} {te : TP} (hc : X.calm = true) (hN : X.N.Nodup) (hi : ZI X tg iter wi) (ok : BlkOk X.N X.env.scope scope own) (hv : ∀ i ∈ vs1, i ∈ own.map (·.2))
    (hg : ∀ (s : Shared) (H : Hp) (C : Addr) (cl : List (Str × Addr)) (fp : List Addr), PG (X.blk s H scope (compEnvC scope cl C X.env) fp) tg g) (gr : GRel X.K (own.map (·.2)) g gz)
    (hi1 : ∀ (s : Shared) (H : Hp) (C : Addr) (cl : List (Str × Addr)) (fp : List Addr), ZI (X.blk s H scope (compEnvC scope cl C X.env) fp) tg1 iter1 wi1)
    (hg1 : ∀ (s : Shared) (H : Hp) (C : Addr) (cl : List (Str × Addr)) (fp : List Addr), PG (X.blk s H scope (compEnvC scope cl C X.env) fp) tg1 g1) (gr1 : GRel X.K vs1 g1 gz1)
    (he : ∀ (s : Shared) (H : Hp) (C : Addr) (cl : List (Str × Addr)) (fp : List Addr), ZE (X.blk s H scope (compEnvC scope cl C X.env) fp) elt te) (hs : ∀ x, foldedSetIterable iter X.env x = pure x := by intro _; rfl) (hs1 : ∀ env x, foldedSetIterable iter1 env x = pure x := by intro _ _; rfl) :
    ZE X (.ListComp elt [⟨tg, iter, [], 0⟩, ⟨tg1, iter1, [], 0⟩] scope pos) (zLc2 wi gz wi1 gz1 te (own.map (·.2)) vs1) :=
  pe_imp (pe_lc2 (wi1 := lftI X.K wi1) (tt := tYes) (tt1 := tYes) (te := lft X.K te) hc hN hi ok hv hg (fun _ _ _ _ _ => pts_nil) hi1 hg1 (fun _ _ _ _ _ => pts_nil) he hs hs1) fun _ _ _ h => lft_lc2 hv gr gr1 h
end
end Zl
end
section
set_option maxHeartbeats 4000000
/-! ### sorted(set([ints])) -/
namespace Zl
open PySem PySem.Spec PyProof.Rows L2
def newSet (w : World) : Obj := { cls := .type "set", dict := none, data := .set #[] 0 (.fresh 0 0 (!w.params.followText "set-order")) }
section
variable {P : Program} {w : World} {A : Around} {E : Value → Shared → Prop} {s : Shared}
/-- what set.__init__ does with a list of ints -/
theorem init_set_list {l S : Addr} {items : Array Value} {ns : List Int} {R : Result → Shared → Prop} (hh : A.handled = none) (hl : s.heap.IsList l items) (hit : IntsAre items.toList ns) (hb : ns.length + 1 < scanBound) (hS : s.heap.get? S = some (newSet w)) (hne : S ≠ l)
    (h : ∀ (h' : Heap) (tk c : Nat), SetR w h' S (fun j => decide (j ∈ ns)) c → c ≤ ns.length → (∀ b o, b ≠ S → s.heap.get? b = some o → h'.get? b = some o) → R (.ok (.ret .none)) { s with heap := h', toks := tk }) :
    wpAny (model P w) A.in1 (Builtin.«set.__init__» ⟨[.ref S, .ref l], []⟩)
      (fun fin s' => match fin with | .done f => R (.ok f) s' | .again c' => c'.quiet = true ∧ codeAny (model P w) A c' R s') (fun e s' => R (.error e) s') s := by
  have hsz : items.size = ns.length := by
    have q := IntsAre.length hit
    rw [Array.length_toList] at q
    exact q
  have hl1 := hl
  obtain ⟨ol, hol, hcl, nl, hdl⟩ := hl
  obtain ⟨ocls, odict, odata, oslots⟩ := ol
  simp only at hcl hdl
  subst hcl
  subst hdl
  have hsls := F.sub_list_set
  have hslf := F.sub_list_frozenset
  have hnd : (Value.type "list" == Value.type "dict") = false := by decide
  unfold Builtin.«set.__init__» noKeywords Builtin.Frozenset.updateFrom
  generalize hPI : pyIter = PI
  wp_walk
  subst hPI
  have hlS : l < s.heap.objs.size := Heap.lt_size hol
  have hSS : S < s.heap.objs.size := Heap.lt_size hS
  refine wpAny_pyIter_list hl1 ?_
  refine wpAny_bind (wpAny_runValue ?_)
  have hh3 : A.in1.in1.handled = none := by simp [hh]
  have hval : ∀ (i : Nat) (v : Value), items[i]? = some v → ∃ k t, ns[i]? = some k ∧ v = .int k t := fun i v hv => by
    have hi : i < ns.length := by rw [← hsz]; exact (Array.getElem?_eq_some_iff.mp hv).1
    obtain ⟨t, e⟩ := IntsAre.int_at hit i v (by rw [Array.getElem?_toList]; exact hv)
    refine ⟨ns[i], t, List.getElem?_eq_getElem hi, ?_⟩
    rw [e, List.getD_eq_getElem?_getD, List.getElem?_eq_getElem hi]
    rfl
  refine set_update_ints ((Walks.list hh3 _ l (Nat.ne_of_lt hlS) items).toS) S (by
    simp only [List.mem_cons, List.not_mem_nil, or_false, not_or]
    exact ⟨Nat.ne_of_lt hSS, hne⟩) ns hsz hb hval (items.size - 0) 0 _ (by omega) (Nat.zero_le _) ?st ⟨0, Nat.le_refl 0, setR_new_at (Heap.get?_push_of_some _ hS)⟩ ?fin
  case st => exact ⟨⟨_, Heap.get?_push_size _ rfl, rfl, rfl⟩, hl1.push _⟩
  case fin =>
    intro s' c hm hc hR
    rw [Moved.eq_with hm]
    refine wpAny_pure ?_
    refine wpAny_pure ?_
    exact h s'.heap s'.toks c hR (by rw [← hsz]; exact hc) fun b o hb2 e => hm.heap b o (by
      simp only [List.mem_cons, List.not_mem_nil, or_false, not_or]
      exact ⟨hb2, Nat.ne_of_lt (Heap.lt_size e)⟩) (Heap.get?_push_of_some _ e)
set_option maxHeartbeats 8000000 in
/-- set(xs) of a list of ints -/
theorem call_set_ints {l : Addr} {items : Array Value} {ns : List Int} {Q : Value → Shared → Prop} (hh : A.handled = none) (hl : s.heap.IsList l items) (hit : IntsAre items.toList ns) (hb : ns.length + 1 < scanBound)
    (h : ∀ (h' : Heap) (tk c : Nat), SetR w h' s.heap.objs.size (fun j => decide (j ∈ ns)) c → c ≤ ns.length → (∀ b o, s.heap.get? b = some o → h'.get? b = some o) → Q (.ref s.heap.objs.size) { s with heap := h', toks := tk }) :
    wpAny (model P w) A (call (.type "set") [.ref l]) Q E s := by
  have called := F.called_set
  obtain ⟨c, tl, hmro⟩ := called.mro
  have hmade := called.made
  have hsub := called.sub
  refine wpAny_call (codeAny_of_tree ?_)
  show wpAny _ _ (callAny (.type "set") _) _ _ _
  refine wpAny_pure ⟨Code.quiet_builtin _ (by decide +kernel), codeAny_builtin F.entry_type_call ?_⟩
  rw [Around.under_plain (weight_type_call_type "set" [.ref l] []) rfl]
  have h1 := called.notType
  have h2 := called.canCreate
  have hct := F.typeCall_set_1 (.ref l)
  repeat (any_goals (first | assumption | wp_step))
  refine codeAny_mono (code_set_led1 (.ref l) (E := E) (Q₁ := fun obj s₁ => obj = .ref s.heap.objs.size ∧ s₁ = { s with heap := s.heap.push (newSet w) }) ⟨rfl, rfl⟩) fun r s₁ hr => ?_
  match r, hr with
  | .error e, hr => exact hr
  | .ok (.ret obj), hr =>
    obtain ⟨rfl, rfl⟩ := hr
    have hS : (s.heap.push (newSet w)).get? s.heap.objs.size = some (newSet w) := Heap.get?_push_size _ rfl
    have hT : Shared.TypeIs { s with heap := s.heap.push (newSet w) } (.ref s.heap.objs.size) "set" := ⟨_, hS, rfl⟩
    have hli := called.init.lookup
    have hbi := called.init.bind (.ref s.heap.objs.size)
    repeat (any_goals (first | assumption | wp_step))
    have hll : l < s.heap.objs.size := by
      obtain ⟨o, ho, _⟩ := id hl
      exact Heap.lt_size ho
    refine codeAny_mono (codeAny_call_builtin (R := wants (fun r s₂ => r = .none ∧ Q (.ref s.heap.objs.size) s₂) E) called.init.plain F.entry_set_init (check_set_init_1 hT (init_set_list (s := { s with heap := s.heap.push (newSet w) }) (by simp [hh]) (hl.push _) hit hb hS (Nat.ne_of_gt hll) fun h' tk c hR hc hk => ?_))) fun r₂ s₂ hr₂ => ?_
    · exact ⟨rfl, h h' tk c hR hc fun b o e => hk b o (Nat.ne_of_lt (Heap.lt_size e)) (Heap.get?_push_of_some _ e)⟩
    · match r₂, hr₂ with
      | .error e, hr₂ => exact hr₂
      | .ok (.ret r), hr₂ =>
        obtain ⟨rfl, hq⟩ := hr₂
        repeat (any_goals (first | assumption | wp_step))
end
def tSortSet (K : PySem.W.Frag) (ta : TE) : TE := fun σ H Q => ta σ H fun x H1 => ∃ (l : Addr) (ns : List Int), x = V.ref l ∧ SqL K H1 l (ns.map V.int) ∧ ns.length < 64 ∧ ∀ (ms : List Int) (p : Addr), ms.Pairwise (· < ·) → (∀ k, k ∈ ms ↔ k ∈ ns) → ms.length ≤ ns.length → H1 p = none → Q (.ref p) (upd H1 p (.lst (ms.map V.int)))
theorem pe_sortSet {X : Cx} {a : Expr} {ta : TE} {p p2 q pos : Pos} (hc : X.calm = true) (hg : Gl X "sorted") (hm : X.mg "sorted" = none) (hg2 : Gl X "set") (hm2 : X.mg "set" = none) (ha : PE X a ta)
    (na : starEach [a] X.env = (false, eval a X.env) :: starEach [] X.env := by rfl) : PE X (.Call (.Name "sorted" p) [.Call (.Name "set" p2) [a] [] q] [] pos) (tSortSet X.K ta) := by
  refine ⟨fun pins s σ H Q I h => ?_⟩
  refine Call_ (ld_blt I hg hm boot_sorted ?_)
  refine callWith_builtin1 (args_cons ?_ rfl) rfl rfl
  refine Call_ (ld_blt I hg2 hm2 boot_set ?_)
  refine callWith_type1 (args_cons (thn (ha.run pins s σ H _ I h) fun v s1 ⟨x, H1, I1, r1, q1⟩ => args_nil ?_) na) na rfl
  obtain ⟨l, ns, rfl, hq, hl, q1⟩ := q1
  cases r1
  obtain ⟨its, r, pl, hz⟩ := I1.list hq
  refine call_set_ints (I1.ok.hd hc) pl.isList (by simpa using intsAre_of r) (by unfold scanBound; omega) fun h' tk c hR hcn hk => ?_
  refine args_nil ?_
  have I2 : Inv X pins σ H1 { s1 with heap := h', toks := tk } := I1.kept hk
  refine sorted_set hR (I2.ok.hd hc) (by omega) fun s' p out c2 ms k g o hp hg hi hs hm hl2 => ?_
  have hlen : (ms.map V.int).length ≤ sizeLine := by rw [List.length_map, hl2, sizeLine_eq]; omega
  have hn : H1 p = none := I2.hok.fresh hp
  have J : Inv X pins σ (upd H1 p (.lst (ms.map V.int))) { ({ s1 with heap := h', toks := tk } : Shared) with heap := s'.heap, gens := s'.gens, drawn := s'.drawn, toks := s'.toks } :=
    I2.call (ch := []) (Un.laid k hp hn) (I2.hok.laid k hp ⟨hlen, out.toList, c2, vals_of_ints hi, hg⟩) (by rw [g]; exact I2.bare) (fun _ z => nomatch z)
  have e : s' = { ({ s1 with heap := h', toks := tk } : Shared) with heap := s'.heap, gens := s'.gens, drawn := s'.drawn, toks := s'.toks } := by
    cases s'
    cases s1
    cases o
    rfl
  rw [e]
  exact ⟨.ref p, _, J, rfl, q1 ms p hs (fun k => by rw [hm k]; exact decide_eq_true_iff) (by rw [hl2]; exact hcn) hn⟩
def zSortSet (ta : TP) : TP := fun δ q => ta δ fun w => match lstW w with
  | some xs => (match intsD xs with
    | some ns => ns.length < 64 ∧ ∀ ms : List Int, ms.Pairwise (· < ·) → (∀ k, k ∈ ms ↔ k ∈ ns) → ms.length ≤ ns.length → q (.new (ms.map PyData.int))
    | none => False)
  | none => False
theorem rvs_ofInts {K : PySem.W.Frag} {H : Hp} : ∀ ns : List Int, RVs K H (ns.map V.int) (ns.map PyData.int)
  | [] => .nil
  | n :: ns => .cons (.int n) (rvs_ofInts ns)
theorem z_sortSet {X : Cx} {a : Expr} {ta : TP} {p p2 q pos : Pos} (hc : X.calm = true) (hg : Gl X "sorted") (hm : X.mg "sorted" = none) (hg2 : Gl X "set") (hm2 : X.mg "set" = none) (ha : ZE X a ta)
    (na : starEach [a] X.env = (false, eval a X.env) :: starEach [] X.env := by rfl) : ZE X (.Call (.Name "sorted" p) [.Call (.Name "set" p2) [a] [] q] [] pos) (zSortSet ta) := pe_imp (pe_sortSet hc hg hm hg2 hm2 ha na) fun σ H Q => by
  rintro ⟨P, Hc, δ, q, R, ht, post⟩
  refine ⟨P, Hc, δ, _, R, ht, fun Hc' H' v w l f R' rv hq => ?_⟩
  split at hq
  · rename_i xs e0
    split at hq
    · rename_i ns e1
      obtain ⟨a, vs, rfl, h1, h2, hz⟩ := rv.lst R' e0
      have := RVs.ints h2 e1
      subst this
      refine ⟨a, ns, rfl, SqL.of h1, hq.1, fun ms p hs hk hlm hp => ?_⟩
      have hml : ms.length ≤ sizeLine := by
        have := hq.1
        rw [sizeLine_eq]
        omega
      exact post Hc' _ _ (.new (ms.map PyData.int)) l (f.trans (nb_new hp)) (R'.newO hp) (R'.hotNew hp (rvs_ofInts ms) (by rw [List.length_map]; exact hml)) (hq.2 ms hs hk hlm)
    · exact hq.elim
  · exact hq.elim
end Zl
end
section
set_option maxHeartbeats 1000000
namespace Zl
open PySem PySem.Spec PyProof.Rows L2
/-! ### tables -/
abbrev Bd := Int × Ord
abbrev Side := Nat × Bd
abbrev Row := List Side × Option Bd
abbrev Tab := Nat × List Row
def bdD (b : Bd) : D := .tuple [.int b.1, ordD b.2]
def sideD (s : Side) : D := .tuple [.int (s.1 : Nat), .int s.2.1, ordD s.2.2]
def rgtD (o : Option Bd) : D := match o with
  | none => .none
  | some b => bdD b
def rowD (r : Row) : D := .tuple [.tuple (r.1.map sideD), rgtD r.2]
def tabD (t : Tab) : D := .tuple [.int (t.1 : Nat), .tuple (t.2.map rowD)]
def bsO (r : Row) (u : Nat) : List Bd := (r.1.filter fun s => decide (s.1 = u)).map (·.2)
def lowM : List Bd → Int
  | [] => 0
  | b :: bs => (bs.map (·.1)).foldl min b.1
def highM (bs : List Bd) : Ord := match lo (bs.map (·.2)) with
  | none => none
  | some h => if (bs.filter fun b => decide (b.1 ≤ h)).length = 1 then some h else none
def lhB (n : Nat) (r : Row) (u : Nat) : Option Bd := if u = n then r.2 else if (bsO r u).isEmpty = true then none else some (lowM (bsO r u), highM (bsO r u))
def bU (n : Nat) (r : Row) : List Nat := (List.range (n + 1)).filter fun u => (lhB n r u).isSome
def bB (n : Nat) (r : Row) (u : Nat) : Bd := (lhB n r u).getD (0, none)
def waitR (n : Nat) (r : Row) (e : Nat) : Option Wt := (bB n r e).2.map fun h => (e, ((bU n r).filter fun o => !decide (o = e)).map fun o => (o, (bB n r o).1 - h))
def waitsR (n : Nat) (r : Row) : List Wt := (bU n r).filterMap (waitR n r)
def sysT (t : Tab) : Sys := (t.1 + 1, t.2.flatMap (waitsR t.1))
def placesT (t : Tab) : List (Nat × Nat) := t.2.zipIdx.flatMap fun x => (waitsR t.1 x.1).map fun w => (x.2, w.1)
def placeD (p : Nat × Nat) : D := .tuple [.int (p.1 : Nat), .int (p.2 : Nat)]
theorem bU_len (n : Nat) (r : Row) : (bU n r).length ≤ n + 1 := by
  unfold bU
  have := List.length_filter_le (fun u => (lhB n r u).isSome) (List.range (n + 1))
  rw [List.length_range] at this
  exact this
theorem waitsR_len (n : Nat) (r : Row) : (waitsR n r).length ≤ n + 1 := Nat.le_trans (List.length_filterMap_le _ _) (bU_len n r)
theorem flat_len {β γ : Type} {f : β → List γ} {k : Nat} : ∀ l : List β, (∀ x ∈ l, (f x).length ≤ k) → (l.flatMap f).length ≤ l.length * k
  | [], _ => Nat.zero_le _
  | a :: l, h => by
    have h1 := h a List.mem_cons_self
    have h2 := flat_len l fun x hx => h x (List.mem_cons_of_mem _ hx)
    rw [List.flatMap_cons, List.length_append, List.length_cons, Nat.add_mul, Nat.one_mul]
    omega
theorem row_at {t : Tab} {i : Nat} {r : Row} (h : t.2[i]? = some r) : L2.atI (t.2.map rowD) ((i : Nat) : Int) = some (rowD r) := atI_nat (by rw [List.getElem?_map, h]; rfl)
theorem zComp2_fm {β : Type} (enc : β → D) (f : β → List D) {g g1 : TGz} {it1 : TIz} {te : TP} {vs1 : List Nat} {q : W → Prop} {δ : List Sl} : ∀ (xs : List β) (acc : List D),
    (∀ x ∈ xs, ∀ (acc : List D) (k : List D → Prop), acc.length + (f x).length ≤ sizeLine → k (acc ++ f x) → g (.d (enc x)) δ fun δ1 => it1 δ1 fun es => acc.length + es.length ≤ sizeLine ∧ zComp g1 zYes te (fun w => match w with
      | .new a => k a
      | _ => False) (wipeZ δ1 vs1) es acc) →
    (acc ++ xs.flatMap f).length ≤ sizeLine → q (.new (acc ++ xs.flatMap f)) → zComp2 g it1 g1 te vs1 q δ (xs.map enc) acc
  | [], acc, _, _, h => by rw [List.flatMap_nil, List.append_nil] at h; exact h
  | x :: xs, acc, st, hl, h => by
    rw [List.flatMap_cons, ← List.append_assoc] at hl h
    exact st x List.mem_cons_self acc (fun a => zComp2 g it1 g1 te vs1 q δ (xs.map enc) a) (by rw [← List.length_append]; rw [List.length_append] at hl; omega) (zComp2_fm enc f xs _ (fun y hy => st y (List.mem_cons_of_mem _ hy)) hl h)
section
variable {P : Program} {w : World} {K : PySem.W.Frag} {mg : Str → Option Value} {base : Heap}
def sp_high_of : Spz := fun ws q => ∃ bs : List Bd, ws = [.d (.list (bs.map bdD))] ∧ q (.d (ordD (highM bs)))
theorem ok_high_of (M : Mgz mg) (Dd : Vq.D1 K mg "high_of" s_high_of ["bounds"]) (c_least_order : ZCal P w K mg base 1 "least_order" sp_least_order) : ZCal P w K mg base 2 "high_of" sp_high_of := by
  refine zcal false Dd sc_high_of (fun ws q h => ?_) fun f cdv A outer s H E hG hr => ⟨_, (zb_cons (zs_set (i := 1) sc_high_of.nd rfl (.inr rfl) (z_call hG c_least_order hr (by decide) rfl (za_cons (zfz (z_lc (own := [("least", 3), ("greatest", 4)]) rfl sc_high_of.nd (zi_seq (zv 0)) (blkOk_by (own := [("least", 3), ("greatest", 4)]) (N := n_high_of) (sc := defScope s_high_of) (by first | decide +kernel | kernel_rfl | rfl)) (fun _ _ _ _ _ => (pg_tupK K rfl (n := 2) rfl (pgs_cons (pg_name (i := 3) sc_high_of.nd rfl (.inl rfl)) (pgs_cons (pg_name (i := 4) sc_high_of.nd rfl (.inl rfl)) pgs_nil)))) (gr_tup (n := 2) (gr_cons (gr_name (by decide)) (gr_cons (gr_name (by decide)) gr_nil))) (fun _ _ _ _ _ => (zv 4)))) za_nil)))
      (zb_cons (zs_if (zt_isN (zv 1) znon (nomark _)) (zb_one (zs_ret znon)) zb_nil)
      (zb_cons (zs_cold (zs_setLci (y := 2) (own := [("least", 3), ("greatest", 4)]) rfl sc_high_of.nd (zi_seq (zv 0)) (blkOk_by (own := [("least", 3), ("greatest", 4)]) (N := n_high_of) (sc := defScope s_high_of) (by first | decide +kernel | kernel_rfl | rfl)) (fun _ _ _ _ _ => (pg_tupK K rfl (n := 2) rfl (pgs_cons (pg_name (i := 3) sc_high_of.nd rfl (.inl rfl)) (pgs_cons (pg_name (i := 4) sc_high_of.nd rfl (.inl rfl)) pgs_nil)))) (gr_tup (n := 2) (gr_cons (gr_name (by decide)) (gr_cons (gr_name (by decide)) gr_nil))) (fun _ _ _ _ _ => (zt_le (zv 3) (zv 1) (nomark _))) (fun _ _ _ _ _ => (zv 3))))
      (zb_one (zs_ret (z_if (zt_eq (z_b b_len (by rfl) M.len (by decide +kernel) (za_cons (zv 2) za_nil)) zint (nomark _)) (zv 1) znon)))))), fun ws Q0 h => ?_⟩
  · obtain ⟨bs, rfl, _⟩ := h
    rfl
  · obtain ⟨bs, rfl, q⟩ := h
    refine zComp_map bdD (fun b => ordD b.2) bs (fun b hb k k0 h => h) ?_
    refine ⟨false, bs.map (·.2), ?_, ?_⟩
    · show _ = [W.d (.list ((bs.map (·.2)).map ordD))]
      rw [List.map_map]
      rfl
    unfold highM at q
    cases hl : lo (bs.map (·.2)) with
    | none =>
      rw [hl] at q
      exact q
    | some h =>
      rw [hl] at q
      refine zComp_fm bdD (fun b => if b.1 ≤ h then some (.int b.1) else none) bs [] (fun b hb k k0 h1 h2 => ?_) ?_
      · show (if decide (b.1 ≤ h) = true then k (.int b.1) else k0)
        by_cases c : b.1 ≤ h
        · rw [if_pos (decide_eq_true c)]
          exact h1 _ (if_pos c)
        · rw [if_neg (by rw [decide_eq_false c]; decide)]
          exact h2 (if_neg c)
      · have e : (bs.filterMap fun b => if b.1 ≤ h then some (PyData.int b.1) else none) = (bs.filter fun b => decide (b.1 ≤ h)).map fun b => .int b.1 := by
          rw [← List.filterMap_eq_map, List.filterMap_filter]
          congr 1
          funext b
          by_cases c : b.1 ≤ h
          · rw [if_pos c, decide_eq_true c]; rfl
          · rw [if_neg c, decide_eq_false c]; rfl
        rw [List.nil_append, e]
        show (if decide ((((bs.filter fun b => decide (b.1 ≤ h)).map fun b => PyData.int b.1).length : Int) = 1) = true then _ else _)
        rw [List.length_map]
        have q : Q0 (.d (ordD (if (bs.filter fun b => decide (b.1 ≤ h)).length = 1 then some h else none))) := q
        by_cases c : (bs.filter fun b => decide (b.1 ≤ h)).length = 1
        · rw [if_pos c] at q
          rw [if_pos (decide_eq_true (by omega))]
          exact q
        · rw [if_neg c] at q
          rw [if_neg (by rw [decide_eq_false (by omega)]; decide)]
          exact q
def sp_low_high : Spz := fun ws q => ∃ (t : Tab) (i u : Nat) (r : Row), ws = [.d (tabD t), .d (.int (i : Nat)), .d (.int (u : Nat))] ∧ t.2[i]? = some r ∧ q (.d (rgtD (lhB t.1 r u)))
theorem ok_low_high (M : Mgz mg) (Dd : Vq.D1 K mg "low_high" s_low_high ["table", "row", "unknown"]) (c_high_of : ZCal P w K mg base 2 "high_of" sp_high_of) : ZCal P w K mg base 3 "low_high" sp_low_high := by
  refine zcal false Dd sc_low_high (fun ws q h => ?_) fun f cdv A outer s H E hG hr => ⟨_, (zb_cons (zs_asg (zv 0) (zg_tup rfl (zgs_cons (zg_name (i := 3) sc_low_high.nd rfl (.inl rfl)) (zgs_cons (zg_name (i := 4) sc_low_high.nd rfl (.inl rfl)) zgs_nil))))
      (zb_cons (zs_asg (z_ix (zv 4) (zv 1)) (zg_tup rfl (zgs_cons (zg_name (i := 5) sc_low_high.nd rfl (.inl rfl)) (zgs_cons (zg_name (i := 6) sc_low_high.nd rfl (.inl rfl)) zgs_nil))))
      (zb_cons (zs_if (zt_eq (zv 2) (zv 3) (nomark _)) (zb_one (zs_ret (zv 6))) zb_nil)
      (zb_cons (zs_cold (zs_setLci (y := 7) (own := [("other", 9), ("least", 10), ("greatest", 11)]) rfl sc_low_high.nd (zi_seq (zv 5)) (blkOk_by (own := [("other", 9), ("least", 10), ("greatest", 11)]) (N := n_low_high) (sc := defScope s_low_high) (by first | decide +kernel | kernel_rfl | rfl)) (fun _ _ _ _ _ => (pg_tupK K rfl (n := 3) rfl (pgs_cons (pg_name (i := 9) sc_low_high.nd rfl (.inl rfl)) (pgs_cons (pg_name (i := 10) sc_low_high.nd rfl (.inl rfl)) (pgs_cons (pg_name (i := 11) sc_low_high.nd rfl (.inl rfl)) pgs_nil))))) (gr_tup (n := 3) (gr_cons (gr_name (by decide)) (gr_cons (gr_name (by decide)) (gr_cons (gr_name (by decide)) gr_nil)))) (fun _ _ _ _ _ => (zt_eq (zv 9) (zv 2) (nomark _))) (fun _ _ _ _ _ => (z_tup (za_cons (zv 10) (za_cons (zv 11) za_nil))))))
      (zb_cons (zs_if (zt_not (zt_truth (zv 7) (by intro _; rfl))) (zb_one (zs_ret znon)) zb_nil)
      (zb_cons (zs_set (i := 8) sc_low_high.nd rfl (.inl rfl) (z_b (b_min rfl) (by rfl) M.min (by decide +kernel) (za_cons (zfz (z_lc (own := [("least", 10), ("greatest", 11)]) rfl sc_low_high.nd (zi_seq (zv 7)) (blkOk_by (own := [("least", 10), ("greatest", 11)]) (N := n_low_high) (sc := defScope s_low_high) (by first | decide +kernel | kernel_rfl | rfl)) (fun _ _ _ _ _ => (pg_tupK K rfl (n := 2) rfl (pgs_cons (pg_name (i := 10) sc_low_high.nd rfl (.inl rfl)) (pgs_cons (pg_name (i := 11) sc_low_high.nd rfl (.inl rfl)) pgs_nil)))) (gr_tup (n := 2) (gr_cons (gr_name (by decide)) (gr_cons (gr_name (by decide)) gr_nil))) (fun _ _ _ _ _ => (zv 10)))) za_nil)))
      (zb_one (zs_ret (z_tup (za_cons (zv 8) (za_cons (z_call hG c_high_of hr (by decide) rfl (za_cons (zv 7) za_nil)) za_nil))))))))))), fun ws Q0 h => ?_⟩
  · obtain ⟨t, i, u, r, rfl, _⟩ := h
    rfl
  · obtain ⟨t, i, u, r, rfl, hr1, q⟩ := h
    show (match L2.atI (t.2.map rowD) ((i : Nat) : Int) with
      | some d => _
      | none => False)
    rw [row_at hr1]
    show (if decide (((u : Nat) : Int) = ((t.1 : Nat) : Int)) = true then _ else _)
    unfold lhB at q
    by_cases c : u = t.1
    · rw [if_pos c] at q
      rw [if_pos (decide_eq_true (by omega))]
      exact q
    rw [if_neg c] at q
    rw [if_neg (by rw [decide_eq_false (by omega)]; decide)]
    refine zComp_fm sideD (fun s => if s.1 = u then some (bdD s.2) else none) r.1 [] (fun s hs k k0 h1 h2 => ?_) ?_
    · show (if decide (((s.1 : Nat) : Int) = ((u : Nat) : Int)) = true then k (bdD s.2) else k0)
      by_cases c : s.1 = u
      · rw [if_pos (decide_eq_true (by omega))]
        exact h1 _ (if_pos c)
      · rw [if_neg (by rw [decide_eq_false (by omega)]; decide)]
        exact h2 (if_neg c)
    have e : (r.1.filterMap fun s => if s.1 = u then some (bdD s.2) else none) = (bsO r u).map bdD := by
      unfold bsO
      rw [List.map_map, ← List.filterMap_eq_map, List.filterMap_filter]
      congr 1
      funext s
      by_cases c : s.1 = u
      · rw [if_pos c, decide_eq_true c]; rfl
      · rw [if_neg c, decide_eq_false c]; rfl
    rw [List.nil_append, e]
    generalize bsO r u = bs at q ⊢
    show (if (!(!((bs.map bdD).isEmpty))) = true then _ else _)
    rw [List.isEmpty_map, Bool.not_not]
    by_cases hb : bs.isEmpty = true
    · rw [if_pos hb] at q ⊢
      exact q
    rw [if_neg hb] at q ⊢
    have q : Q0 (.d (bdD (lowM bs, highM bs))) := q
    show zComp _ _ _ _ _ (bs.map bdD) []
    refine zComp_map bdD (fun b => .int b.1) bs (fun b hb k k0 h => h) ?_
    show (match intsD (bs.map fun b : Bd => PyData.int b.1) with
      | some ns => 0 < ns.length ∧ ∀ m, m ∈ ns → (∀ y, y ∈ ns → m ≤ y) → _
      | none => False)
    have e2 : (bs.map fun b : Bd => PyData.int b.1) = (bs.map fun b : Bd => b.1).map PyData.int := by
      rw [List.map_map]
      rfl
    rw [e2, intsD_map]
    refine ⟨?_, fun m hm hle => ?_⟩
    · rw [List.length_map]
      cases bs with
      | nil => exact absurd rfl hb
      | cons b l => exact Nat.succ_pos _
    have hml : m = lowM bs := by
      cases bs with
      | nil => exact absurd rfl hb
      | cons b bs =>
        obtain ⟨h1, h2, h3⟩ := Vq.foldl_min_spec (bs.map fun b : Bd => b.1) b.1
        refine Int.le_antisymm ?_ ?_
        · refine hle _ ?_
          rcases h1 with h1 | h1
          · rw [List.map_cons]
            show (bs.map fun b : Bd => b.1).foldl min b.1 ∈ _
            rw [h1]
            exact List.mem_cons_self
          · exact List.mem_cons_of_mem _ h1
        · rcases List.mem_cons.mp hm with z | z
          · rw [z]
            exact h2
          · exact h3 _ z
    rw [hml]
    exact ⟨bs, rfl, q⟩
theorem evD_rgt (n : Nat) (r : Row) (es : List Nat) (h : ∀ e ∈ es, (lhB n r e).isSome) : evK (fun u => rgtD (lhB n r u)) es = evK (fun u => bdD (bB n r u)) es := by
  unfold evK
  refine List.map_congr_left fun e he => ?_
  have := h e he
  show (_, rgtD (lhB n r e)) = (_, bdD ((lhB n r e).getD (0, none)))
  cases q : lhB n r e with
  | none => rw [q] at this; cases this
  | some b => rfl
def sp_bounds_in_row : Spz := fun ws q => ∃ (t : Tab) (i : Nat) (r : Row), ws = [.d (tabD t), .d (.int (i : Nat))] ∧ t.2[i]? = some r ∧ t.1 ≤ 1000 ∧ q (.d (evD (fun u => bdD (bB t.1 r u)) (bU t.1 r)))
theorem ok_bounds_in_row (M : Mgz mg) (Dd : Vq.D1 K mg "bounds_in_row" s_bounds_in_row ["table", "row"]) (c_low_high : ZCal P w K mg base 3 "low_high" sp_low_high) : ZCal P w K mg base 4 "bounds_in_row" sp_bounds_in_row := by
  refine zcal false Dd sc_bounds_in_row (fun ws q h => ?_) fun f cdv A outer s H E hG hr => ⟨_, (zb_cons (zs_set (i := 2) sc_bounds_in_row.nd rfl (.inr rfl) (zfz (z_dcG (own := [("event", 3)]) rfl sc_bounds_in_row.nd (itS (zi_range1 rfl M.range (za_cons (z_add (z_ix (zv 0) zint) zint) za_nil))) (blkOk_by (own := [("event", 3)]) (N := n_bounds_in_row) (sc := defScope s_bounds_in_row) (by first | decide +kernel | kernel_rfl | rfl)) (fun _ _ _ _ _ => (pg_name (i := 3) sc_bounds_in_row.nd rfl (.inl rfl))) (gr_name (by decide)) ifN (fun _ _ _ _ _ => (zv 3)) (fun _ _ _ _ _ => (z_call hG c_low_high hr (by decide) rfl (za_cons (zv 0) (za_cons (zv 1) (za_cons (zv 3) za_nil))))))))
      (zb_one (zs_ret (z_dcG (own := [("event", 3)]) rfl sc_bounds_in_row.nd (itD 2 .keys (pi_keys (pv 2))) (blkOk_by (own := [("event", 3)]) (N := n_bounds_in_row) (sc := defScope s_bounds_in_row) (by first | decide +kernel | kernel_rfl | rfl)) (fun _ _ _ _ _ => (pg_name (i := 3) sc_bounds_in_row.nd rfl (.inl rfl))) (gr_name (by decide)) (ifY (fun _ _ _ _ _ => (zt_notN (z_dget (hu_of hr) (zv 2) (zv 3)) znon (nomark _)))) (fun _ _ _ _ _ => (zv 3)) (fun _ _ _ _ _ => (z_dget (hu_of hr) (zv 2) (zv 3))))))), fun ws Q0 h => ?_⟩
  · obtain ⟨t, i, r, rfl, _⟩ := h
    rfl
  · obtain ⟨t, i, r, rfl, hr1, hn, q⟩ := h
    refine ⟨⟨by omega, by omega⟩, ?_⟩
    have en : ((t.1 : Nat) : Int) + 1 = ((t.1 + 1 : Nat) : Int) := by omega
    show zDComp _ _ _ _ _ _ (rngD 0 (((t.1 : Nat) : Int) + 1).toNat) []
    rw [en, Int.toNat_natCast, rngD0]
    refine zDComp_ev (fun u => rgtD (lhB t.1 r u)) (List.range (t.1 + 1)) List.nodup_range (fun e he k k0 h => ⟨t, i, e, r, rfl, hr1, ?_⟩) ?_
    · cases hq : lhB t.1 r e with
      | none => rw [hq] at h; exact h
      | some b => rw [hq] at h; exact h
    show zDComp _ _ _ _ _ _ (keysD ((evK (fun u => rgtD (lhB t.1 r u)) (List.range (t.1 + 1))).map fun p => (keyD p.1, p.2))) []
    rw [keys_ev]
    have efm : (List.range (t.1 + 1)).filterMap (fun e => if (lhB t.1 r e).isSome = true then some (e, bdD (bB t.1 r e)) else none) = (bU t.1 r).map fun e => (e, bdD (bB t.1 r e)) := by
      unfold bU
      rw [← List.filterMap_eq_map, List.filterMap_filter]
      rfl
    have hnd : (bU t.1 r).Nodup := List.nodup_range.filter _
    refine zDComp_fm (fun (e : Nat) => PyData.int (e : Nat)) (fun e => if (lhB t.1 r e).isSome = true then some (e, bdD (bB t.1 r e)) else none) (List.range (t.1 + 1)) [] ?_ (fun e he k k0 h1 h2 => ?_) ?_
    · rw [efm, List.map_map, List.map_nil, List.nil_append]
      exact nat_keys_nodup hnd
    · conv => whnf
      refine rdget_ev he ?_
      cases hb : lhB t.1 r e with
      | none => exact h2 (by rw [hb]; rfl)
      | some b =>
        conv => whnf
        refine rdget_ev he ?_
        rw [hb]
        refine h1 e (bdD b) ?_
        rw [hb, if_pos (show (some b).isSome = true from rfl)]
        unfold bB
        rw [hb]
        rfl
    · rw [efm, List.map_map, List.nil_append]
      exact q
end
end Zl
end
section
set_option maxHeartbeats 1000000
namespace Zl
open PySem PySem.Spec PyProof.Rows L2
theorem flat_congr {β γ : Type} {f g : β → List γ} {l : List β} (h : ∀ x ∈ l, f x = g x) : l.flatMap f = l.flatMap g := by
  rw [List.flatMap_def, List.flatMap_def, List.map_congr_left h]
theorem range_flat {β γ : Type} (F : Nat → β → List γ) (l : List β) : (List.range l.length).flatMap (fun i => (l[i]?.map (F i)).getD []) = l.zipIdx.flatMap fun x => F x.2 x.1 := by
  rw [← zipIdx_snd, List.flatMap_def, List.map_map, ← List.flatMap_def]
  refine flat_congr fun x hx => ?_
  have e : l[x.2]? = some x.1 := List.mk_mem_zipIdx_iff_getElem?.mp hx
  show (l[x.2]?.map (F x.2)).getD [] = _
  rw [e]
  rfl
theorem zip_flat {β γ : Type} (F : β → List γ) (l : List β) : l.zipIdx.flatMap (fun x => F x.1) = l.flatMap F := by
  rw [List.flatMap_def, List.flatMap_def]
  have e : l.zipIdx.map (fun x => F x.1) = (l.zipIdx.map (·.1)).map F := by
    rw [List.map_map]
    rfl
  rw [e, List.zipIdx_map_fst]
section
variable {P : Program} {w : World} {K : PySem.W.Frag} {mg : Str → Option Value} {base : Heap}
theorem items_ev (f : Nat → D) (es : List Nat) : itemsD ((evK f es).map fun p => (keyD p.1, p.2)) = es.map fun (e : Nat) => PyData.tuple [.int (e : Nat), f e] := by
  unfold itemsD evK
  rw [List.map_map, List.map_map]
  rfl
def sp_waits_of_row : Spz := fun ws q => ∃ (t : Tab) (i : Nat) (r : Row), ws = [.d (tabD t), .d (.int (i : Nat))] ∧ t.2[i]? = some r ∧ t.1 ≤ 1000 ∧ q (.d (.list ((waitsR t.1 r).map waitD)))
theorem ok_waits_of_row (M : Mgz mg) (Dd : Vq.D1 K mg "waits_of_row" s_waits_of_row ["table", "row"]) (c_bounds_in_row : ZCal P w K mg base 4 "bounds_in_row" sp_bounds_in_row) : ZCal P w K mg base 5 "waits_of_row" sp_waits_of_row := by
  refine zcal false Dd sc_waits_of_row (fun ws q h => ?_) fun f cdv A outer s H E hG hr => ⟨_, (zb_cons (zs_set (i := 2) sc_waits_of_row.nd rfl (.inr rfl) (z_call hG c_bounds_in_row hr (by decide) rfl (za_cons (zv 0) (za_cons (zv 1) za_nil))))
      (zb_cons (zs_set (i := 3) sc_waits_of_row.nd rfl (.inl rfl) (z_lst za_nil))
      (zb_cons (zs_forD 2 .items PassesOwn.never rfl (pi_items (pv 2)) (zg_tup rfl (zgs_cons (zg_name (i := 4) sc_waits_of_row.nd rfl (.inr rfl)) (zgs_cons (zg_tup rfl (zgs_cons (zg_name (i := 5) sc_waits_of_row.nd rfl (.inl rfl)) (zgs_cons (zg_name (i := 6) sc_waits_of_row.nd rfl (.inr rfl)) zgs_nil))) zgs_nil))) (zb_one (zs_if (zt_notN (zv 6) znon (nomark _)) (zb_one (zs_hotL (i := 3) m_append (fun h => ps_expr (pe_bm PySem.F.plainAttrs_list PySem.F.slot_list_append PySem.F.type_list_append mt_append (pv 3) h)) (za_cons (z_tup (za_cons (zv 4) (za_cons (z_ty t_tuple (by rfl) M.tuple (by decide +kernel) (za_cons (zfz (z_lcG (own := [("other", 7)]) rfl sc_waits_of_row.nd (itD 2 .keys (pi_keys (pv 2))) (blkOk_by (own := [("other", 7)]) (N := n_waits_of_row) (sc := defScope s_waits_of_row) (by first | decide +kernel | kernel_rfl | rfl)) (fun _ _ _ _ _ => (pg_name (i := 7) sc_waits_of_row.nd rfl (.inl rfl))) (gr_name (by decide)) (ifY (fun _ _ _ _ _ => (zt_ne (zv 7) (zv 4) (nomark _)))) (fun _ _ _ _ _ => (z_tup (za_cons (zv 7) (za_cons (z_sub (z_ix (z_dget (hu_of hr) (zv 2) (zv 7)) zint) (zv 6)) za_nil)))))) za_nil)) za_nil))) za_nil))) zb_nil)))
      (zb_one (zs_ret (zv 3)))))), fun ws Q0 h => ?_⟩
  · obtain ⟨t, i, r, rfl, _⟩ := h
    rfl
  · obtain ⟨t, i, r, rfl, hr1, hn, q⟩ := h
    refine ⟨t, i, r, rfl, hr1, hn, ?_⟩
    have hbl := bU_len t.1 r
    show zLoop _ _ _ (itemsD ((evK (fun u => bdD (bB t.1 r u)) (bU t.1 r)).map fun p => (keyD p.1, p.2))) _
    rw [items_ev]
    refine zLoop_inv (fun (e : Nat) => PyData.tuple [.int (e : Nat), bdD (bB t.1 r e)]) (fun xs δ => ∃ (dn : List Nat) (a4 a5 a6 : Sl), bU t.1 r = dn ++ xs ∧ δ = ([.w (.d (tabD t)), .w (.d (.int (i : Nat))), .w (.d (evD (fun u => bdD (bB t.1 r u)) (bU t.1 r))), .hl ((dn.filterMap (waitR t.1 r)).map waitD), a4, a5, a6, .un] : List Sl)) (fun e xs δ h k hk => ?_) (fun δ h => ?_) (bU t.1 r) _ ⟨[], _, _, _, rfl, rfl⟩
    · obtain ⟨dn, a4, a5, a6, hd, rfl⟩ := h
      have hdl : dn.length ≤ 1001 := by
        have : (bU t.1 r).length = dn.length + (e :: xs).length := by rw [hd, List.length_append]
        omega
      have hfl : (dn.filterMap (waitR t.1 r)).length ≤ dn.length := List.length_filterMap_le _ _
      have hd2 : bU t.1 r = (dn ++ [e]) ++ xs := by rw [hd, List.append_assoc]; rfl
      have hd3 : (dn ++ [e]).filterMap (waitR t.1 r) = dn.filterMap (waitR t.1 r) ++ [e].filterMap (waitR t.1 r) := List.filterMap_append
      obtain ⟨b1, b2, hbb⟩ : ∃ b1 b2, bB t.1 r e = (b1, b2) := ⟨_, _, rfl⟩
      show gzTup _ _ (.d (.tuple [.int (e : Nat), bdD (bB t.1 r e)])) _ _
      rw [hbb]
      cases b2 with
      | none =>
        have e0 : waitR t.1 r e = none := by
          unfold waitR
          rw [hbb]
          rfl
        have e1 : [e].filterMap (waitR t.1 r) = [] := by
          rw [List.filterMap_cons_none e0]
          rfl
        rw [e1, List.append_nil] at hd3
        exact hk _ ⟨dn ++ [e], _, _, _, hd2, by rw [hd3]; rfl⟩
      | some h =>
        have e0 : waitR t.1 r e = some (e, ((bU t.1 r).filter fun o => !decide (o = e)).map fun o => (o, (bB t.1 r o).1 - h)) := by
          unfold waitR
          rw [hbb]
          rfl
        have e1 : [e].filterMap (waitR t.1 r) = [(e, ((bU t.1 r).filter fun o => !decide (o = e)).map fun o => (o, (bB t.1 r o).1 - h))] := by
          rw [List.filterMap_cons_some e0]
          rfl
        rw [e1] at hd3
        show zComp _ _ _ _ _ (keysD ((evK (fun u => bdD (bB t.1 r u)) (bU t.1 r)).map fun p => (keyD p.1, p.2))) []
        rw [keys_ev]
        refine zComp_fm (fun (o : Nat) => PyData.int (o : Nat)) (fun o => if (!decide (o = e)) = true then some (optD (o, (bB t.1 r o).1 - h)) else none) (bU t.1 r) [] (fun o ho k k0 h1 h2 => ?_) ?_
        · show (if (!decide (((o : Nat) : Int) = ((e : Nat) : Int))) = true then _ else k0)
          by_cases c : o = e
          · rw [decide_eq_true (show ((o : Nat) : Int) = ((e : Nat) : Int) by omega), if_neg (by decide)]
            exact h2 (if_neg (by rw [decide_eq_true c]; decide))
          · rw [decide_eq_false (show ¬ ((o : Nat) : Int) = ((e : Nat) : Int) by omega), if_pos (by decide)]
            conv => whnf
            refine rdget_ev ho ?_
            exact h1 _ (if_pos (by rw [decide_eq_false c]; rfl))
        · have e2 : (bU t.1 r).filterMap (fun o => if (!decide (o = e)) = true then some (optD (o, (bB t.1 r o).1 - h)) else none) = (((bU t.1 r).filter fun o => !decide (o = e)).map fun o => (o, (bB t.1 r o).1 - h)).map optD := by
            rw [List.map_map, ← List.filterMap_eq_map, List.filterMap_filter]
            rfl
          rw [List.nil_append, e2]
          refine ⟨by rw [List.length_map, sizeLine_eq]; omega, hk _ ⟨dn ++ [e], _, _, _, hd2, by rw [hd3, List.map_append]; rfl⟩⟩
    · obtain ⟨dn, a4, a5, a6, hd, rfl⟩ := h
      rw [List.append_nil] at hd
      rw [← hd]
      exact q
def sp_system_of : Spz := fun ws q => ∃ t : Tab, ws = [.d (tabD t)] ∧ t.1 ≤ 1000 ∧ t.2.length ≤ 1000 ∧ q (.d (sysD (sysT t)))
theorem ok_system_of (M : Mgz mg) (Dd : Vq.D1 K mg "system_of" s_system_of ["table"]) (c_waits_of_row : ZCal P w K mg base 5 "waits_of_row" sp_waits_of_row) : ZCal P w K mg base 6 "system_of" sp_system_of := by
  refine zcal false Dd sc_system_of (fun ws q h => ?_) fun f cdv A outer s H E hG hr => ⟨_, (zb_cons (zs_asg (zv 0) (zg_tup rfl (zgs_cons (zg_name (i := 1) sc_system_of.nd rfl (.inl rfl)) (zgs_cons (zg_name (i := 2) sc_system_of.nd rfl (.inl rfl)) zgs_nil))))
      (zb_one (zs_ret (z_tup (za_cons (z_add (zv 1) zint) (za_cons (z_ty t_tuple (by rfl) M.tuple (by decide +kernel) (za_cons (zfz (z_lc2 (own := [("row", 3), ("wait", 4)]) (vs1 := [4]) rfl sc_system_of.nd (zi_range1 rfl M.range (za_cons (z_b b_len (by rfl) M.len (by decide +kernel) (za_cons (zv 2) za_nil)) za_nil)) (blkOk_by (own := [("row", 3), ("wait", 4)]) (N := n_system_of) (sc := defScope s_system_of) (by first | decide +kernel | kernel_rfl | rfl)) (by decide) (fun _ _ _ _ _ => (pg_name (i := 3) sc_system_of.nd rfl (.inl rfl))) (gr_name (by decide)) (fun _ _ _ _ _ => (zi_seq (z_call hG c_waits_of_row hr (by decide) rfl (za_cons (zv 0) (za_cons (zv 3) za_nil))))) (fun _ _ _ _ _ => (pg_name (i := 4) sc_system_of.nd rfl (.inl rfl))) (gr_name (by decide)) (fun _ _ _ _ _ => (zv 4)))) za_nil)) za_nil)))))), fun ws Q0 h => ?_⟩
  · obtain ⟨t, rfl, _⟩ := h
    rfl
  · obtain ⟨t, rfl, hn, hm, q⟩ := h
    have hbd : (t.2.flatMap (waitsR t.1)).length ≤ t.2.length * (t.1 + 1) := flat_len t.2 fun r _ => waitsR_len t.1 r
    have hbd2 : t.2.length * (t.1 + 1) ≤ 1000 * 1001 := Nat.mul_le_mul hm (by omega)
    have ef : (List.range t.2.length).flatMap (fun i => (t.2[i]?.map fun r => (waitsR t.1 r).map waitD).getD []) = (t.2.flatMap (waitsR t.1)).map waitD := by
      rw [range_flat (fun _ r => (waitsR t.1 r).map waitD), zip_flat (fun r => (waitsR t.1 r).map waitD), List.map_flatMap]
    refine ⟨⟨by rw [List.length_map]; omega, by rw [List.length_map]; omega⟩, ?_⟩
    show zComp2 _ _ _ _ _ _ _ (rngD 0 (t.2.map rowD).length) []
    rw [List.length_map, rngD0]
    refine zComp2_fm (fun (i : Nat) => PyData.int (i : Nat)) (fun i => (t.2[i]?.map fun r => (waitsR t.1 r).map waitD).getD []) (List.range t.2.length) [] (fun i hi acc k hl hq => ?_) ?_ ?_
    · have hi := List.mem_range.mp hi
      have hr1 : t.2[i]? = some t.2[i] := List.getElem?_eq_getElem hi
      rw [hr1] at hl hq
      refine ⟨t, i, t.2[i], rfl, hr1, hn, hl, ?_⟩
      refine zComp_fm waitD (fun w => some (waitD w)) (waitsR t.1 t.2[i]) acc (fun w hw k k0 h1 _ => h1 _ rfl) ?_
      have e3 : (waitsR t.1 t.2[i]).filterMap (fun w => some (waitD w)) = (waitsR t.1 t.2[i]).map waitD := congrFun (List.filterMap_eq_map (f := waitD)) _
      rw [e3]
      exact hq
    · rw [List.nil_append, ef, List.length_map, sizeLine_eq]
      omega
    · rw [List.nil_append, ef]
      exact q
def sp_wait_places : Spz := fun ws q => ∃ t : Tab, ws = [.d (tabD t)] ∧ t.1 ≤ 1000 ∧ t.2.length ≤ 1000 ∧ q (.new ((placesT t).map placeD))
end
end Zl
end
section
set_option maxHeartbeats 1000000
namespace Zl
open PySem PySem.Spec PyProof.Rows L2
/-! ### the law's own look at tables -/
def BdOk (b : Bd) : Prop := ∀ g, b.2 = some g → b.1 ≤ g
theorem lo_mem {os : List Ord} (h : os ≠ []) : lo os ∈ os := by
  cases e : lo os with
  | some i => exact lo_some e
  | none =>
    cases os with
    | nil => exact absurd rfl h
    | cons o os =>
      have z := lo_le (os := o :: os) (o := o) List.mem_cons_self
      rw [e] at z
      cases o with
      | none => exact List.mem_cons_self
      | some v => cases z
theorem eqv_ord (a b : Ord) : PyData.eqv (ordD a) (ordD b) = decide (a = b) := by
  cases a <;> cases b <;> simp [ordD, PyData.eqv]
  exact Bool.eq_iff_iff.mpr (by simp)
theorem lowM_eq {bs : List Bd} {m : Int} (hm : m ∈ bs.map fun b : Bd => b.1) (hle : ∀ y ∈ bs.map fun b : Bd => b.1, m ≤ y) : m = lowM bs := by
  cases bs with
  | nil => cases hm
  | cons b bs =>
    obtain ⟨h1, h2, h3⟩ := Vq.foldl_min_spec (bs.map fun b : Bd => b.1) b.1
    refine Int.le_antisymm ?_ ?_
    · refine hle _ ?_
      rcases h1 with h1 | h1
      · rw [List.map_cons]
        show (bs.map fun b : Bd => b.1).foldl min b.1 ∈ _
        rw [h1]
        exact List.mem_cons_self
      · exact List.mem_cons_of_mem _ h1
    · rcases List.mem_cons.mp hm with z | z
      · rw [z]
        exact h2
      · exact h3 _ z
theorem cutL_to {β : Type} (f : β → D) (l : List β) (j : Nat) : cutD (l.map f) none (some (j : Int)) = (l.take j).map f := by
  rw [cut_to, List.map_take]
theorem cutL_from {β : Type} (f : β → D) (l : List β) (j : Nat) : cutD (l.map f) (some (j : Int)) none = (l.drop j).map f := by
  unfold cutD
  rw [HT.sIx_none, HT.sIx_nat, List.length_map, ← List.map_drop, List.take_of_length_le (by rw [List.length_map, List.length_drop]; omega)]
  congr 1
  by_cases h : j ≤ l.length
  · rw [Nat.min_eq_left h]
  · rw [Nat.min_eq_right (by omega), List.drop_length, List.drop_of_length_le (by omega)]
theorem filter_split {β : Type} (p : β → Bool) {l : List β} {j : Nat} {b : β} (h : l[j]? = some b) : (l.filter p).length = ((l.take j ++ l.drop (j + 1)).filter p).length + (if p b = true then 1 else 0) := by
  have e : l = l.take j ++ b :: l.drop (j + 1) := by
    obtain ⟨hj, rfl⟩ := List.getElem?_eq_some_iff.mp h
    rw [← List.drop_eq_getElem_cons hj, List.take_append_drop]
  conv => lhs; rw [e]
  rw [List.filter_append, List.filter_append, List.length_append, List.length_append, List.filter_cons]
  split
  · rw [List.length_cons]; omega
  · omega
theorem fm_filter {β γ : Type} (p : β → Bool) (f : β → γ) : ∀ l : List β, (l.filterMap fun b => if p b = true then some (f b) else none) = (l.filter p).map f
  | [] => rfl
  | b :: l => by
    have ih := fm_filter p f l
    rw [List.filterMap_cons]
    cases h : p b with
    | true =>
      rw [List.filter_cons_of_pos h, List.map_cons, ← ih]
      rfl
    | false =>
      rw [List.filter_cons_of_neg (by rw [h]; decide), ← ih]
      rfl
section
variable {P : Program} {w : World} {K : PySem.W.Frag} {mg : Str → Option Value} {base : Heap}
def sp_l_low_high : Spz := fun ws q => ∃ bs : List Bd, ws = [.d (.list (bs.map bdD))] ∧ bs ≠ [] ∧ bs.length ≤ 1000 ∧ (∀ b ∈ bs, BdOk b) ∧ q (.d (bdD (lowM bs, highM bs)))
theorem ok_l_low_high (M : Mgz mg) (Dd : Vq.D1 K mg "_law_low_high" s_l_low_high ["_law_sides"]) (c_l_least_order : ZCal P w K mg base 3 "_law_least_order" sp_l_least_order) (c_l_not_above : ZCal P w K mg base 1 "_law_not_above" sp_l_not_above) : ZCal P w K mg base 4 "_law_low_high" sp_l_low_high := by
  refine zcal false Dd sc_l_low_high (fun ws q h => ?_) fun f cdv A outer s H E hG hr => ⟨_, (zb_cons (zs_set (i := 1) sc_l_low_high.nd rfl (.inl rfl) (z_b (b_min rfl) (by rfl) M.min (by decide +kernel) (za_cons (zfz (z_lc (own := [("_law_least", 5), ("_law_greatest", 6)]) rfl sc_l_low_high.nd (zi_seq (zv 0)) (blkOk_by (own := [("_law_least", 5), ("_law_greatest", 6)]) (N := n_l_low_high) (sc := defScope s_l_low_high) (by first | decide +kernel | kernel_rfl | rfl)) (fun _ _ _ _ _ => (pg_tupK K rfl (n := 2) rfl (pgs_cons (pg_name (i := 5) sc_l_low_high.nd rfl (.inl rfl)) (pgs_cons (pg_name (i := 6) sc_l_low_high.nd rfl (.inl rfl)) pgs_nil)))) (gr_tup (n := 2) (gr_cons (gr_name (by decide)) (gr_cons (gr_name (by decide)) gr_nil))) (fun _ _ _ _ _ => (zv 5)))) za_nil)))
      (zb_cons (zs_set (i := 2) sc_l_low_high.nd rfl (.inr rfl) (z_call hG c_l_least_order hr (by decide) rfl (za_cons (zfz (z_lc (own := [("_law_least", 5), ("_law_greatest", 6)]) rfl sc_l_low_high.nd (zi_seq (zv 0)) (blkOk_by (own := [("_law_least", 5), ("_law_greatest", 6)]) (N := n_l_low_high) (sc := defScope s_l_low_high) (by first | decide +kernel | kernel_rfl | rfl)) (fun _ _ _ _ _ => (pg_tupK K rfl (n := 2) rfl (pgs_cons (pg_name (i := 5) sc_l_low_high.nd rfl (.inl rfl)) (pgs_cons (pg_name (i := 6) sc_l_low_high.nd rfl (.inl rfl)) pgs_nil)))) (gr_tup (n := 2) (gr_cons (gr_name (by decide)) (gr_cons (gr_name (by decide)) gr_nil))) (fun _ _ _ _ _ => (zv 6)))) za_nil)))
      (zb_cons (zs_set (i := 3) sc_l_low_high.nd rfl (.inl rfl) (z_index (room65 hr) (zfz (z_lc (own := [("_law_least", 5), ("_law_greatest", 6)]) rfl sc_l_low_high.nd (zi_seq (zv 0)) (blkOk_by (own := [("_law_least", 5), ("_law_greatest", 6)]) (N := n_l_low_high) (sc := defScope s_l_low_high) (by first | decide +kernel | kernel_rfl | rfl)) (fun _ _ _ _ _ => (pg_tupK K rfl (n := 2) rfl (pgs_cons (pg_name (i := 5) sc_l_low_high.nd rfl (.inl rfl)) (pgs_cons (pg_name (i := 6) sc_l_low_high.nd rfl (.inl rfl)) pgs_nil)))) (gr_tup (n := 2) (gr_cons (gr_name (by decide)) (gr_cons (gr_name (by decide)) gr_nil))) (fun _ _ _ _ _ => (zv 6)))) (zv 2)))
      (zb_cons (zs_set (i := 4) sc_l_low_high.nd rfl (.inl rfl) (zfz (z_cat (zfz (z_slL (zv 0) zo_none (zo_some (zv 3)))) (zfz (z_slL (zv 0) (zo_some (z_add (zv 3) zint)) zo_none)))))
      (zb_one (zs_ret (z_tup (za_cons (zv 1) (za_cons (z_if (zt_eqD (Room.units hr) (zfz (z_lci (own := [("_law_least", 5), ("_law_greatest", 6)]) rfl sc_l_low_high.nd (zi_seq (zv 4)) (blkOk_by (own := [("_law_least", 5), ("_law_greatest", 6)]) (N := n_l_low_high) (sc := defScope s_l_low_high) (by first | decide +kernel | kernel_rfl | rfl)) (fun _ _ _ _ _ => (pg_tupK K rfl (n := 2) rfl (pgs_cons (pg_name (i := 5) sc_l_low_high.nd rfl (.inl rfl)) (pgs_cons (pg_name (i := 6) sc_l_low_high.nd rfl (.inl rfl)) pgs_nil)))) (gr_tup (n := 2) (gr_cons (gr_name (by decide)) (gr_cons (gr_name (by decide)) gr_nil))) (fun _ _ _ _ _ => (zt_val (z_call hG c_l_not_above hr (by decide) rfl (za_cons (zv 5) (za_cons (zv 2) za_nil))))) (fun _ _ _ _ _ => zint))) (zfz (z_lst za_nil)) (nomark _)) (zv 2) znon) za_nil))))))))), fun ws Q0 h => ?_⟩
  · obtain ⟨bs, rfl, _⟩ := h
    rfl
  · obtain ⟨bs, rfl, hne, hlen, hok, q⟩ := h
    refine zComp_map bdD (fun b => .int b.1) bs (fun b hb k k0 h => h) ?_
    show (match intsD (bs.map fun b : Bd => PyData.int b.1) with
      | some ns => 0 < ns.length ∧ ∀ m, m ∈ ns → (∀ y, y ∈ ns → m ≤ y) → _
      | none => False)
    have e2 : (bs.map fun b : Bd => PyData.int b.1) = (bs.map fun b : Bd => b.1).map PyData.int := by
      rw [List.map_map]
      rfl
    rw [e2, intsD_map]
    refine ⟨by rw [List.length_map]; exact List.length_pos_iff.mpr hne, fun m hm hle => ?_⟩
    rw [lowM_eq hm hle]
    refine zComp_map bdD (fun b => ordD b.2) bs (fun b hb k k0 h => h) ?_
    refine ⟨bs.map fun b : Bd => b.2, by rw [List.map_map]; rfl, ?_⟩
    refine zComp_map bdD (fun b => ordD b.2) bs (fun b hb k k0 h => h) ?_
    obtain ⟨os, hos⟩ : ∃ os, os = bs.map fun b : Bd => b.2 := ⟨_, rfl⟩
    have hone : os ≠ [] := by rw [hos]; exact fun z => hne (List.map_eq_nil_iff.mp z)
    have hmem := lo_mem hone
    have hjl : os.idxOf (lo os) < os.length := List.idxOf_lt_length_of_mem hmem
    have hj : os[os.idxOf (lo os)]? = some (lo os) := by rw [List.getElem?_eq_getElem hjl, List.getElem_idxOf]
    obtain ⟨j, hjd⟩ : ∃ j, j = os.idxOf (lo os) := ⟨_, rfl⟩
    rw [← hjd] at hj hjl
    have hno : ∀ (m : Nat) (z : D), m < j → (bs.map fun b : Bd => ordD b.2)[m]? = some z → PyData.eqv z (ordD (lo (bs.map fun b : Bd => b.2))) = false := fun m z hm hz => by
      rw [← hos]
      have hmo : m < os.length := by omega
      have e3 : (bs.map fun b : Bd => ordD b.2)[m]? = some (ordD os[m]) := by
        have : (bs.map fun b : Bd => ordD b.2) = os.map ordD := by rw [hos, List.map_map]; rfl
        rw [this, List.getElem?_map, List.getElem?_eq_getElem hmo]
        rfl
      rw [e3] at hz
      cases hz
      rw [eqv_ord]
      refine decide_eq_false fun z => ?_
      have := List.not_of_lt_findIdx (p := fun x => x == lo os) (xs := os) (i := m) (by
        have : os.findIdx (fun x => x == lo os) = j := by rw [hjd]; rfl
        omega)
      rw [z, beq_self_eq_true] at this
      cases this
    have hjb : j < bs.length := by
      rw [hos, List.length_map] at hjl
      exact hjl
    have hbj : bs[j]? = some bs[j] := List.getElem?_eq_getElem hjb
    have hbj2 : bs[j].2 = lo (bs.map fun b : Bd => b.2) := by
      rw [hos, List.getElem?_map, hbj] at hj
      exact Option.some.inj hj
    refine ⟨(sh_ord 0 _).shp (by decide), (Sh.lst (k := 0) (sh_map (f := fun b : Bd => ordD b.2) fun b => sh_ord 0 _)).shp (by decide), j, ordD (lo (bs.map fun b : Bd => b.2)), ?_, (sh_ord 0 _).refl, hno, ?_⟩
    · rw [List.getElem?_map, hbj, ← hbj2]
      rfl
    have et : cutD (bs.map bdD) none (some (j : Int)) ++ cutD (bs.map bdD) (some ((j : Int) + 1)) none = (bs.take j ++ bs.drop (j + 1)).map bdD := by
      have : ((j : Nat) : Int) + 1 = ((j + 1 : Nat) : Int) := by omega
      rw [this, cutL_to, cutL_from, List.map_append]
    have hlo : (bs.take j ++ bs.drop (j + 1)).length ≤ 1000 := by
      rw [List.length_append, List.length_take, List.length_drop]
      omega
    have l1 := cutD_len (bs.map bdD) none (some (j : Int))
    have l2 := cutD_len (bs.map bdD) (some ((j : Int) + 1)) none
    rw [List.length_map] at l1 l2
    refine ⟨by rw [sizeLine_eq]; omega, ?_⟩
    rw [et]
    refine zComp_fm bdD (fun b => if naM (some b.1) (lo (bs.map fun b : Bd => b.2)) = true then some (.int 1) else none) (bs.take j ++ bs.drop (j + 1)) [] (fun b hb k k0 h1 h2 => ?_) ?_
    · refine ⟨some b.1, lo (bs.map fun b : Bd => b.2), rfl, ?_⟩
      cases hna : naM (some b.1) (lo (bs.map fun b : Bd => b.2)) with
      | true => exact h1 _ (if_pos hna)
      | false => exact h2 (if_neg (by rw [hna]; decide))
    have efm : (bs.take j ++ bs.drop (j + 1)).filterMap (fun b => if naM (some b.1) (lo (bs.map fun b : Bd => b.2)) = true then some (PyData.int 1) else none) = ((bs.take j ++ bs.drop (j + 1)).filter fun b => naM (some b.1) (lo (bs.map fun b : Bd => b.2))).map fun _ => .int 1 := by
      exact fm_filter (fun b : Bd => naM (some b.1) (lo (bs.map fun b : Bd => b.2))) (fun _ => PyData.int 1) _
    rw [List.nil_append, efm]
    refine ⟨(Sh.lst (k := 0) (sh_map fun _ => .int 0 _)).shp (by decide), (Sh.lst (k := 0) (fun x hx => by cases hx)).shp (by decide), ?_⟩
    rw [eqv_nil, List.isEmpty_map, Bool.false_xor]
    have fin : ∀ o : Ord, o = highM bs → Q0 (.d (.tuple [.int (lowM bs), ordD o])) := fun o ho => by rw [ho]; exact q
    cases hlo2 : lo (bs.map fun b : Bd => b.2) with
    | none =>
      have hh : (none : Ord) = highM bs := by
        unfold highM
        rw [hlo2]
      cases ((bs.take j ++ bs.drop (j + 1)).filter fun b : Bd => naM (some b.1) none).isEmpty with
      | true => exact fin none hh
      | false => exact fin none hh
    | some g =>
      have hsp := filter_split (fun b : Bd => decide (b.1 ≤ g)) hbj
      have hle2 : bs[j].1 ≤ g := hok bs[j] (List.getElem_mem hjb) g (by rw [hbj2, hlo2])
      rw [if_pos (decide_eq_true hle2)] at hsp
      have hh : highM bs = if (bs.filter fun b => decide (b.1 ≤ g)).length = 1 then some g else none := by
        unfold highM
        rw [hlo2]
      have hemp : ((bs.take j ++ bs.drop (j + 1)).filter fun b : Bd => naM (some b.1) (some g)).isEmpty = decide (((bs.take j ++ bs.drop (j + 1)).filter fun b : Bd => decide (b.1 ≤ g)).length = 0) := by
        show ((bs.take j ++ bs.drop (j + 1)).filter fun b : Bd => decide (b.1 ≤ g)).isEmpty = _
        cases (bs.take j ++ bs.drop (j + 1)).filter fun b : Bd => decide (b.1 ≤ g) <;> rfl
      rw [hemp]
      by_cases c : ((bs.take j ++ bs.drop (j + 1)).filter fun b : Bd => decide (b.1 ≤ g)).length = 0
      · rw [if_pos (by omega)] at hh
        rw [decide_eq_true c]
        exact fin (some g) hh.symm
      · rw [if_neg (by omega)] at hh
        rw [decide_eq_false c]
        exact fin none hh.symm
end
end Zl
end
section
set_option maxHeartbeats 1000000
namespace Zl
open PySem PySem.Spec PyProof.Rows L2
structure RowOk (n : Nat) (r : Row) : Prop where
  sides : ∀ s ∈ r.1, s.1 < n ∧ BdOk s.2
  len : r.1.length ≤ 60
theorem asc_eq : ∀ {a b : List Nat}, a.Pairwise (· < ·) → b.Pairwise (· < ·) → (∀ x, x ∈ a ↔ x ∈ b) → a = b
  | [], [], _, _, _ => rfl
  | [], y :: b, _, _, h => absurd ((h y).mpr List.mem_cons_self) List.not_mem_nil
  | x :: a, [], _, _, h => absurd ((h x).mp List.mem_cons_self) List.not_mem_nil
  | x :: a, y :: b, ha, hb, h => by
    rw [List.pairwise_cons] at ha hb
    have h1 : y ≤ x := by
      rcases List.mem_cons.mp ((h x).mp List.mem_cons_self) with e | e
      · omega
      · exact Nat.le_of_lt (hb.1 x e)
    have h2 : x ≤ y := by
      rcases List.mem_cons.mp ((h y).mpr List.mem_cons_self) with e | e
      · omega
      · exact Nat.le_of_lt (ha.1 y e)
    obtain rfl : x = y := by omega
    rw [asc_eq ha.2 hb.2 fun z => ?_]
    constructor
    · intro hz
      rcases List.mem_cons.mp ((h z).mp (List.mem_cons_of_mem _ hz)) with e | e
      · rw [e] at hz
        exact absurd (ha.1 x hz) (Nat.lt_irrefl _)
      · exact e
    · intro hz
      rcases List.mem_cons.mp ((h z).mpr (List.mem_cons_of_mem _ hz)) with e | e
      · rw [e] at hz
        exact absurd (hb.1 x hz) (Nat.lt_irrefl _)
      · exact e
theorem put_ev (f : Nat → D) {es : List Nat} {u : Nat} {d : D} (hu : u ∉ es) (hd : d = f u) : putKD (evK f es) (.inl ((u : Nat) : Int)) d = evK f (es ++ [u]) := by
  unfold putKD
  rw [if_neg]
  · unfold evK
    rw [List.map_append, hd]
    rfl
  · intro z
    rw [List.any_eq_true] at z
    obtain ⟨p, hp, hd2⟩ := z
    have hd2 := of_decide_eq_true hd2
    obtain ⟨e, he, rfl⟩ := List.mem_map.mp hp
    injection hd2 with hd2
    have : e = u := by omega
    rw [this] at he
    exact hu he
def ownB (r : Row) (u : Nat) : Bd := (lowM (bsO r u), highM (bsO r u))
theorem bs_ne {r : Row} {u : Nat} : bsO r u ≠ [] ↔ ∃ s ∈ r.1, s.1 = u := by
  unfold bsO
  rw [Ne, List.map_eq_nil_iff, List.filter_eq_nil_iff]
  constructor
  · intro h
    refine Classical.byContradiction fun hn => h fun s hs hd => hn ⟨s, hs, of_decide_eq_true hd⟩
  · rintro ⟨s, hs, he⟩ h
    exact h s hs (decide_eq_true he)
theorem bU_eq {n : Nat} {r : Row} {ls : List Nat} (hs : ls.Pairwise (· < ·)) (hm : ∀ u, u ∈ ls ↔ ∃ s ∈ r.1, s.1 = u) (hn : ∀ u ∈ ls, u < n) : bU n r = ls ++ (if r.2.isSome = true then [n] else []) := by
  unfold bU
  rw [List.range_succ, List.filter_append]
  congr 1
  · refine asc_eq (List.pairwise_lt_range.filter _) hs fun u => ?_
    rw [List.mem_filter, List.mem_range, hm u, ← bs_ne]
    constructor
    · rintro ⟨h1, h2⟩
      unfold lhB at h2
      rw [if_neg (by omega)] at h2
      intro z
      rw [z] at h2
      cases h2
    · intro h
      have hu := hn u ((hm u).mpr (bs_ne.mp h))
      refine ⟨hu, ?_⟩
      unfold lhB
      rw [if_neg (by omega)]
      cases q : bsO r u with
      | nil => exact absurd q h
      | cons a l => rfl
  · rw [List.filter_cons, List.filter_nil]
    unfold lhB
    rw [if_pos rfl]
theorem bB_own {n : Nat} {r : Row} {u : Nat} (hu : u < n) (h : bsO r u ≠ []) : bB n r u = ownB r u := by
  unfold bB lhB
  rw [if_neg (by omega)]
  cases q : bsO r u with
  | nil => exact absurd q h
  | cons a l =>
    unfold ownB
    rw [q]
    rfl
section
variable {P : Program} {w : World} {K : PySem.W.Frag} {mg : Str → Option Value} {base : Heap}
def sp_l_row_bounds : Spz := fun ws q => ∃ (n : Nat) (r : Row), ws = [.d (.int (n : Nat)), .d (rowD r)] ∧ RowOk n r ∧ q (.d (evD (fun u => bdD (bB n r u)) (bU n r)))
theorem ok_l_row_bounds (M : Mgz mg) (Dd : Vq.D1 K mg "_law_row_bounds" s_l_row_bounds ["_law_many", "_law_row"]) (c_l_low_high : ZCal P w K mg base 4 "_law_low_high" sp_l_low_high) : ZCal P w K mg base 5 "_law_row_bounds" sp_l_row_bounds := by
  refine zcal false Dd sc_l_row_bounds (fun ws q h => ?_) fun f cdv A outer s H E hG hr => ⟨_, (zb_cons (zs_set (i := 2) sc_l_row_bounds.nd rfl (.inl rfl) z_dnew)
      (zb_cons (zs_for PassesOwn.never rfl (zi_seq (zfz (z_sortSet rfl rfl M.sorted rfl M.set (zfz (z_lc (own := [("_law_side", 4)]) rfl sc_l_row_bounds.nd (zi_seq (z_ix (zv 1) zint)) (blkOk_by (own := [("_law_side", 4)]) (N := n_l_row_bounds) (sc := defScope s_l_row_bounds) (by first | decide +kernel | kernel_rfl | rfl)) (fun _ _ _ _ _ => (pg_name (i := 4) sc_l_row_bounds.nd rfl (.inl rfl))) (gr_name (by decide)) (fun _ _ _ _ _ => (z_ix (zv 4) zint))))))) (zg_name (i := 3) sc_l_row_bounds.nd rfl (.inr rfl)) (zb_one (zs_putD (j := 2) (z_call hG c_l_low_high hr (by decide) rfl (za_cons (zfz (z_lci (own := [("_law_side", 4)]) rfl sc_l_row_bounds.nd (zi_seq (z_ix (zv 1) zint)) (blkOk_by (own := [("_law_side", 4)]) (N := n_l_row_bounds) (sc := defScope s_l_row_bounds) (by first | decide +kernel | kernel_rfl | rfl)) (fun _ _ _ _ _ => (pg_name (i := 4) sc_l_row_bounds.nd rfl (.inl rfl))) (gr_name (by decide)) (fun _ _ _ _ _ => (zt_eq (z_ix (zv 4) zint) (zv 3) (nomark _))) (fun _ _ _ _ _ => (z_slT (fun _ => sl_tupA) (zv 4) (zo_some zint) zo_none)))) za_nil)) (zv 3) (fun h k => ps_dput (hu_of hr) (pv 2) k h rfl))))
      (zb_cons (zs_if (zt_notN (z_ix (zv 1) zint) znon (nomark _)) (zb_one (zs_putD (j := 2) (z_ix (zv 1) zint) (zv 0) (fun h k => ps_dput (hu_of hr) (pv 2) k h rfl))) zb_nil)
      (zb_one (zs_ret (zv 2)))))), fun ws Q0 h => ?_⟩
  · obtain ⟨n, r, rfl, _⟩ := h
    rfl
  · obtain ⟨n, r, rfl, hok, q⟩ := h
    refine zComp_map sideD (fun s => .int (s.1 : Nat)) r.1 (fun s hs k k0 h => h) ?_
    have e1 : (r.1.map fun s : Side => PyData.int (s.1 : Nat)) = (r.1.map fun s : Side => ((s.1 : Nat) : Int)).map PyData.int := by
      rw [List.map_map]
      rfl
    show (match intsD (r.1.map fun s : Side => PyData.int (s.1 : Nat)) with
      | some ns => ns.length < 64 ∧ _
      | none => False)
    rw [e1, intsD_map]
    have hlen := hok.len
    refine ⟨by rw [List.length_map]; omega, fun ms hsort hmem hml => ?_⟩
    rw [List.length_map] at hml
    obtain ⟨ls, rfl, hln⟩ := nats_of (n := n) (ns := ms) fun i hi => by
      obtain ⟨s, hs, rfl⟩ := List.mem_map.mp ((hmem i).mp hi)
      have := (hok.sides s hs).1
      exact ⟨by omega, by omega⟩
    rw [List.length_map] at hml
    have hso : ls.Pairwise (· < ·) := (List.pairwise_map.mp hsort).imp fun {a b} h => by omega
    have hmm : ∀ u, u ∈ ls ↔ ∃ s ∈ r.1, s.1 = u := fun u => by
      have z := hmem ((u : Nat) : Int)
      rw [List.mem_map, List.mem_map] at z
      constructor
      · intro hu
        obtain ⟨s, hs, he⟩ := z.mp ⟨u, hu, rfl⟩
        exact ⟨s, hs, by omega⟩
      · rintro ⟨s, hs, he⟩
        obtain ⟨v, hv, he2⟩ := z.mpr ⟨s, hs, by omega⟩
        have : v = u := by omega
        rw [← this]
        exact hv
    have hnd : ls.Nodup := hso.imp fun h => Nat.ne_of_lt h
    show zLoop _ _ _ ((ls.map fun (i : Nat) => (i : Int)).map PyData.int) _
    rw [List.map_map]
    refine zLoop_inv (fun (u : Nat) => PyData.int (u : Nat)) (fun xs δ => ∃ (dn : List Nat) (a3 : Sl), ls = dn ++ xs ∧ δ = ([.w (.d (.int (n : Nat))), .w (.d (rowD r)), .hd (evK (fun u => bdD (ownB r u)) dn), a3, .un] : List Sl)) (fun u xs δ h k hk => ?_) (fun δ h => ?_) ls _ ⟨[], _, rfl, rfl⟩
    · obtain ⟨dn, a3, hd, rfl⟩ := h
      have hul : u ∈ ls := by rw [hd]; exact List.mem_append_right _ List.mem_cons_self
      have hun : u ∉ dn := fun z => by
        rw [hd, List.nodup_append] at hnd
        exact hnd.2.2 u z u List.mem_cons_self rfl
      have hdl : dn.length ≤ ls.length := by rw [hd, List.length_append]; omega
      show zComp _ _ _ _ _ (r.1.map sideD) []
      refine zComp_fm sideD (fun s => if s.1 = u then some (bdD s.2) else none) r.1 [] (fun s hs k k0 h1 h2 => ?_) ?_
      · show (if decide (((s.1 : Nat) : Int) = ((u : Nat) : Int)) = true then k (bdD s.2) else k0)
        by_cases c : s.1 = u
        · rw [if_pos (decide_eq_true (by omega))]
          exact h1 _ (if_pos c)
        · rw [if_neg (by rw [decide_eq_false (by omega)]; decide)]
          exact h2 (if_neg c)
      have e : (r.1.filterMap fun s => if s.1 = u then some (bdD s.2) else none) = (bsO r u).map bdD := by
        unfold bsO
        rw [List.map_map, ← List.filterMap_eq_map, List.filterMap_filter]
        congr 1
        funext s
        by_cases c : s.1 = u
        · rw [if_pos c, decide_eq_true c]; rfl
        · rw [if_neg c, decide_eq_false c]; rfl
      rw [List.nil_append, e]
      have hbl : (bsO r u).length ≤ 60 := by
        unfold bsO
        rw [List.length_map]
        exact Nat.le_trans (List.length_filter_le _ _) hlen
      refine ⟨bsO r u, rfl, bs_ne.mpr ((hmm u).mp hul), by omega, fun b hb => ?_, ?_⟩
      · unfold bsO at hb
        obtain ⟨s, hs, rfl⟩ := List.mem_map.mp hb
        exact (hok.sides s (List.mem_filter.mp hs).1).2
      refine ⟨by rw [evK_len, sizeLine_eq]; omega, hk _ ⟨dn ++ [u], .w (.d (.int (u : Nat))), by rw [hd, List.append_assoc]; rfl, ?_⟩⟩
      have hp := put_ev (fun u => bdD (ownB r u)) (d := bdD (lowM (bsO r u), highM (bsO r u))) hun rfl
      rw [hp]
      rfl
    · obtain ⟨dn, a3, hd, rfl⟩ := h
      rw [List.append_nil] at hd
      subst hd
      have hU := bU_eq hso hmm hln
      have hevs : evK (fun u => bdD (ownB r u)) ls = evK (fun u => bdD (bB n r u)) ls := by
        unfold evK
        refine List.map_congr_left fun u hu => ?_
        show (_, bdD (ownB r u)) = (_, bdD (bB n r u))
        rw [bB_own (hln u hu) (bs_ne.mpr ((hmm u).mp hu))]
      rw [hevs]
      obtain ⟨sd, rg⟩ := r
      cases rg with
      | none =>
        rw [if_neg (show ¬ (sd, (none : Option Bd)).2.isSome = true from fun z => nomatch z), List.append_nil] at hU
        rw [hU] at q
        exact q
      | some b =>
        rw [if_pos (show (sd, some b).2.isSome = true from rfl)] at hU
        rw [hU] at q
        refine ⟨by rw [evK_len, sizeLine_eq]; omega, ?_⟩
        have hbn : bdD b = bdD (bB n (sd, some b) n) := by
          unfold bB lhB
          rw [if_pos rfl]
          rfl
        have hnl : n ∉ ls := fun z => Nat.lt_irrefl _ (hln n z)
        have hp := put_ev (fun u => bdD (bB n (sd, some b) u)) hnl hbn
        have q2 : Q0 (.d (kvD (evK (fun u => bdD (bB n (sd, some b) u)) (ls ++ [n])))) := q
        rw [← hp] at q2
        exact q2
end
end Zl
end
section
set_option maxHeartbeats 2000000
namespace Zl
open PySem PySem.Spec PyProof.Rows L2
structure TabOk (t : Tab) : Prop where
  ev : t.1 ≤ 1000
  many : t.2.length ≤ 1000
  rows : ∀ r ∈ t.2, RowOk t.1 r
section
variable {P : Program} {w : World} {K : PySem.W.Frag} {mg : Str → Option Value} {base : Heap}
def sp_l_system_of : Spz := fun ws q => ∃ t : Tab, ws = [.d (tabD t)] ∧ TabOk t ∧ q (.d (sysD (sysT t)))
theorem ok_l_system_of (M : Mgz mg) (Dd : Vq.D1 K mg "_law_system_of" s_l_system_of ["_law_table_here"]) (c_l_row_bounds : ZCal P w K mg base 5 "_law_row_bounds" sp_l_row_bounds) : ZCal P w K mg base 6 "_law_system_of" sp_l_system_of := by
  refine zcal false Dd sc_l_system_of (fun ws q h => ?_) fun f cdv A outer s H E hG hr => ⟨_, (zb_cons (zs_set (i := 1) sc_l_system_of.nd rfl (.inl rfl) (z_lst za_nil))
      (zb_cons (zs_for PassesOwn.never rfl (zi_seq (z_ix (zv 0) zint)) (zg_name (i := 2) sc_l_system_of.nd rfl (.inl rfl)) (zb_cons (zs_set (i := 3) sc_l_system_of.nd rfl (.inr rfl) (z_call hG c_l_row_bounds hr (by decide) rfl (za_cons (z_ix (zv 0) zint) (za_cons (zv 2) za_nil))))
      (zb_one (zs_forD 3 .keys PassesOwn.never rfl (pi_keys (pv 3)) (zg_name (i := 4) sc_l_system_of.nd rfl (.inr rfl)) (zb_cons (zs_set (i := 5) sc_l_system_of.nd rfl (.inr rfl) (z_ix (z_dget (hu_of hr) (zv 3) (zv 4)) zint))
      (zb_one (zs_if (zt_notN (zv 5) znon (nomark _)) (zb_one (zs_hotL (i := 1) m_append (fun h => ps_expr (pe_bm PySem.F.plainAttrs_list PySem.F.slot_list_append PySem.F.type_list_append mt_append (pv 1) h)) (za_cons (z_tup (za_cons (zv 4) (za_cons (z_ty t_tuple (by rfl) M.tuple (by decide +kernel) (za_cons (zfz (z_lcG (own := [("_law_other", 6)]) rfl sc_l_system_of.nd (itD 3 .keys (pi_keys (pv 3))) (blkOk_by (own := [("_law_other", 6)]) (N := n_l_system_of) (sc := defScope s_l_system_of) (by first | decide +kernel | kernel_rfl | rfl)) (fun _ _ _ _ _ => (pg_name (i := 6) sc_l_system_of.nd rfl (.inl rfl))) (gr_name (by decide)) (ifY (fun _ _ _ _ _ => (zt_ne (zv 6) (zv 4) (nomark _)))) (fun _ _ _ _ _ => (z_tup (za_cons (zv 6) (za_cons (z_sub (z_ix (z_dget (hu_of hr) (zv 3) (zv 6)) zint) (zv 5)) za_nil)))))) za_nil)) za_nil))) za_nil))) zb_nil)))))))
      (zb_one (zs_ret (z_tup (za_cons (z_add (z_ix (zv 0) zint) zint) (za_cons (z_ty t_tuple (by rfl) M.tuple (by decide +kernel) (za_cons (zv 1) za_nil)) za_nil))))))), fun ws Q0 h => ?_⟩
  · obtain ⟨t, rfl, _⟩ := h
    rfl
  · obtain ⟨t, rfl, hok, q⟩ := h
    have hn := hok.ev
    have hm := hok.many
    have hbd2 : t.2.length * (t.1 + 1) ≤ 1000 * 1001 := Nat.mul_le_mul hm (by omega)
    show zLoop _ _ _ (t.2.map rowD) _
    refine zLoop_inv rowD (fun xs δ => ∃ (dn : List Row) (a2 a3 a4 a5 : Sl), t.2 = dn ++ xs ∧ δ = ([.w (.d (tabD t)), .hl ((dn.flatMap (waitsR t.1)).map waitD), a2, a3, a4, a5, .un] : List Sl)) (fun r xs δ h k hk => ?_) (fun δ h => ?_) t.2 _ ⟨[], _, _, _, _, rfl, rfl⟩
    · obtain ⟨dn, a2, a3, a4, a5, hd, rfl⟩ := h
      have hrm : r ∈ t.2 := by rw [hd]; exact List.mem_append_right _ List.mem_cons_self
      have hrows := hok.rows r hrm
      have hbl := bU_len t.1 r
      have hd0 : dn.length + 1 ≤ t.2.length := by rw [hd, List.length_append, List.length_cons]; omega
      have hfl0 : (dn.flatMap (waitsR t.1)).length ≤ dn.length * (t.1 + 1) := flat_len dn fun r _ => waitsR_len t.1 r
      have hmul : (dn.length + 1) * (t.1 + 1) ≤ t.2.length * (t.1 + 1) := Nat.mul_le_mul hd0 (Nat.le_refl _)
      rw [Nat.add_mul, Nat.one_mul] at hmul
      refine ⟨t.1, r, rfl, hrows, ?_⟩
      show zLoop _ _ _ (keysD ((evK (fun u => bdD (bB t.1 r u)) (bU t.1 r)).map fun p => (keyD p.1, p.2))) _
      rw [keys_ev]
      refine zLoop_inv (fun (e : Nat) => PyData.int (e : Nat)) (fun ys δ => ∃ (d2 : List Nat) (b4 b5 : Sl), bU t.1 r = d2 ++ ys ∧ δ = ([.w (.d (tabD t)), .hl ((dn.flatMap (waitsR t.1) ++ d2.filterMap (waitR t.1 r)).map waitD), .w (.d (rowD r)), .w (.d (evD (fun u => bdD (bB t.1 r u)) (bU t.1 r))), b4, b5, .un] : List Sl)) (fun e ys δ h k2 hk2 => ?_) (fun δ h => ?_) (bU t.1 r) _ ⟨[], _, _, rfl, by rw [List.filterMap_nil, List.append_nil]; rfl⟩
      · obtain ⟨d2, b4, b5, hd2, rfl⟩ := h
        have heU : e ∈ bU t.1 r := by rw [hd2]; exact List.mem_append_right _ List.mem_cons_self
        have hd2l : d2.length + 1 ≤ (bU t.1 r).length := by rw [hd2, List.length_append, List.length_cons]; omega
        have hfl : (d2.filterMap (waitR t.1 r)).length ≤ d2.length := List.length_filterMap_le _ _
        have hd3 : bU t.1 r = (d2 ++ [e]) ++ ys := by rw [hd2, List.append_assoc]; rfl
        have hd4 : (d2 ++ [e]).filterMap (waitR t.1 r) = d2.filterMap (waitR t.1 r) ++ [e].filterMap (waitR t.1 r) := List.filterMap_append
        obtain ⟨b1, b2, hbb⟩ : ∃ b1 b2, bB t.1 r e = (b1, b2) := ⟨_, _, rfl⟩
        conv => whnf
        refine rdget_ev heU ?_
        rw [hbb]
        cases b2 with
        | none =>
          have e0 : waitR t.1 r e = none := by
            unfold waitR
            rw [hbb]
            rfl
          have e1 : [e].filterMap (waitR t.1 r) = [] := by
            rw [List.filterMap_cons_none e0]
            rfl
          rw [e1, List.append_nil] at hd4
          exact hk2 _ ⟨d2 ++ [e], _, _, hd3, by rw [hd4]; rfl⟩
        | some h =>
          have e0 : waitR t.1 r e = some (e, ((bU t.1 r).filter fun o => !decide (o = e)).map fun o => (o, (bB t.1 r o).1 - h)) := by
            unfold waitR
            rw [hbb]
            rfl
          have e1 : [e].filterMap (waitR t.1 r) = [(e, ((bU t.1 r).filter fun o => !decide (o = e)).map fun o => (o, (bB t.1 r o).1 - h))] := by
            rw [List.filterMap_cons_some e0]
            rfl
          rw [e1] at hd4
          show zComp _ _ _ _ _ (keysD ((evK (fun u => bdD (bB t.1 r u)) (bU t.1 r)).map fun p => (keyD p.1, p.2))) []
          rw [keys_ev]
          refine zComp_fm (fun (o : Nat) => PyData.int (o : Nat)) (fun o => if (!decide (o = e)) = true then some (optD (o, (bB t.1 r o).1 - h)) else none) (bU t.1 r) [] (fun o ho k k0 h1 h2 => ?_) ?_
          · show (if (!decide (((o : Nat) : Int) = ((e : Nat) : Int))) = true then _ else k0)
            by_cases c : o = e
            · rw [decide_eq_true (show ((o : Nat) : Int) = ((e : Nat) : Int) by omega), if_neg (by decide)]
              exact h2 (if_neg (by rw [decide_eq_true c]; decide))
            · rw [decide_eq_false (show ¬ ((o : Nat) : Int) = ((e : Nat) : Int) by omega), if_pos (by decide)]
              conv => whnf
              refine rdget_ev ho ?_
              exact h1 _ (if_pos (by rw [decide_eq_false c]; rfl))
          · have e2 : (bU t.1 r).filterMap (fun o => if (!decide (o = e)) = true then some (optD (o, (bB t.1 r o).1 - h)) else none) = (((bU t.1 r).filter fun o => !decide (o = e)).map fun o => (o, (bB t.1 r o).1 - h)).map optD := by
              rw [List.map_map, ← List.filterMap_eq_map, List.filterMap_filter]
              rfl
            rw [List.nil_append, e2]
            have e5 : (dn.flatMap (waitsR t.1) ++ (d2 ++ [e]).filterMap (waitR t.1 r)).map waitD = (dn.flatMap (waitsR t.1) ++ d2.filterMap (waitR t.1 r)).map waitD ++ [waitD (e, ((bU t.1 r).filter fun o => !decide (o = e)).map fun o => (o, (bB t.1 r o).1 - h))] := by
              rw [hd4, ← List.append_assoc, List.map_append (l₁ := dn.flatMap (waitsR t.1) ++ d2.filterMap (waitR t.1 r))]
              rfl
            refine ⟨by rw [List.length_map, List.length_append, sizeLine_eq]; omega, hk2 _ ⟨d2 ++ [e], _, _, hd3, by rw [e5]; rfl⟩⟩
      · obtain ⟨d2, b4, b5, hd2, rfl⟩ := h
        rw [List.append_nil] at hd2
        rw [← hd2]
        have e6 : (dn ++ [r]).flatMap (waitsR t.1) = dn.flatMap (waitsR t.1) ++ (bU t.1 r).filterMap (waitR t.1 r) := by
          rw [List.flatMap_append, List.flatMap_singleton]
          rfl
        exact hk _ ⟨dn ++ [r], _, _, _, _, by rw [hd, List.append_assoc]; rfl, by rw [e6]⟩
    · obtain ⟨dn, a2, a3, a4, a5, hd, rfl⟩ := h
      rw [List.append_nil] at hd
      rw [← hd]
      exact q
def sp_l_table_places : Spz := fun ws q => ∃ t : Tab, ws = [.d (tabD t)] ∧ TabOk t ∧ q (.d (.list ((placesT t).map placeD)))
end
end Zl
end
section
set_option maxHeartbeats 2000000
namespace Zl
open PySem PySem.Spec PyProof.Rows L2
/-! ### drawn tables -/
def BdB (b : Bd) : Prop := BdOk b ∧ b.1.natAbs ≤ 300 ∧ ∀ g, b.2 = some g → g.natAbs ≤ 310
def SideB (n : Nat) (s : Side) : Prop := s.1 < n ∧ BdB s.2
structure RowB (n m : Nat) (r : Row) : Prop where
  sides : ∀ s ∈ r.1, SideB n s
  len : r.1.length ≤ m
  rgt : ∀ b, r.2 = some b → BdB b
theorem RowB.ok {n m : Nat} {r : Row} (h : RowB n m r) (hm : m ≤ 60) : RowOk n r := ⟨fun s hs => ⟨(h.sides s hs).1, (h.sides s hs).2.1⟩, Nat.le_trans h.len hm⟩
structure TabB (n m : Nat) (t : Tab) : Prop where
  ev : t.1 = n
  many : t.2.length ≤ m
  rows : ∀ r ∈ t.2, RowB n 8 r
theorem TabB.ok {n m : Nat} {t : Tab} (h : TabB n m t) (hn : n ≤ 1000) (hm : m ≤ 1000) : TabOk t := ⟨by rw [h.ev]; exact hn, Nat.le_trans h.many hm, fun r hr => by rw [h.ev]; exact (h.rows r hr).ok (by decide)⟩
section
variable {P : Program} {w : World} {K : PySem.W.Frag} {mg : Str → Option Value} {base : Heap}
def sp_l_bounds : Spz := fun ws q => ∃ i : Int, ws = [.bag, .d (.int i)] ∧ i.natAbs ≤ 300 ∧ ∀ b : Bd, b.1 = i → BdB b → q (.d (bdD b))
theorem ok_l_bounds (M : Mgz mg) (Dd : Vq.D1 K mg "_law_bounds" s_l_bounds ["_law_bag_here", "_law_least"]) (c_l_some : ZCal P w K mg base 2 "_law_some" sp_l_some) : ZCal P w K mg base 3 "_law_bounds" sp_l_bounds := by
  refine zcal false Dd sc_l_bounds (fun ws q h => ?_) fun f cdv A outer s H E hG hr => ⟨_, (zb_one (zs_ret (z_tup (za_cons (zv 1) (za_cons (z_call hG c_l_some hr (by decide) rfl (za_cons (zv 0) (za_cons (zfz (z_lst (za_cons (zv 1) (za_cons (zv 1) (za_cons (z_add (zv 1) zint) (za_cons (z_add (zv 1) zint) (za_cons znon za_nil))))))) za_nil))) za_nil))))), fun ws Q0 h => ?_⟩
  · obtain ⟨i, rfl, _⟩ := h
    rfl
  · obtain ⟨i, rfl, hi, q⟩ := h
    refine ⟨[.int i, .int i, .int (i + 1), .int (i + 3), .none], rfl, Nat.succ_pos _, by show 5 < 2 ^ 20; decide, fun y hy => ?_⟩
    have h1 : ∀ j : Int, i ≤ j → j ≤ i + 3 → BdB (i, some j) := fun j h1 h2 => ⟨fun g hg => (by cases hg; exact h1), hi, fun g hg => (by cases hg; omega)⟩
    simp only [List.mem_cons, List.not_mem_nil, or_false] at hy
    rcases hy with rfl | rfl | rfl | rfl | rfl
    · exact q (i, some i) rfl (h1 i (by omega) (by omega))
    · exact q (i, some i) rfl (h1 i (by omega) (by omega))
    · exact q (i, some (i + 1)) rfl (h1 (i + 1) (by omega) (by omega))
    · exact q (i, some (i + 3)) rfl (h1 (i + 3) (by omega) (by omega))
    · exact q (i, none) rfl ⟨fun g hg => (nomatch hg), hi, fun g hg => (nomatch hg)⟩
def sp_l_any_side : Spz := fun ws q => ∃ n : Nat, ws = [.bag, .d (.int n)] ∧ 0 < n ∧ n ≤ 10 ∧ ∀ s : Side, SideB n s → q (.d (sideD s))
theorem ok_l_any_side (M : Mgz mg) (Dd : Vq.D1 K mg "_law_any_side" s_l_any_side ["_law_bag_here", "_law_many"]) (c_l_bounds : ZCal P w K mg base 3 "_law_bounds" sp_l_bounds) (c_l_some : ZCal P w K mg base 2 "_law_some" sp_l_some) (c_l_take : ZCal P w K mg base 1 "_law_take" sp_l_take) : ZCal P w K mg base 4 "_law_any_side" sp_l_any_side := by
  refine zcal false Dd sc_l_any_side (fun ws q h => ?_) fun f cdv A outer s H E hG hr => ⟨_, (zb_one (zs_ret (z_catT (z_tup (za_cons (z_call hG c_l_take hr (by decide) rfl (za_cons (zv 0) (za_cons (zv 1) za_nil))) za_nil)) (z_call hG c_l_bounds hr (by decide) rfl (za_cons (zv 0) (za_cons (z_call hG c_l_some hr (by decide) rfl (za_cons (zv 0) (za_cons (zfz (z_lst (za_cons zint (za_cons zint (za_cons zint (za_cons zint (za_cons (z_neg zint) (za_cons zint (za_cons (z_neg zint) (za_cons zint za_nil)))))))))) za_nil))) za_nil)))))), fun ws Q0 h => ?_⟩
  · obtain ⟨n, rfl, _⟩ := h
    rfl
  · obtain ⟨n, rfl, h0, h1, q⟩ := h
    refine ⟨n, rfl, by omega, by omega, fun e e1 e2 => ?_⟩
    obtain ⟨u, rfl⟩ := Int.eq_ofNat_of_zero_le e1
    refine ⟨([0, 0, 1, 2, -1, 3, -4, 7] : List Int).map .int, rfl, by decide, by decide, fun y hy => ?_⟩
    obtain ⟨i, hi, rfl⟩ := List.mem_map.mp hy
    have hi2 : i.natAbs ≤ 300 := (by decide : ∀ d ∈ ([0, 0, 1, 2, -1, 3, -4, 7] : List Int), d.natAbs ≤ 300) i hi
    refine ⟨i, rfl, hi2, fun b _ hb => ?_⟩
    exact ⟨by rw [sizeLine_eq]; show 1 + 2 ≤ 16777216; decide, q (u, b) ⟨by show u < n; omega, hb⟩⟩
def sp_l_any_row : Spz := fun ws q => ∃ n : Nat, ws = [.bag, .d (.int n)] ∧ n ≤ 10 ∧ ∀ r : Row, RowB n 8 r → q (.d (rowD r))
theorem ok_l_any_row (M : Mgz mg) (Dd : Vq.D1 K mg "_law_any_row" s_l_any_row ["_law_bag_here", "_law_many"]) (c_l_any_side : ZCal P w K mg base 4 "_law_any_side" sp_l_any_side) (c_l_bounds : ZCal P w K mg base 3 "_law_bounds" sp_l_bounds) (c_l_some : ZCal P w K mg base 2 "_law_some" sp_l_some) (c_l_take : ZCal P w K mg base 1 "_law_take" sp_l_take) : ZCal P w K mg base 5 "_law_any_row" sp_l_any_row := by
  refine zcal false Dd sc_l_any_row (fun ws q h => ?_) fun f cdv A outer s H E hG hr => ⟨_, (zb_cut (zs_set (i := 2) sc_l_any_row.nd rfl (.inl rfl) (z_if (zt_gt (zv 1) zint (nomark _)) (z_call hG c_l_take hr (by decide) rfl (za_cons (zv 0) (za_cons (z_call hG c_l_some hr (by decide) rfl (za_cons (zv 0) (za_cons (zfz (z_lst (za_cons zint (za_cons zint (za_cons zint (za_cons zint za_nil)))))) za_nil))) za_nil))) zint))
      (zb_cons (zs_cold (zs_setLc (y := 3) (own := [("_law_turn", 5)]) rfl sc_l_any_row.nd (zi_range1 rfl M.range (za_cons (zv 2) za_nil)) (blkOk_by (own := [("_law_turn", 5)]) (N := n_l_any_row) (sc := defScope s_l_any_row) (by first | decide +kernel | kernel_rfl | rfl)) (fun _ _ _ _ _ => (pg_name (i := 5) sc_l_any_row.nd rfl (.inl rfl))) (gr_name (by decide)) (fun _ _ _ _ _ => (z_call hG c_l_any_side hr (by decide) rfl (za_cons (zv 0) (za_cons (zv 1) za_nil))))))
      (zb_cons (zs_set (i := 4) sc_l_any_row.nd rfl (.inl rfl) (z_if (zt_gt (z_call hG c_l_take hr (by decide) rfl (za_cons (zv 0) (za_cons zint za_nil))) zint (nomark _)) (z_call hG c_l_bounds hr (by decide) rfl (za_cons (zv 0) (za_cons (z_call hG c_l_some hr (by decide) rfl (za_cons (zv 0) (za_cons (zfz (z_lst (za_cons zint (za_cons zint (za_cons (z_neg zint) (za_cons zint za_nil)))))) za_nil))) za_nil))) znon))
      (zb_one (zs_ret (z_tup (za_cons (z_ty t_tuple (by rfl) M.tuple (by decide +kernel) (za_cons (zv 3) za_nil)) (za_cons (zv 4) za_nil)))))))), fun ws Q0 h => ?_⟩
  · obtain ⟨n, rfl, _⟩ := h
    rfl
  · obtain ⟨n, rfl, h1, q⟩ := h
    refine ⟨fun δ => ∃ k : Nat, k ≤ 8 ∧ (0 < n ∨ k = 0) ∧ δ = ([.w .bag, .w (.d (.int (n : Nat))), .w (.d (.int (k : Nat))), .un, .un, .un] : List Sl), ?_, ?_⟩
    · show (if decide ((0 : Int) < ((n : Nat) : Int)) = true then _ else _)
      by_cases c : 0 < n
      · rw [if_pos (decide_eq_true (by omega))]
        refine ⟨([2, 4, 6, 9] : List Nat).map fun (i : Nat) => .int i, rfl, by decide, by decide, fun y hy => ?_⟩
        obtain ⟨m, hm, rfl⟩ := List.mem_map.mp hy
        have hm1 : 1 ≤ m := (by decide : ∀ y ∈ ([2, 4, 6, 9] : List Nat), 1 ≤ y) m hm
        have hm2 : m ≤ 9 := (by decide : ∀ y ∈ ([2, 4, 6, 9] : List Nat), y ≤ 9) m hm
        refine ⟨(m : Int), rfl, by omega, by omega, fun e e1 e2 => ?_⟩
        obtain ⟨k, rfl⟩ := Int.eq_ofNat_of_zero_le e1
        exact ⟨k, by omega, .inl c, rfl⟩
      · rw [if_neg (by rw [decide_eq_false (by omega)]; decide)]
        exact ⟨0, by decide, .inr rfl, rfl⟩
    · rintro δ ⟨k, hk, h0, rfl⟩
      refine ⟨⟨by omega, by omega⟩, ?_⟩
      show zComp _ _ _ _ _ (rngD 0 k) []
      rw [rngD0]
      refine zComp_any (fun (i : Nat) => PyData.int (i : Nat)) sideD (fun _ s => SideB n s) (List.range k) [] (fun x hx k1 k0 h => ?_) fun ss hss => ?_
      · have hx := List.mem_range.mp hx
        refine ⟨n, rfl, by omega, h1, fun s hs => h s hs⟩
      · have hsl : ss.length = k := by rw [hss.len, List.length_range]
        have hsb : ∀ s ∈ ss, SideB n s := fun s hs => by
          obtain ⟨_, _, h⟩ := hss.mem s hs
          exact h
        have fin : ∀ o : Option Bd, (∀ b, o = some b → BdB b) → Q0 (.d (rowD (ss, o))) := fun o ho => q (ss, o) ⟨hsb, by show ss.length ≤ 8; omega, ho⟩
        refine ⟨3, rfl, by decide, by decide, fun j j1 j2 => ?_⟩
        show (if decide ((0 : Int) < j) = true then _ else _)
        by_cases c : 0 < j
        · rw [if_pos (decide_eq_true c)]
          refine ⟨([0, 1, -2, 3] : List Int).map .int, rfl, by decide, by decide, fun y hy => ?_⟩
          obtain ⟨i, hi, rfl⟩ := List.mem_map.mp hy
          have hi2 : i.natAbs ≤ 300 := (by decide : ∀ d ∈ ([0, 1, -2, 3] : List Int), d.natAbs ≤ 300) i hi
          refine ⟨i, rfl, hi2, fun b _ hb => ?_⟩
          exact fin (some b) fun b' e => by cases e; exact hb
        · rw [if_neg (by rw [decide_eq_false c]; decide)]
          exact fin none fun b' e => nomatch e
def sp_l_any_table : Spz := fun ws q => ∃ n m : Nat, ws = [.bag, .d (.int n), .d (.int m)] ∧ n ≤ 10 ∧ m ≤ 100 ∧ ∀ t : Tab, TabB n m t → q (.d (tabD t))
theorem ok_l_any_table (M : Mgz mg) (Dd : Vq.D1 K mg "_law_any_table" s_l_any_table ["_law_bag_here", "_law_many", "_law_most"]) (c_l_any_row : ZCal P w K mg base 5 "_law_any_row" sp_l_any_row) (c_l_take : ZCal P w K mg base 1 "_law_take" sp_l_take) : ZCal P w K mg base 6 "_law_any_table" sp_l_any_table := by
  refine zcal false Dd sc_l_any_table (fun ws q h => ?_) fun f cdv A outer s H E hG hr => ⟨_, (zb_one (zs_ret (z_tup (za_cons (zv 1) (za_cons (z_ty t_tuple (by rfl) M.tuple (by decide +kernel) (za_cons (zfz (z_lc (own := [("_law_turn", 3)]) rfl sc_l_any_table.nd (zi_range1 rfl M.range (za_cons (z_call hG c_l_take hr (by decide) rfl (za_cons (zv 0) (za_cons (z_add (zv 2) zint) za_nil))) za_nil)) (blkOk_by (own := [("_law_turn", 3)]) (N := n_l_any_table) (sc := defScope s_l_any_table) (by first | decide +kernel | kernel_rfl | rfl)) (fun _ _ _ _ _ => (pg_name (i := 3) sc_l_any_table.nd rfl (.inl rfl))) (gr_name (by decide)) (fun _ _ _ _ _ => (z_call hG c_l_any_row hr (by decide) rfl (za_cons (zv 0) (za_cons (zv 1) za_nil)))))) za_nil)) za_nil))))), fun ws Q0 h => ?_⟩
  · obtain ⟨n, m, rfl, _⟩ := h
    rfl
  · obtain ⟨n, m, rfl, h1, h2, q⟩ := h
    refine ⟨(m : Int) + 1, rfl, by omega, by omega, fun e e1 e2 => ?_⟩
    obtain ⟨k, rfl⟩ := Int.eq_ofNat_of_zero_le e1
    refine ⟨⟨by omega, by omega⟩, ?_⟩
    show zComp _ _ _ _ _ (rngD 0 k) []
    rw [rngD0]
    refine zComp_any (fun (i : Nat) => PyData.int (i : Nat)) rowD (fun _ r => RowB n 8 r) (List.range k) [] (fun x hx k1 k0 h => ⟨n, rfl, h1, fun r hr => h r hr⟩) fun rs hrs => ?_
    have hsl : rs.length = k := by rw [hrs.len, List.length_range]
    exact q (n, rs) ⟨rfl, by show rs.length ≤ m; omega, fun r hr => by
      obtain ⟨_, _, h⟩ := hrs.mem r hr
      exact h⟩
end
end Zl
end
section
set_option maxHeartbeats 4000000
namespace Zl
open PySem PySem.Spec PyProof.Rows L2
theorem bd_some {i j : Int} (h : i ≤ j) (h1 : i.natAbs ≤ 300) (h2 : j.natAbs ≤ 310) : BdB (i, some j) := ⟨fun g hg => (by cases hg; exact h), h1, fun g hg => (by cases hg; exact h2)⟩
section
variable {P : Program} {w : World} {K : PySem.W.Frag} {mg : Str → Option Value} {base : Heap}
def sp_l_own_sides : Spz := fun ws q => ∃ (n own : Nat) (high : Int) (b1 b2 : Bool), ws = [.bag, .d (.int (own : Nat)), .d (.int high), .d (.bool b1), .d (.bool b2)] ∧ own < n ∧ high.natAbs ≤ 100 ∧ ∀ ss : List Side, ss.length ≤ 2 → (∀ s ∈ ss, SideB n s) → q (.new (ss.map sideD))
theorem ok_l_own_sides (M : Mgz mg) (Dd : Vq.D1 K mg "_law_own_sides" s_l_own_sides ["_law_bag_here", "_law_own", "_law_high", "_law_is_told_here", "_law_is_twice"]) (c_l_bounds : ZCal P w K mg base 3 "_law_bounds" sp_l_bounds) (c_l_some : ZCal P w K mg base 2 "_law_some" sp_l_some) (c_l_take : ZCal P w K mg base 1 "_law_take" sp_l_take) : ZCal P w K mg base 4 "_law_own_sides" sp_l_own_sides := by
  refine zcal true Dd sc_l_own_sides (fun ws q h => ?_) fun f cdv A outer s H E hG hr => ⟨_, (zb_cut (zs_set (i := 5) sc_l_own_sides.nd rfl (.inl rfl) (z_if (zt_truth (zv 3) (by intro _; rfl)) (zv 2) (z_sub (zv 2) (z_call hG c_l_some hr (by decide) rfl (za_cons (zv 0) (za_cons (zfz (z_lst (za_cons zint (za_cons zint (za_cons zint (za_cons zint za_nil)))))) za_nil))))))
      (zb_cons (zs_set (i := 6) sc_l_own_sides.nd rfl (.inl rfl) (z_lst (za_cons (z_tup (za_cons (zv 1) (za_cons (zv 5) (za_cons (zv 2) za_nil)))) za_nil)))
      (zb_cons (zs_if (zt_w (zw_and (zt_truth (zv 4) (by intro _; rfl)) (zw_and1 (zt_eq (z_call hG c_l_take hr (by decide) rfl (za_cons (zv 0) (za_cons zint za_nil))) zint (nomark _))))) (zb_one (zs_hotL (i := 6) m_append (fun h => ps_expr (pe_bm PySem.F.plainAttrs_list PySem.F.slot_list_append PySem.F.type_list_append mt_append (pv 6) h)) (za_cons (z_catT (z_tup (za_cons (zv 1) za_nil)) (z_call hG c_l_bounds hr (by decide) rfl (za_cons (zv 0) (za_cons (z_add (z_add (zv 2) zint) (z_call hG c_l_take hr (by decide) rfl (za_cons (zv 0) (za_cons zint za_nil)))) za_nil)))) za_nil))) zb_nil)
      (zb_one (zs_retR (zr_own 6)))))), fun ws Q0 h => ?_⟩
  · obtain ⟨n, own, high, b1, b2, rfl, _⟩ := h
    rfl
  · obtain ⟨n, own, high, b1, b2, rfl, hon, hh, q⟩ := h
    refine ⟨fun δ => ∃ low : Int, low ≤ high ∧ high - 3 ≤ low ∧ δ = ([.w .bag, .w (.d (.int (own : Nat))), .w (.d (.int high)), .w (.d (.bool b1)), .w (.d (.bool b2)), .w (.d (.int low)), .un] : List Sl), ?_, ?_⟩
    · cases b1 with
      | true => exact ⟨high, Int.le_refl _, by omega, rfl⟩
      | false =>
        refine ⟨([0, 1, 3, 2] : List Int).map .int, rfl, by decide, by decide, fun y hy => ?_⟩
        obtain ⟨i, hi, rfl⟩ := List.mem_map.mp hy
        have h0 := (by decide : ∀ d ∈ ([0, 1, 3, 2] : List Int), 0 ≤ d) i hi
        have h3 := (by decide : ∀ d ∈ ([0, 1, 3, 2] : List Int), d ≤ 3) i hi
        exact ⟨high - i, by omega, by omega, rfl⟩
    · rintro δ ⟨low, hl1, hl2, rfl⟩
      have hs : SideB n (own, (low, some high)) := ⟨hon, bd_some hl1 (by omega) (by omega)⟩
      have one := q [(own, (low, some high))] (by show 1 ≤ 2; decide) fun s hs' => by rw [List.mem_singleton.mp hs']; exact hs
      cases b2 with
      | false => exact one
      | true =>
        refine ⟨4, rfl, by decide, by decide, fun j j1 j2 => ?_⟩
        show (if decide (j = 0) = true then _ else _)
        by_cases c : j = 0
        · rw [if_pos (decide_eq_true c)]
          refine ⟨3, rfl, by decide, by decide, fun e e1 e2 => ?_⟩
          refine ⟨high + 1 + e, rfl, by omega, fun b _ hb => ?_⟩
          refine ⟨by rw [sizeLine_eq]; show 1 + 2 ≤ 16777216; decide, ?_⟩
          refine ⟨by rw [sizeLine_eq]; show 1 < 16777216; decide, ?_⟩
          exact q [(own, (low, some high)), (own, b)] (by show 2 ≤ 2; decide) fun s hs' => by
            simp only [List.mem_cons, List.not_mem_nil, or_false] at hs'
            rcases hs' with rfl | rfl
            · exact hs
            · exact ⟨hon, hb⟩
        · rw [if_neg (by rw [decide_eq_false c]; decide)]
          exact one
def sp_l_silent_rows : Spz := fun ws q => ∃ (n : Nat) (b1 b2 : Bool), ws = [.bag, .d (.int n), .d (.bool b1), .d (.bool b2)] ∧ n ≤ 10 ∧ ∀ t : Tab, TabB n 10 t → q (.d (tabD t))
def srS (n : Nat) (b1 b2 : Bool) (vs : List Int) (os : List Nat) (rows : List Row) (a7 a8 a9 a10 a11 a12 : Sl) : List Sl := [.w .bag, .w (.d (.int (n : Nat))), .w (.d (.bool b1)), .w (.d (.bool b2)), .w (.d (.list (vs.map PyData.int))), .w (.d (.list (os.map fun (i : Nat) => PyData.int (i : Nat)))), .hl (rows.map rowD), a7, a8, a9, a10, a11, a12, .un]
theorem ok_l_silent_rows (M : Mgz mg) (Dd : Vq.D1 K mg "_law_silent_rows" s_l_silent_rows ["_law_bag_here", "_law_many", "_law_is_told_here", "_law_is_twice"]) (c_l_bounds : ZCal P w K mg base 3 "_law_bounds" sp_l_bounds) (c_l_mixed : ZCal P w K mg base 2 "_law_mixed" sp_l_mixed) (c_l_own_sides : ZCal P w K mg base 4 "_law_own_sides" sp_l_own_sides) (c_l_some : ZCal P w K mg base 2 "_law_some" sp_l_some) (c_l_take : ZCal P w K mg base 1 "_law_take" sp_l_take) : ZCal P w K mg base 5 "_law_silent_rows" sp_l_silent_rows := by
  refine zcal false Dd sc_l_silent_rows (fun ws q h => ?_) fun f cdv A outer s H E hG hr => ⟨_, (zb_cons (zs_cold (zs_setLc (y := 4) (own := [("_law_unknown", 13)]) rfl sc_l_silent_rows.nd (zi_range1 rfl M.range (za_cons (zv 1) za_nil)) (blkOk_by (own := [("_law_unknown", 13)]) (N := n_l_silent_rows) (sc := defScope s_l_silent_rows) (by first | decide +kernel | kernel_rfl | rfl)) (fun _ _ _ _ _ => (pg_name (i := 13) sc_l_silent_rows.nd rfl (.inl rfl))) (gr_name (by decide)) (fun _ _ _ _ _ => (z_call hG c_l_take hr (by decide) rfl (za_cons (zv 0) (za_cons (z_add (z_mul zint (zv 1)) zint) za_nil))))))
      (zb_cons (zs_par2 (i := 5) (j := 6) (ps_par rfl sc_l_silent_rows.nd rfl rfl (by decide) rfl rfl (zn_cons (z_call hG c_l_mixed hr (by decide) rfl (za_cons (zv 0) (za_cons (zfz (z_listRg rfl rfl M.list rfl M.range (zv 1))) za_nil))) (zn_cons (z_lst za_nil) zn_nil)) (by rfl)))
      (zb_cons (zs_for PassesOwn.never rfl (zi_seq (zv 5)) (zg_name (i := 7) sc_l_silent_rows.nd rfl (.inl rfl)) (zb_cons (zs_set (i := 8) sc_l_silent_rows.nd rfl (.inl rfl) (z_call hG c_l_some hr (by decide) rfl (za_cons (zv 0) (za_cons (zfz (z_lst (za_cons zint (za_cons zint (za_cons zint (za_cons (z_neg zint) (za_cons zint za_nil))))))) za_nil))))
      (zb_cons (zs_set (i := 9) sc_l_silent_rows.nd rfl (.inl rfl) (z_call hG c_l_own_sides hr (by decide) rfl (za_cons (zv 0) (za_cons (zv 7) (za_cons (zv 8) (za_cons (zv 2) (za_cons (zv 3) za_nil)))))))
      (zb_cons (zs_for PassesOwn.never rfl (zi_range1 rfl M.range (za_cons (zv 1) za_nil)) (zg_name (i := 10) sc_l_silent_rows.nd rfl (.inl rfl)) (zb_one (zs_if (zt_w (zw_and (zt_ne (zv 10) (zv 7) (nomark _)) (zw_and1 (zt_gt (z_call hG c_l_take hr (by decide) rfl (za_cons (zv 0) (za_cons zint za_nil))) zint (nomark _))))) (zb_cons (zs_set (i := 11) sc_l_silent_rows.nd rfl (.inl rfl) (z_add (z_add (z_add (zv 8) (z_fdiv (z_sub (z_ix (zv 4) (zv 7)) (z_ix (zv 4) (zv 10))) (zv 1))) zint) (z_call hG c_l_some hr (by decide) rfl (za_cons (zv 0) (za_cons (zfz (z_lst (za_cons zint (za_cons zint (za_cons zint (za_cons zint za_nil)))))) za_nil)))))
      (zb_cut (zs_hotL (i := 9) m_append (fun h => ps_expr (pe_bm PySem.F.plainAttrs_list PySem.F.slot_list_append PySem.F.type_list_append mt_append (pv 9) h)) (za_cons (z_catT (z_tup (za_cons (zv 10) za_nil)) (z_if (zt_truth (zv 2) (by intro _; rfl)) (z_tup (za_cons (zv 11) (za_cons (zv 11) za_nil))) (z_call hG c_l_bounds hr (by decide) rfl (za_cons (zv 0) (za_cons (zv 11) za_nil))))) za_nil))
      (zb_one (zs_if (zt_w (zw_and (zt_truth (zv 3) (by intro _; rfl)) (zw_and1 (zt_eq (z_call hG c_l_take hr (by decide) rfl (za_cons (zv 0) (za_cons zint za_nil))) zint (nomark _))))) (zb_one (zs_hotL (i := 9) m_append (fun h => ps_expr (pe_bm PySem.F.plainAttrs_list PySem.F.slot_list_append PySem.F.type_list_append mt_append (pv 9) h)) (za_cons (z_catT (z_tup (za_cons (zv 10) za_nil)) (z_call hG c_l_bounds hr (by decide) rfl (za_cons (zv 0) (za_cons (z_add (zv 11) (z_call hG c_l_take hr (by decide) rfl (za_cons (zv 0) (za_cons zint za_nil)))) za_nil)))) za_nil))) zb_nil)))) zb_nil)))
      (zb_cons (zs_set (i := 12) sc_l_silent_rows.nd rfl (.inl rfl) (z_call hG c_l_some hr (by decide) rfl (za_cons (zv 0) (za_cons (zfz (z_lst (za_cons znon (za_cons zint (za_cons zint (za_cons (z_neg zint) (za_cons zint za_nil))))))) za_nil))))
      (zb_cut (zs_if (zt_notN (zv 12) znon (nomark _)) (zb_one (zs_set (i := 12) sc_l_silent_rows.nd rfl (.inl rfl) (z_if (zt_truth (zv 2) (by intro _; rfl)) (z_tup (za_cons (zv 12) (za_cons (zv 12) za_nil))) (z_call hG c_l_bounds hr (by decide) rfl (za_cons (zv 0) (za_cons (zv 12) za_nil)))))) zb_nil)
      (zb_one (zs_hotL (i := 6) m_append (fun h => ps_expr (pe_bm PySem.F.plainAttrs_list PySem.F.slot_list_append PySem.F.type_list_append mt_append (pv 6) h)) (za_cons (z_tup (za_cons (z_ty t_tuple (by rfl) M.tuple (by decide +kernel) (za_cons (z_call hG c_l_mixed hr (by decide) rfl (za_cons (zv 0) (za_cons (zfz (z_slL (zv 9) zo_none (zo_some zint))) za_nil))) za_nil)) (za_cons (zv 12) za_nil))) za_nil)))))))))
      (zb_one (zs_ret (z_tup (za_cons (zv 1) (za_cons (z_ty t_tuple (by rfl) M.tuple (by decide +kernel) (za_cons (zv 6) za_nil)) za_nil)))))))), fun ws Q0 h => ?_⟩
  · obtain ⟨n, b1, b2, rfl, _⟩ := h
    rfl
  · obtain ⟨n, b1, b2, rfl, h1, q⟩ := h
    refine ⟨⟨by omega, by omega⟩, ?_⟩
    show zComp _ _ _ _ _ (rngD 0 n) []
    rw [rngD0]
    refine zComp_any (fun (i : Nat) => PyData.int (i : Nat)) PyData.int (fun _ v => 0 ≤ v ∧ v ≤ 50) (List.range n) [] (fun x hx k1 k0 h => ?_) fun vs hvs => ?_
    · refine ⟨.inl ⟨by decide, by decide⟩, ?_⟩
      exact ⟨5 * (n : Int) + 1, rfl, by omega, by omega, fun j j1 j2 => h j ⟨j1, by omega⟩⟩
    have hvl : vs.length = n := by rw [hvs.len, List.length_range]
    have hvb : ∀ v ∈ vs, 0 ≤ v ∧ v ≤ 50 := fun v hv => by
      obtain ⟨_, _, h⟩ := hvs.mem v hv
      exact h
    refine ⟨⟨by omega, by omega⟩, ?_⟩
    refine ⟨rngD 0 n, rfl, by rw [rng_len]; omega, fun ys hp => ?_⟩
    obtain ⟨os, ho, rfl⟩ := perm_map hp (rngD0 n)
    have hol : os.length = n := by rw [ho.length_eq, List.length_range]
    have hob : ∀ e ∈ os, e < n := fun e he => List.mem_range.mp (ho.mem_iff.mp he)
    refine zLoop_inv (fun (i : Nat) => PyData.int (i : Nat)) (fun xs δ => ∃ (dn : List Nat) (rows : List Row) (a7 a8 a9 a10 a11 a12 : Sl), os = dn ++ xs ∧ rows.length = dn.length ∧ (∀ r ∈ rows, RowB n 8 r) ∧ δ = srS n b1 b2 vs os rows a7 a8 a9 a10 a11 a12) (fun own xs δ h k hk => ?_) (fun δ h => ?_) os _ ⟨[], [], _, _, _, _, _, _, rfl, rfl, (fun r hr => by cases hr), rfl⟩
    · obtain ⟨dn, rows, a7, a8, a9, a10, a11, a12, hd, hrl, hrb, rfl⟩ := h
      have hon : own < n := hob own (by rw [hd]; exact List.mem_append_right _ List.mem_cons_self)
      have hdl : dn.length < 10 := by
        have : os.length = dn.length + (own :: xs).length := by rw [hd, List.length_append]
        rw [List.length_cons] at this
        omega
      refine ⟨([0, 0, 1, -2, 4] : List Int).map .int, rfl, by decide, by decide, fun y hy => ?_⟩
      obtain ⟨high, hhi, rfl⟩ := List.mem_map.mp hy
      have hh := (by decide : ∀ d ∈ ([0, 0, 1, -2, 4] : List Int), d.natAbs ≤ 4) high hhi
      clear hy hhi
      refine ⟨n, own, high, b1, b2, rfl, hon, by omega, fun ss hs1 hs2 => ?_⟩
      refine ⟨⟨by omega, by omega⟩, ?_⟩
      show zLoop _ _ _ (rngD 0 n) _
      rw [rngD0]
      refine zLoop_inv (fun (i : Nat) => PyData.int (i : Nat)) (fun zs δ => (∀ e ∈ zs, e < n) ∧ ∃ (ss : List Side) (a10 a11 : Sl), ss.length + 2 * zs.length ≤ 30 ∧ (∀ s ∈ ss, SideB n s) ∧ δ = srS n b1 b2 vs os rows (.w (.d (.int (own : Nat)))) (.w (.d (.int high))) (.hl (ss.map sideD)) a10 a11 a12) (fun x zs δ h k2 hk2 => ?_) (fun δ h => ?_) (List.range n) _ ⟨fun e he => List.mem_range.mp he, ss, _, _, by rw [List.length_range]; omega, hs2, rfl⟩
      · obtain ⟨hall, ss, a10, a11, hsl, hsb, rfl⟩ := h
        rw [List.length_cons] at hsl
        have hx := hall x List.mem_cons_self
        have hall2 : ∀ e ∈ zs, e < n := fun e he => hall e (List.mem_cons_of_mem _ he)
        have skip : ∀ a11, k2 (srS n b1 b2 vs os rows (.w (.d (.int (own : Nat)))) (.w (.d (.int high))) (.hl (ss.map sideD)) (.w (.d (.int (x : Nat)))) a11 a12) := fun a11 => hk2 _ ⟨hall2, ss, _, _, by omega, hsb, rfl⟩
        show (if (!decide (((x : Nat) : Int) = ((own : Nat) : Int))) = true then _ else _)
        by_cases c : x = own
        · rw [decide_eq_true (show ((x : Nat) : Int) = ((own : Nat) : Int) by omega), if_neg (by decide)]
          exact skip _
        rw [decide_eq_false (show ¬ ((x : Nat) : Int) = ((own : Nat) : Int) by omega), if_pos (by decide)]
        refine ⟨3, rfl, by decide, by decide, fun j j1 j2 => ?_⟩
        show (if decide ((0 : Int) < j) = true then _ else _)
        by_cases cj : 0 < j
        · rw [if_pos (decide_eq_true cj)]
          have av : ∀ e, e < n → ∃ v : Int, 0 ≤ v ∧ v ≤ 50 ∧ L2.atI (vs.map PyData.int) ((e : Nat) : Int) = some (.int v) := fun e he => by
            have hev : e < vs.length := by rw [hvl]; exact he
            have h3 := hvb vs[e] (List.getElem_mem hev)
            exact ⟨vs[e], h3.1, h3.2, atI_nat (by rw [List.getElem?_map, List.getElem?_eq_getElem hev]; rfl)⟩
          obtain ⟨v1, v10, v11, ev1⟩ := av own hon
          obtain ⟨v2, v20, v21, ev2⟩ := av x hx
          show (match L2.atI (vs.map PyData.int) ((own : Nat) : Int) with
            | some d => _
            | none => False)
          rw [ev1]
          show (match L2.atI (vs.map PyData.int) ((x : Nat) : Int) with
            | some d => _
            | none => False)
          rw [ev2]
          have hn0 : (0 : Int) < n := by omega
          have d1 : (v1 - v2) / (n : Int) ≤ 50 := Int.ediv_le_of_le_mul hn0 (by omega)
          have d2 : -50 ≤ (v1 - v2) / (n : Int) := Int.le_ediv_of_mul_le hn0 (by omega)
          refine ⟨⟨hn0, by omega⟩, ?_⟩
          refine ⟨([0, 0, 1, 3] : List Int).map .int, rfl, by decide, by decide, fun y hy => ?_⟩
          obtain ⟨t, ht, rfl⟩ := List.mem_map.mp hy
          have ht2 := (by decide : ∀ d ∈ ([0, 0, 1, 3] : List Int), d.natAbs ≤ 3) t ht
          clear hy ht
          obtain ⟨L, hL⟩ : ∃ L, L = high + (v1 - v2) / (n : Int) + 1 + t := ⟨_, rfl⟩
          have hLb : L.natAbs ≤ 100 := by omega
          subst hL
          refine ⟨fun δ => ∃ ss' : List Side, ss'.length ≤ ss.length + 1 ∧ (∀ s ∈ ss', SideB n s) ∧ δ = srS n b1 b2 vs os rows (.w (.d (.int (own : Nat)))) (.w (.d (.int high))) (.hl (ss'.map sideD)) (.w (.d (.int (x : Nat)))) (.w (.d (.int (high + (v1 - v2) / (n : Int) + 1 + t)))) a12, ?_, ?_⟩
          · have add : ∀ b : Bd, BdB b → ∃ ss' : List Side, ss'.length ≤ ss.length + 1 ∧ (∀ s ∈ ss', SideB n s) ∧ srS n b1 b2 vs os rows (.w (.d (.int (own : Nat)))) (.w (.d (.int high))) (.hl (ss.map sideD ++ [sideD (x, b)])) (.w (.d (.int (x : Nat)))) (.w (.d (.int (high + (v1 - v2) / (n : Int) + 1 + t)))) a12 = srS n b1 b2 vs os rows (.w (.d (.int (own : Nat)))) (.w (.d (.int high))) (.hl (ss'.map sideD)) (.w (.d (.int (x : Nat)))) (.w (.d (.int (high + (v1 - v2) / (n : Int) + 1 + t)))) a12 := fun b hb => by
              refine ⟨ss ++ [(x, b)], by rw [List.length_append]; exact Nat.le_refl _, fun s hs => ?_, by rw [List.map_append]; rfl⟩
              rcases List.mem_append.mp hs with z | z
              · exact hsb s z
              · rw [List.mem_singleton.mp z]
                exact ⟨hx, hb⟩
            cases b1 with
            | true => exact ⟨by rw [sizeLine_eq]; show 1 + 2 ≤ 16777216; decide, by rw [List.length_map, sizeLine_eq]; omega, add (_, some _) (bd_some (Int.le_refl _) (by omega) (by omega))⟩
            | false =>
              refine ⟨_, rfl, by omega, fun b _ hb => ?_⟩
              exact ⟨by rw [sizeLine_eq]; show 1 + 2 ≤ 16777216; decide, by rw [List.length_map, sizeLine_eq]; omega, add b hb⟩
          · rintro δ ⟨ss', hl', hb', rfl⟩
            have skip2 : k2 (srS n b1 b2 vs os rows (.w (.d (.int (own : Nat)))) (.w (.d (.int high))) (.hl (ss'.map sideD)) (.w (.d (.int (x : Nat)))) (.w (.d (.int (high + (v1 - v2) / (n : Int) + 1 + t)))) a12) := hk2 _ ⟨hall2, ss', _, _, by omega, hb', rfl⟩
            cases b2 with
            | false => exact skip2
            | true =>
              refine ⟨4, rfl, by decide, by decide, fun j j1 j2 => ?_⟩
              show (if decide (j = 0) = true then _ else _)
              by_cases c4 : j = 0
              · rw [if_pos (decide_eq_true c4)]
                refine ⟨3, rfl, by decide, by decide, fun e e1 e2 => ?_⟩
                refine ⟨high + (v1 - v2) / (n : Int) + 1 + t + e, rfl, by omega, fun b _ hb => ?_⟩
                refine ⟨by rw [sizeLine_eq]; show 1 + 2 ≤ 16777216; decide, ?_⟩
                refine ⟨by rw [List.length_map, sizeLine_eq]; omega, hk2 _ ⟨hall2, ss' ++ [(x, b)], _, _, by rw [List.length_append, List.length_singleton]; omega, fun s hs => ?_, by rw [List.map_append]; rfl⟩⟩
                rcases List.mem_append.mp hs with z | z
                · exact hb' s z
                · rw [List.mem_singleton.mp z]
                  exact ⟨hx, hb⟩
              · rw [if_neg (by rw [decide_eq_false c4]; decide)]
                exact skip2
        · rw [if_neg (by rw [decide_eq_false cj]; decide)]
          exact skip _
      · obtain ⟨_, ss, a10, a11, hsl, hsb, rfl⟩ := h
        have put : ∀ o : Option Bd, (∀ b, o = some b → BdB b) → ∃ o' : Option Bd, (∀ b, o' = some b → BdB b) ∧ srS n b1 b2 vs os rows (.w (.d (.int (own : Nat)))) (.w (.d (.int high))) (.hl (ss.map sideD)) a10 a11 (.w (.d (rgtD o))) = srS n b1 b2 vs os rows (.w (.d (.int (own : Nat)))) (.w (.d (.int high))) (.hl (ss.map sideD)) a10 a11 (.w (.d (rgtD o'))) := fun o ho => ⟨o, ho, rfl⟩
        refine ⟨[.none, .int 0, .int 2, .int (-1), .int 5], rfl, by decide, by decide, fun y hy => ?_⟩
        refine ⟨fun δ => ∃ o' : Option Bd, (∀ b, o' = some b → BdB b) ∧ δ = srS n b1 b2 vs os rows (.w (.d (.int (own : Nat)))) (.w (.d (.int high))) (.hl (ss.map sideD)) a10 a11 (.w (.d (rgtD o'))), ?_, ?_⟩
        · have hy2 : y = .none ∨ ∃ i : Int, i.natAbs ≤ 5 ∧ y = .int i := by
            simp only [List.mem_cons, List.not_mem_nil, or_false] at hy
            rcases hy with h | h | h | h | h
            · exact .inl h
            · exact .inr ⟨0, by decide, h⟩
            · exact .inr ⟨2, by decide, h⟩
            · exact .inr ⟨-1, by decide, h⟩
            · exact .inr ⟨5, by decide, h⟩
          rcases hy2 with rfl | ⟨i, hi, rfl⟩
          · exact put none fun b e => nomatch e
          · cases b1 with
            | true => exact put (some (i, some i)) fun b e => by cases e; exact bd_some (Int.le_refl _) (by omega) (by omega)
            | false => exact ⟨i, rfl, by omega, fun b _ hb => put (some b) fun b' e => by cases e; exact hb⟩
        · rintro δ ⟨o, hor, rfl⟩
          have ec : cutD (ss.map sideD) none (some 8) = (ss.take 8).map sideD := cutL_to sideD ss 8
          refine ⟨cutD (ss.map sideD) none (some 8), rfl, by rw [ec, List.length_map, List.length_take]; omega, fun zs hz => ?_⟩
          rw [ec] at hz
          obtain ⟨us, hu, rfl⟩ := perm_map hz rfl
          have e9 : (rows ++ [((us, o) : Row)]).map rowD = rows.map rowD ++ [rowD (us, o)] := List.map_append
          refine ⟨by rw [List.length_map, sizeLine_eq]; omega, hk _ ⟨dn ++ [own], rows ++ [(us, o)], .w (.d (.int (own : Nat))), .w (.d (.int high)), .hl (ss.map sideD), a10, a11, .w (.d (rgtD o)), by rw [hd, List.append_assoc]; rfl, by rw [List.length_append, List.length_append, hrl]; rfl, fun r hr => ?_, by unfold srS; rw [e9]; rfl⟩⟩
          rcases List.mem_append.mp hr with z | z
          · exact hrb r z
          · rw [List.mem_singleton.mp z]
            refine ⟨fun s hs => hsb s (List.mem_of_mem_take (hu.mem_iff.mp hs)), ?_, hor⟩
            show us.length ≤ 8
            rw [hu.length_eq, List.length_take]
            omega
    · obtain ⟨dn, rows, a7, a8, a9, a10, a11, a12, hd, hrl, hrb, rfl⟩ := h
      rw [List.append_nil] at hd
      exact q (n, rows) ⟨rfl, by show rows.length ≤ 10; rw [hrl, ← hd, hol]; exact h1, hrb⟩
def sp_l_silent_table : Spz := fun ws q => ∃ (n : Nat) (b1 : Bool), ws = [.bag, .d (.int n), .d (.bool b1)] ∧ n ≤ 10 ∧ ∀ t : Tab, TabB n 10 t → q (.d (tabD t))
theorem ok_l_silent_table (M : Mgz mg) (Dd : Vq.D1 K mg "_law_silent_table" s_l_silent_table ["_law_bag_here", "_law_many", "_law_is_told_here"]) (c_l_silent_rows : ZCal P w K mg base 5 "_law_silent_rows" sp_l_silent_rows) : ZCal P w K mg base 6 "_law_silent_table" sp_l_silent_table := by
  refine zcal false Dd sc_l_silent_table (fun ws q h => ?_) fun f cdv A outer s H E hG hr => ⟨_, (zb_one (zs_ret (z_call hG c_l_silent_rows hr (by decide) rfl (za_cons (zv 0) (za_cons (zv 1) (za_cons (zv 2) (za_cons (z_notV (zv 2)) za_nil))))))), fun ws Q0 h => ?_⟩
  · obtain ⟨n, b1, rfl, _⟩ := h
    rfl
  · obtain ⟨n, b1, rfl, h1, q⟩ := h
    exact ⟨n, b1, !b1, rfl, h1, q⟩
end
end Zl
end
section
set_option maxHeartbeats 4000000
namespace Zl
open PySem PySem.Spec PyProof.Rows L2
/-! ### rows made to be met: each turn takes one high bound away -/
def hiB (n : Nat) (r : Row) (u : Nat) : Bool := match lhB n r u with
  | some b => b.2.isSome
  | none => false
def cntH (n : Nat) (r : Row) : Nat := ((List.range (n + 1)).filter (hiB n r)).length
theorem cntH_le (n : Nat) (r : Row) : cntH n r ≤ n + 1 := by
  unfold cntH
  have := List.length_filter_le (hiB n r) (List.range (n + 1))
  rw [List.length_range] at this
  exact this
theorem cntH_lt {n : Nat} {r r2 : Row} {e : Nat} (he : e < n + 1) (h1 : hiB n r e = true) (h2 : hiB n r2 e = false) (h3 : ∀ u, u ≠ e → hiB n r2 u = hiB n r u) : cntH n r2 < cntH n r := by
  unfold cntH
  refine filter_len_lt (fun x _ hx => ?_) (List.mem_range.mpr he) h2 h1
  by_cases c : x = e
  · rw [c] at hx
    rw [h2] at hx
    cases hx
  · rw [← h3 x c]
    exact hx
theorem lowM_mem {bs : List Bd} (h : bs ≠ []) : lowM bs ∈ bs.map fun b : Bd => b.1 := by
  cases bs with
  | nil => exact absurd rfl h
  | cons b bs =>
    obtain ⟨h1, _, _⟩ := Vq.foldl_min_spec (bs.map fun b : Bd => b.1) b.1
    rcases h1 with h1 | h1
    · show (bs.map fun b : Bd => b.1).foldl min b.1 ∈ _
      rw [h1]
      exact List.mem_cons_self
    · exact List.mem_cons_of_mem _ h1
theorem lowM_le {bs : List Bd} {b : Bd} (h : b ∈ bs) : lowM bs ≤ b.1 := by
  cases bs with
  | nil => cases h
  | cons a bs =>
    obtain ⟨_, h2, h3⟩ := Vq.foldl_min_spec (bs.map fun b : Bd => b.1) a.1
    rcases List.mem_cons.mp h with rfl | h
    · exact h2
    · exact h3 _ (List.mem_map.mpr ⟨b, h, rfl⟩)
theorem high_off {bs : List Bd} {h : Int} (hh : highM bs = some h) : highM (bs ++ [(lowM bs, none)]) = none := by
  unfold highM at hh ⊢
  rw [List.map_append]
  have e := (lo_cons none (bs.map fun b : Bd => b.2)).2
  rw [if_pos (by cases lo (bs.map fun b : Bd => b.2) <;> rfl)] at e
  have e2 : ([((lowM bs, none) : Bd)].map fun b : Bd => b.2) = [(none : Ord)] := rfl
  rw [e2, e]
  cases hl : lo (bs.map fun b : Bd => b.2) with
  | none => rfl
  | some g =>
    rw [hl] at hh
    have hh : (if (bs.filter fun b => decide (b.1 ≤ g)).length = 1 then some g else none) = some h := hh
    by_cases c : (bs.filter fun b => decide (b.1 ≤ g)).length = 1
    · have hlow : lowM bs ≤ g := by
        cases q : bs.filter fun b => decide (b.1 ≤ g) with
        | nil => rw [q] at c; cases c
        | cons b l =>
          have hb : b ∈ bs.filter fun b => decide (b.1 ≤ g) := by rw [q]; exact List.mem_cons_self
          rw [List.mem_filter] at hb
          have := of_decide_eq_true hb.2
          have := lowM_le hb.1
          omega
      show (if ((bs ++ [((lowM bs, none) : Bd)]).filter fun b => decide (b.1 ≤ g)).length = 1 then some g else none) = none
      rw [if_neg]
      rw [List.filter_append, List.length_append, c]
      have : ([((lowM bs, none) : Bd)].filter fun b => decide (b.1 ≤ g)) = [(lowM bs, none)] := by
        rw [List.filter_cons, if_pos (decide_eq_true hlow)]
        rfl
      rw [this]
      show ¬ 1 + 1 = 1
      decide
    · rw [if_neg c] at hh
      cases hh
theorem bB_of {n : Nat} {r : Row} {e : Nat} (he : e ∈ bU n r) : lhB n r e = some (bB n r e) := by
  unfold bU at he
  have h := (List.mem_filter.mp he).2
  unfold bB
  cases q : lhB n r e with
  | none => rw [q] at h; cases h
  | some b => rfl
theorem met_right {n : Nat} {r : Row} {b : Bd} (hr : r.2 = some b) (hb : b.2.isSome = true) : cntH n (r.1, some (b.1, none)) < cntH n r := by
  refine cntH_lt (e := n) (by omega) ?_ ?_ fun u hu => ?_
  · unfold hiB lhB
    rw [if_pos rfl, hr]
    exact hb
  · unfold hiB lhB
    rw [if_pos rfl]
    rfl
  · unfold hiB lhB
    rw [if_neg hu, if_neg hu]
    rfl
theorem met_side {n : Nat} {r : Row} {e : Nat} {h : Int} (hn : e < n) (hne : bsO r e ≠ []) (hh : highM (bsO r e) = some h) : cntH n (r.1 ++ [(e, (lowM (bsO r e), none))], r.2) < cntH n r := by
  have hbs : ∀ u, bsO (r.1 ++ [(e, (lowM (bsO r e), none))], r.2) u = bsO r u ++ (if u = e then [(lowM (bsO r e), none)] else []) := fun u => by
    unfold bsO
    rw [List.filter_append, List.map_append]
    congr 1
    by_cases c : u = e
    · rw [if_pos c, List.filter_cons, if_pos (decide_eq_true c.symm)]
      rfl
    · rw [if_neg c, List.filter_cons, if_neg (by rw [decide_eq_false (fun z => c z.symm)]; decide)]
      rfl
  refine cntH_lt (e := e) (by omega) ?_ ?_ fun u hu => ?_
  · unfold hiB lhB
    rw [if_neg (by omega)]
    cases q : bsO r e with
    | nil => exact absurd q hne
    | cons a l =>
      rw [q] at hh
      show (highM (a :: l)).isSome = true
      rw [hh]
      rfl
  · unfold hiB lhB
    rw [if_neg (by omega), hbs e, if_pos rfl]
    have h2 := high_off hh
    cases q : bsO r e ++ [(lowM (bsO r e), none)] with
    | nil => rfl
    | cons a l =>
      rw [q] at h2
      show (highM (a :: l)).isSome = false
      rw [h2]
      rfl
  · unfold hiB lhB
    rw [hbs u, if_neg hu, List.append_nil]
section
variable {P : Program} {w : World} {K : PySem.W.Frag} {mg : Str → Option Value} {base : Heap}
def spm_l_met_row (dd : Nat) : Spz := fun ws q => ∃ (n : Nat) (p : Pl) (r : Row), ws = [.bag, .d (plD true p), .d (rowD r)] ∧ p.length = n ∧ n ≤ 10 ∧ RowB n 40 r ∧ r.1.length + dd ≤ 40 ∧ cntH n r < dd ∧ ∀ r' : Row, RowB n 40 r' → q (.d (rowD r'))
def mrS (p : Pl) (r : Row) (a6 a7 a8 a9 : Sl) : List Sl := [.w .bag, .w (.d (plD true p)), .w (.d (rowD r)), .w (.d (.int ((p.map ordD).length : Nat))), .w (.d (evD (fun u => bdD (bB p.length r u)) (bU p.length r))), .w (.d (.tuple (p.map ordD ++ [.int 0]))), a6, a7, a8, a9, .un]
theorem okr_l_met_row (M : Mgz mg) (Dd : Vq.D1 K mg "_law_met_row" s_l_met_row ["_law_bag_here", "_law_orders", "_law_row"]) (dd : Nat) (c_l_met_row : ZCal P w K mg base (6 + dd) "_law_met_row" (spm_l_met_row dd)) (c_l_is_kept : ZCal P w K mg base 5 "_law_is_kept" sp_l_is_kept) (c_l_row_bounds : ZCal P w K mg base 5 "_law_row_bounds" sp_l_row_bounds) : ZCal P w K mg base (6 + dd + 1) "_law_met_row" (spm_l_met_row (dd + 1)) := by
  refine zcal false Dd sc_l_met_row (fun ws q h => ?_) fun f cdv A outer s H E hG hr => ⟨_, (zb_cons (zs_set (i := 3) sc_l_met_row.nd rfl (.inl rfl) (z_b b_len (by rfl) M.len (by decide +kernel) (za_cons (zv 1) za_nil)))
      (zb_cons (zs_parG (is := [4, 5]) rfl (by decide) (ps_asg (pe_tup (zn_cons (z_call hG c_l_row_bounds hr (by omega) rfl (za_cons (zv 3) (za_cons (zv 2) za_nil))) (zn_cons (z_catT (z_ty t_tuple (by rfl) M.tuple (by decide +kernel) (za_cons (zv 1) za_nil)) (z_tup (za_cons zint za_nil))) zn_nil))) (pg_tup rfl (pgs_cons (pg_name (i := 4) sc_l_met_row.nd rfl (.inr rfl)) (pgs_cons (pg_name (i := 5) sc_l_met_row.nd rfl (.inl rfl)) pgs_nil)))))
      (zb_cons (zs_for PassesOwn.never rfl (zi_seq (zfz (z_ty (t_listDz rfl) (by rfl) M.list (by decide +kernel) (za_cons (zv 4) za_nil)))) (zg_name (i := 6) sc_l_met_row.nd rfl (.inr rfl)) (zb_cons (zs_asg (z_dget (hu_of hr) (zv 4) (zv 6)) (zg_tup rfl (zgs_cons (zg_name (i := 7) sc_l_met_row.nd rfl (.inl rfl)) (zgs_cons (zg_name (i := 8) sc_l_met_row.nd rfl (.inr rfl)) zgs_nil))))
      (zb_cons (zs_set (i := 9) sc_l_met_row.nd rfl (.inl rfl) (zfz (z_if (zt_notN (zv 8) znon (nomark _)) (z_lcG (own := [("_law_other", 10)]) rfl sc_l_met_row.nd (itD 4 .keys (pi_keys (pv 4))) (blkOk_by (own := [("_law_other", 10)]) (N := n_l_met_row) (sc := defScope s_l_met_row) (by first | decide +kernel | kernel_rfl | rfl)) (fun _ _ _ _ _ => (pg_name (i := 10) sc_l_met_row.nd rfl (.inl rfl))) (gr_name (by decide)) (ifY (fun _ _ _ _ _ => (zt_ne (zv 10) (zv 6) (nomark _)))) (fun _ _ _ _ _ => (z_tup (za_cons (zv 10) (za_cons (z_sub (z_ix (z_dget (hu_of hr) (zv 4) (zv 10)) zint) (zv 8)) za_nil))))) (z_lst za_nil))))
      (zb_one (zs_if (zt_w (zw_and (zt_notN (zv 8) znon (nomark _)) (zw_and1 (zt_not (zt_val (z_call hG c_l_is_kept hr (by omega) rfl (za_cons (zv 5) (za_cons (z_tup (za_cons (zv 6) (za_cons (z_ty t_tuple (by rfl) M.tuple (by decide +kernel) (za_cons (zv 9) za_nil)) za_nil))) za_nil)))))))) (zb_cons (zs_if (zt_eq (zv 6) (zv 3) (nomark _)) (zb_one (zs_ret (z_call hG c_l_met_row hr (by omega) rfl (za_cons (zv 0) (za_cons (zv 1) (za_cons (z_tup (za_cons (z_ix (zv 2) zint) (za_cons (z_tup (za_cons (z_ix (z_ix (zv 2) zint) zint) (za_cons znon za_nil))) za_nil))) za_nil)))))) zb_nil)
      (zb_one (zs_ret (z_call hG c_l_met_row hr (by omega) rfl (za_cons (zv 0) (za_cons (zv 1) (za_cons (z_tup (za_cons (z_catT (z_ix (zv 2) zint) (z_tup (za_cons (z_tup (za_cons (zv 6) (za_cons (z_ix (z_dget (hu_of hr) (zv 4) (zv 6)) zint) (za_cons znon za_nil)))) za_nil))) (za_cons (z_ix (zv 2) zint) za_nil))) za_nil))))))) zb_nil)))))
      (zb_one (zs_ret (zv 2)))))), fun ws Q0 h => ?_⟩
  · obtain ⟨n, p, r, rfl, _⟩ := h
    rfl
  · obtain ⟨n, p, r, rfl, hp, hn, hB, hlen, hcnt, q⟩ := h
    obtain rfl : p.length = n := hp
    have hbl := bU_len p.length r
    have hrk : RowOk p.length r := ⟨fun s hs => ⟨(hB.sides s hs).1, (hB.sides s hs).2.1⟩, by omega⟩
    have el : (p.map ordD).length = p.length := List.length_map _
    refine ⟨p.length, r, ?_, hrk, ?_⟩
    · show [W.d (.int (((p.map ordD).length : Nat) : Int)), W.d (rowD r)] = _
      rw [el]
    refine ⟨by rw [List.length_map, sizeLine_eq]; show _ + 1 ≤ _; omega, ?_⟩
    have eat : (p.map ordD ++ [PyData.int 0]) = (p ++ [some 0]).map ordD := by rw [List.map_append]; rfl
    have hpl : (p ++ [some 0]).length = p.length + 1 := by rw [List.length_append]; rfl
    conv => whnf
    refine dct_ev ?_
    refine ⟨by rw [evK_len, sizeLine_eq]; omega, ?_⟩
    have ekk : ((evK (fun u => bdD (bB p.length r u)) (bU p.length r)).map fun x => keyD x.1) = (bU p.length r).map fun (u : Nat) => PyData.int (u : Nat) := by
      unfold evK
      rw [List.map_map]
      rfl
    rw [ekk]
    refine zLoop_inv (fun (u : Nat) => PyData.int (u : Nat)) (fun xs δ => (∀ e ∈ xs, e ∈ bU p.length r) ∧ ∃ a6 a7 a8 a9 : Sl, δ = mrS p r a6 a7 a8 a9) (fun e xs δ h k hk => ?_) (fun δ h => ?_) (bU p.length r) _ ⟨fun e he => he, .un, .un, .un, .un, rfl⟩
    · obtain ⟨hall, a6, a7, a8, a9, rfl⟩ := h
      have he := hall e List.mem_cons_self
      have hall2 : ∀ x ∈ xs, x ∈ bU p.length r := fun x hx => hall x (List.mem_cons_of_mem _ hx)
      obtain ⟨b1, b2, hbb⟩ : ∃ b1 b2, bB p.length r e = (b1, b2) := ⟨_, _, rfl⟩
      have hlh := bB_of he
      rw [hbb] at hlh
      have hel : e < p.length + 1 := by
        unfold bU at he
        exact List.mem_range.mp (List.mem_filter.mp he).1
      conv => whnf
      refine rdget_ev he ?_
      rw [hbb]
      cases b2 with
      | none => exact hk _ ⟨hall2, _, _, _, _, rfl⟩
      | some h =>
        show zComp _ _ _ _ _ (keysD ((evK (fun u => bdD (bB p.length r u)) (bU p.length r)).map fun p => (keyD p.1, p.2))) []
        rw [keys_ev]
        refine zComp_fm (fun (o : Nat) => PyData.int (o : Nat)) (fun o => if (!decide (o = e)) = true then some (optD (o, (bB p.length r o).1 - h)) else none) (bU p.length r) [] (fun o ho k k0 h1 h2 => ?_) ?_
        · show (if (!decide (((o : Nat) : Int) = ((e : Nat) : Int))) = true then _ else k0)
          by_cases c : o = e
          · rw [decide_eq_true (show ((o : Nat) : Int) = ((e : Nat) : Int) by omega), if_neg (by decide)]
            exact h2 (if_neg (by rw [decide_eq_true c]; decide))
          · rw [decide_eq_false (show ¬ ((o : Nat) : Int) = ((e : Nat) : Int) by omega), if_pos (by decide)]
            conv => whnf
            refine rdget_ev ho ?_
            exact h1 _ (if_pos (by rw [decide_eq_false c]; rfl))
        obtain ⟨os, hos⟩ : ∃ os : List Opt, os = ((bU p.length r).filter fun o => !decide (o = e)).map fun o => (o, (bB p.length r o).1 - h) := ⟨_, rfl⟩
        have e2 : (bU p.length r).filterMap (fun o => if (!decide (o = e)) = true then some (optD (o, (bB p.length r o).1 - h)) else none) = os.map optD := by
          rw [hos, List.map_map, ← List.filterMap_eq_map, List.filterMap_filter]
          rfl
        rw [List.nil_append, e2]
        have hwk : WtOk (p ++ [some 0]).length (e, os) := ⟨by rw [hpl]; exact hel, fun o ho => by
          rw [hos] at ho
          obtain ⟨u, hu, rfl⟩ := List.mem_map.mp ho
          have hu2 := (List.mem_filter.mp hu).1
          unfold bU at hu2
          rw [hpl]
          exact List.mem_range.mp (List.mem_filter.mp hu2).1⟩
        refine ⟨true, p ++ [some 0], (e, os), ?_, hwk, ?_⟩
        · show [W.d (.tuple (p.map ordD ++ [PyData.int 0])), W.d (.tuple [.int (e : Nat), .tuple (os.map optD)])] = _
          rw [eat]
          rfl
        cases hkw : kw (p ++ [some 0]) (e, os) with
        | true => exact hk _ ⟨hall2, _, _, _, _, rfl⟩
        | false =>
          show (if decide (((e : Nat) : Int) = (((p.map ordD).length : Nat) : Int)) = true then _ else _)
          rw [el]
          obtain ⟨sd, rg⟩ := r
          by_cases c : e = p.length
          · rw [if_pos (decide_eq_true (by omega))]
            have hr2 : rg = some (b1, some h) := by
              unfold lhB at hlh
              rw [if_pos c] at hlh
              exact hlh
            subst hr2
            have hm := met_right (n := p.length) (r := (sd, some (b1, some h))) rfl rfl
            have hbb1 := hB.rgt _ rfl
            refine ⟨p.length, p, (sd, some (b1, none)), rfl, rfl, hn, ⟨hB.sides, hB.len, fun b hb => ?_⟩, ?_, ?_, q⟩
            · cases hb
              exact ⟨fun g hg => (nomatch hg), hbb1.2.1, fun g hg => (nomatch hg)⟩
            · have hlen : sd.length + (dd + 1) ≤ 40 := hlen
              show sd.length + dd ≤ 40
              omega
            · have hm : cntH p.length (sd, some (b1, none)) < cntH p.length (sd, some (b1, some h)) := hm
              omega
          · rw [if_neg (by rw [decide_eq_false (by omega)]; decide)]
            have hen : e < p.length := by omega
            have hne : bsO (sd, rg) e ≠ [] := fun z => by
              unfold lhB at hlh
              rw [if_neg c, z] at hlh
              cases hlh
            have hob := bB_own hen hne
            rw [hbb] at hob
            have hb1 : b1 = lowM (bsO (sd, rg) e) := congrArg Prod.fst hob
            have hb2 : highM (bsO (sd, rg) e) = some h := (congrArg Prod.snd hob).symm
            have hm := met_side hen hne hb2
            rw [← hb1] at hm
            have hb3 : b1.natAbs ≤ 300 := by
              have := lowM_mem hne
              rw [← hb1] at this
              unfold bsO at this
              rw [List.map_map] at this
              obtain ⟨s, hs, hs2⟩ := List.mem_map.mp this
              have hsB := (hB.sides s (List.mem_filter.mp hs).1).2.2.1
              have hs2 : s.2.1 = b1 := hs2
              rw [← hs2]
              exact hsB
            conv => whnf
            refine rdget_ev he ?_
            rw [hbb]
            have hlen : sd.length + (dd + 1) ≤ 40 := hlen
            refine ⟨by rw [List.length_map, sizeLine_eq]; show _ + 1 ≤ _; omega, ?_⟩
            refine ⟨p.length, p, (sd ++ [(e, (b1, none))], rg), ?_, rfl, hn, ⟨fun s hs => ?_, ?_, hB.rgt⟩, ?_, ?_, q⟩
            · show [W.bag, W.d (plD true p), W.d (.tuple [.tuple (sd.map sideD ++ [.tuple [.int (e : Nat), .int b1, .none]]), rgtD rg])] = _
              unfold rowD
              rw [List.map_append]
              rfl
            · rcases List.mem_append.mp hs with z | z
              · exact hB.sides s z
              · rw [List.mem_singleton.mp z]
                exact ⟨hen, fun g hg => (nomatch hg), hb3, fun g hg => (nomatch hg)⟩
            · show (sd ++ [(e, (b1, none))]).length ≤ 40
              rw [List.length_append, List.length_singleton]
              omega
            · show (sd ++ [(e, (b1, none))]).length + dd ≤ 40
              rw [List.length_append, List.length_singleton]
              omega
            · have hm : cntH p.length (sd ++ [(e, (b1, none))], rg) < cntH p.length (sd, rg) := hm
              omega
    · obtain ⟨_, a6, a7, a8, a9, rfl⟩ := h
      exact q r hB
def sp_l_met_row : Spz := spm_l_met_row 12
theorem okb_l_met_row (Dd : Vq.D1 K mg "_law_met_row" s_l_met_row ["_law_bag_here", "_law_orders", "_law_row"]) : ZCal P w K mg base (6) "_law_met_row" (spm_l_met_row 0) := by
  refine Vq.gcal_of Dd sc_l_met_row (fun vs H Q E h => ?_) fun f cdv A outer s H vs Q E hG hr h => ?_
  · obtain ⟨g, r, B, ws, q, _, _, h3, h4, _⟩ := h
    obtain ⟨_, _, _, _, _, _, _, _, hc, _⟩ := h4
    exact absurd hc (Nat.not_lt_zero _)
  · obtain ⟨g, r, B, ws, q, _, _, h3, h4, _⟩ := h
    obtain ⟨_, _, _, _, _, _, _, _, hc, _⟩ := h4
    exact absurd hc (Nat.not_lt_zero _)
theorem ok_l_met_row (M : Mgz mg) (Dd : Vq.D1 K mg "_law_met_row" s_l_met_row ["_law_bag_here", "_law_orders", "_law_row"]) (c_l_is_kept : ZCal P w K mg base 5 "_law_is_kept" sp_l_is_kept) (c_l_row_bounds : ZCal P w K mg base 5 "_law_row_bounds" sp_l_row_bounds) : ZCal P w K mg base 18 "_law_met_row" sp_l_met_row := by
  have all : ∀ dd : Nat, ZCal P w K mg base (6 + dd) "_law_met_row" (spm_l_met_row dd) := fun dd => by
    induction dd with
    | zero => exact okb_l_met_row Dd
    | succ dd ih => exact okr_l_met_row M Dd dd ih c_l_is_kept c_l_row_bounds
  exact all 12
end
end Zl
end
section
set_option maxHeartbeats 4000000
namespace Zl
open PySem PySem.Spec PyProof.Rows L2
section
variable {P : Program} {w : World} {K : PySem.W.Frag} {mg : Str → Option Value} {base : Heap}
def coldS (a : Sl) : Prop := a = .un ∨ ∃ y, a = .w (.d y)
def stS (n m : Nat) (p : Pl) (rows : List Row) (a5 a6 a7 a8 a9 a10 a11 : Sl) : List Sl := [.w .bag, .w (.d (.int (n : Nat))), .w (.d (.int (m : Nat))), .w (.d (plD true p)), .hl (rows.map rowD), a5, a6, a7, a8, a9, a10, a11]
def sp_l_standing_table : Spz := fun ws q => ∃ n m : Nat, ws = [.bag, .d (.int n), .d (.int m)] ∧ n ≤ 10 ∧ m ≤ 100 ∧ ∀ (t : Tab) (p : Pl), TabB n m t → p.length = n → q (.d (.tuple [tabD t, plD true p]))
theorem ok_l_standing_table (M : Mgz mg) (Dd : Vq.D1 K mg "_law_standing_table" s_l_standing_table ["_law_bag_here", "_law_many", "_law_most"]) (c_l_any_side : ZCal P w K mg base 4 "_law_any_side" sp_l_any_side) (c_l_bounds : ZCal P w K mg base 3 "_law_bounds" sp_l_bounds) (c_l_drawn_plan : ZCal P w K mg base 3 "_law_drawn_plan" sp_l_drawn_plan) (c_l_met_row : ZCal P w K mg base 18 "_law_met_row" sp_l_met_row) (c_l_mixed : ZCal P w K mg base 2 "_law_mixed" sp_l_mixed) (c_l_some : ZCal P w K mg base 2 "_law_some" sp_l_some) (c_l_take : ZCal P w K mg base 1 "_law_take" sp_l_take) : ZCal P w K mg base 19 "_law_standing_table" sp_l_standing_table := by
  refine zcal false Dd sc_l_standing_table (fun ws q h => ?_) fun f cdv A outer s H E hG hr => ⟨_, (zb_cons (zs_par2 (i := 3) (j := 4) (ps_par rfl sc_l_standing_table.nd rfl rfl (by decide) rfl rfl (zn_cons (z_call hG c_l_drawn_plan hr (by decide) rfl (za_cons (zv 0) (za_cons (zv 1) za_nil))) (zn_cons (z_lst za_nil) zn_nil)) (by rfl)))
      (zb_cons (zs_for PassesOwn.never rfl (zi_range1 rfl M.range (za_cons (z_call hG c_l_take hr (by decide) rfl (za_cons (zv 0) (za_cons (z_add (zv 2) zint) za_nil))) za_nil)) (zg_name (i := 5) sc_l_standing_table.nd rfl (.inl rfl)) (zb_cut (zs_set (i := 6) sc_l_standing_table.nd rfl (.inl rfl) (z_if (zt_gt (zv 1) zint (nomark _)) (z_lc (own := [("_law_side", 8)]) rfl sc_l_standing_table.nd (zi_range1 rfl M.range (za_cons (z_call hG c_l_take hr (by decide) rfl (za_cons (zv 0) (za_cons zint za_nil))) za_nil)) (blkOk_by (own := [("_law_side", 8)]) (N := n_l_standing_table) (sc := defScope s_l_standing_table) (by first | decide +kernel | kernel_rfl | rfl)) (fun _ _ _ _ _ => (pg_name (i := 8) sc_l_standing_table.nd rfl (.inl rfl))) (gr_name (by decide)) (fun _ _ _ _ _ => (z_call hG c_l_any_side hr (by decide) rfl (za_cons (zv 0) (za_cons (zv 1) za_nil))))) (z_lst za_nil)))
      (zb_cons (zs_set (i := 7) sc_l_standing_table.nd rfl (.inl rfl) (z_call hG c_l_some hr (by decide) rfl (za_cons (zv 0) (za_cons (zfz (z_lst (za_cons zint (za_cons zint (za_cons (z_neg zint) za_nil))))) za_nil))))
      (zb_cons (zs_for PassesOwn.never rfl (zi_range1 rfl M.range (za_cons (z_call hG c_l_take hr (by decide) rfl (za_cons (zv 0) (za_cons zint za_nil))) za_nil)) (zg_name (i := 8) sc_l_standing_table.nd rfl (.inl rfl)) (zb_cons (zs_set (i := 9) sc_l_standing_table.nd rfl (.inl rfl) (z_if (zt_gt (zv 1) zint (nomark _)) (z_call hG c_l_take hr (by decide) rfl (za_cons (zv 0) (za_cons (zv 1) za_nil))) znon))
      (zb_one (zs_if (zt_w (zw_and (zt_notN (zv 9) znon (nomark _)) (zw_and1 (zt_notN (z_ix (zv 3) (zv 9)) znon (nomark _))))) (zb_one (zs_hotL (i := 6) m_append (fun h => ps_expr (pe_bm PySem.F.plainAttrs_list PySem.F.slot_list_append PySem.F.type_list_append mt_append (pv 6) h)) (za_cons (z_catT (z_tup (za_cons (zv 9) za_nil)) (z_call hG c_l_bounds hr (by decide) rfl (za_cons (zv 0) (za_cons (z_b (b_max2 rfl) (by rfl) M.max (by decide +kernel) (za_cons (z_neg zint) (za_cons (z_b (b_min2 rfl) (by rfl) M.min (by decide +kernel) (za_cons zint (za_cons (z_sub (zv 7) (z_ix (zv 3) (zv 9))) za_nil))) za_nil))) za_nil)))) za_nil))) zb_nil))))
      (zb_cut (zs_frz 6 (zs_set (i := 10) sc_l_standing_table.nd rfl (.inl rfl) (z_call hG c_l_some hr (by decide) rfl (za_cons (zv 0) (za_cons (zfz (z_lst (za_cons znon (za_cons (z_tup (za_cons (zv 7) (za_cons (zv 7) za_nil))) (za_cons (z_tup (za_cons (zv 7) (za_cons znon za_nil))) (za_cons (z_call hG c_l_bounds hr (by decide) rfl (za_cons (zv 0) (za_cons (z_add (zv 7) zint) za_nil))) za_nil)))))) za_nil)))))
      (zb_cons (zs_set (i := 11) sc_l_standing_table.nd rfl (.inl rfl) (z_call hG c_l_met_row hr (by decide) rfl (za_cons (zv 0) (za_cons (zv 3) (za_cons (z_tup (za_cons (z_ty t_tuple (by rfl) M.tuple (by decide +kernel) (za_cons (z_call hG c_l_mixed hr (by decide) rfl (za_cons (zv 0) (za_cons (zv 6) za_nil))) za_nil)) (za_cons (zv 10) za_nil))) za_nil)))))
      (zb_one (zs_hotL (i := 4) m_append (fun h => ps_expr (pe_bm PySem.F.plainAttrs_list PySem.F.slot_list_append PySem.F.type_list_append mt_append (pv 4) h)) (za_cons (z_if (zt_lt (z_b b_len (by rfl) M.len (by decide +kernel) (za_cons (z_ix (zv 11) zint) za_nil)) zint (nomark _)) (zv 11) (z_tup (za_cons (z_tup za_nil) (za_cons znon za_nil)))) za_nil)))))))))
      (zb_one (zs_ret (z_tup (za_cons (z_tup (za_cons (zv 1) (za_cons (z_ty t_tuple (by rfl) M.tuple (by decide +kernel) (za_cons (zv 4) za_nil)) za_nil))) (za_cons (zv 3) za_nil))))))), fun ws Q0 h => ?_⟩
  · obtain ⟨n, m, rfl, _⟩ := h
    rfl
  · obtain ⟨n, m, rfl, h1, h2, q⟩ := h
    refine ⟨n, rfl, by omega, fun p hp hb => ?_⟩
    refine ⟨(m : Int) + 1, rfl, by omega, by omega, fun e e1 e2 => ?_⟩
    obtain ⟨tn, rfl⟩ := Int.eq_ofNat_of_zero_le e1
    refine ⟨⟨by omega, by omega⟩, ?_⟩
    show zLoop _ _ _ (rngD 0 tn) _
    rw [rngD0]
    refine zLoop_inv (fun (i : Nat) => PyData.int (i : Nat)) (fun xs δ => ∃ (rows : List Row) (a5 a6 a7 a8 a9 a10 a11 : Sl), rows.length + xs.length ≤ m ∧ (∀ r ∈ rows, RowB n 8 r) ∧ coldS a8 ∧ δ = stS n m p rows a5 a6 a7 a8 a9 a10 a11) (fun x xs δ h k hk => ?_) (fun δ h => ?_) (List.range tn) _ ⟨[], .un, .un, .un, .un, .un, .un, .un, by rw [List.length_range]; show 0 + tn ≤ m; omega, (fun r hr => by cases hr), .inl rfl, rfl⟩
    · obtain ⟨rows, a5, a6, a7, a8, a9, a10, a11, hrl, hrb, ha8, rfl⟩ := h
      rw [List.length_cons] at hrl
      refine ⟨fun δ => ∃ (ss : List Side), ss.length ≤ 4 ∧ (∀ s ∈ ss, SideB n s) ∧ δ = stS n m p rows (.w (.d (.int (x : Nat)))) (.hl (ss.map sideD)) a7 a8 a9 a10 a11, ?_, ?_⟩
      · show (if decide ((0 : Int) < ((n : Nat) : Int)) = true then _ else _)
        by_cases c : 0 < n
        · rw [if_pos (decide_eq_true (by omega))]
          have hcold : coldAll (stS n m p rows (.w (.d (.int (x : Nat)))) a6 a7 a8 a9 a10 a11) [8] = true := by
            rcases ha8 with rfl | ⟨y, rfl⟩ <;> rfl
          show (match coldAll (stS n m p rows (.w (.d (.int (x : Nat)))) a6 a7 a8 a9 a10 a11) [8] with
            | true => _
            | false => False)
          rw [hcold]
          refine ⟨5, rfl, by decide, by decide, fun e e1 e2 => ?_⟩
          obtain ⟨k5, rfl⟩ := Int.eq_ofNat_of_zero_le e1
          refine ⟨⟨by omega, by omega⟩, ?_⟩
          show zComp _ _ _ _ _ (rngD 0 k5) []
          rw [rngD0]
          refine zComp_any (fun (i : Nat) => PyData.int (i : Nat)) sideD (fun _ s => SideB n s) (List.range k5) [] (fun x hx k1 k0 h => ⟨n, rfl, c, h1, fun s hs => h s hs⟩) fun ss hss => ?_
          have hsl : ss.length = k5 := by rw [hss.len, List.length_range]
          exact ⟨ss, by omega, fun s hs => by
            obtain ⟨_, _, h⟩ := hss.mem s hs
            exact h, rfl⟩
        · rw [if_neg (by rw [decide_eq_false (by omega)]; decide)]
          exact ⟨[], by decide, (fun s hs => by cases hs), rfl⟩
      · rintro δ ⟨ss, hs1, hs2, rfl⟩
        refine ⟨([0, 3, -2] : List Int).map .int, rfl, by decide, by decide, fun y hy => ?_⟩
        obtain ⟨bs, hbs, rfl⟩ := List.mem_map.mp hy
        have hbb := (by decide : ∀ d ∈ ([0, 3, -2] : List Int), d.natAbs ≤ 3) bs hbs
        clear hy hbs
        refine ⟨4, rfl, by decide, by decide, fun e e1 e2 => ?_⟩
        obtain ⟨k4, rfl⟩ := Int.eq_ofNat_of_zero_le e1
        refine ⟨⟨by omega, by omega⟩, ?_⟩
        show zLoop _ _ _ (rngD 0 k4) _
        rw [rngD0]
        refine zLoop_inv (fun (i : Nat) => PyData.int (i : Nat)) (fun zs δ => ∃ (ss : List Side) (a8 a9 : Sl), ss.length + zs.length ≤ 8 ∧ (∀ s ∈ ss, SideB n s) ∧ coldS a8 ∧ δ = stS n m p rows (.w (.d (.int (x : Nat)))) (.hl (ss.map sideD)) (.w (.d (.int bs))) a8 a9 a10 a11) (fun z zs δ h k2 hk2 => ?_) (fun δ h => ?_) (List.range k4) _ ⟨ss, _, _, by rw [List.length_range]; omega, hs2, ha8, rfl⟩
        · obtain ⟨ss, a8, a9, hsl, hsb, ha8, rfl⟩ := h
          rw [List.length_cons] at hsl
          show (if decide ((0 : Int) < ((n : Nat) : Int)) = true then _ else _)
          by_cases c : 0 < n
          · rw [if_pos (decide_eq_true (by omega))]
            refine ⟨n, rfl, by omega, by omega, fun e e1 e2 => ?_⟩
            obtain ⟨u, rfl⟩ := Int.eq_ofNat_of_zero_le e1
            have hu : u < n := by omega
            have hup : u < p.length := by rw [hp]; exact hu
            show (match L2.atI (List.map ordD p) ((u : Nat) : Int) with
              | some d => _
              | none => False)
            rw [ord_at hup]
            cases ho : ord p u with
            | none => exact hk2 _ ⟨ss, _, _, by omega, hsb, .inr ⟨_, rfl⟩, rfl⟩
            | some v =>
              show (match L2.atI (List.map ordD p) ((u : Nat) : Int) with
                | some d => _
                | none => False)
              rw [ord_at hup]
              rw [ho]
              refine ⟨_, rfl, by omega, fun b _ hb2 => ?_⟩
              refine ⟨by rw [sizeLine_eq]; show 1 + 2 ≤ 16777216; decide, ?_⟩
              refine ⟨by rw [List.length_map, sizeLine_eq]; omega, hk2 _ ⟨ss ++ [(u, b)], _, _, by rw [List.length_append, List.length_singleton]; omega, fun s hs => ?_, .inr ⟨_, rfl⟩, by rw [List.map_append]; rfl⟩⟩
              rcases List.mem_append.mp hs with z | z
              · exact hsb s z
              · rw [List.mem_singleton.mp z]
                exact ⟨hu, hb2⟩
          · rw [if_neg (by rw [decide_eq_false (by omega)]; decide)]
            exact hk2 _ ⟨ss, _, _, by omega, hsb, .inr ⟨_, rfl⟩, rfl⟩
        · obtain ⟨ss, a8, a9, hsl, hsb, ha8, rfl⟩ := h
          refine ⟨fun δ => ∃ o : Option Bd, (∀ b, o = some b → BdB b) ∧ δ = stS n m p rows (.w (.d (.int (x : Nat)))) (.w (.d (.list (ss.map sideD)))) (.w (.d (.int bs))) a8 a9 (.w (.d (rgtD o))) a11, ?_, ?_⟩
          · refine ⟨bs + 1, rfl, by omega, fun b _ hb2 => ?_⟩
            refine ⟨[.none, .tuple [.int bs, .int bs], .tuple [.int bs, .none], bdD b], rfl, Nat.succ_pos _, by show 4 < 2 ^ 20; decide, fun y hy => ?_⟩
            simp only [List.mem_cons, List.not_mem_nil, or_false] at hy
            rcases hy with rfl | rfl | rfl | rfl
            · exact ⟨none, fun b e => (nomatch e), rfl⟩
            · exact ⟨some (bs, some bs), fun b e => (by cases e; exact bd_some (Int.le_refl _) (by omega) (by omega)), rfl⟩
            · exact ⟨some (bs, none), fun b e => (by cases e; exact ⟨fun g hg => (nomatch hg), (by show bs.natAbs ≤ 300; omega), fun g hg => (nomatch hg)⟩), rfl⟩
            · exact ⟨some b, fun b' e => (by cases e; exact hb2), rfl⟩
          · rintro δ ⟨o, hor, rfl⟩
            have hsl : ss.length ≤ 8 := by rw [List.length_nil] at hsl; omega
            refine ⟨ss.map sideD, rfl, by rw [List.length_map]; omega, fun zs hz => ?_⟩
            obtain ⟨us, hu, rfl⟩ := perm_map hz rfl
            have hul : us.length ≤ 8 := by rw [hu.length_eq]; exact hsl
            have hcn := cntH_le n (us, o)
            refine ⟨n, p, (us, o), rfl, hp, h1, ⟨fun s hs => hsb s (hu.mem_iff.mp hs), by show us.length ≤ 40; omega, hor⟩, by show us.length + 12 ≤ 40; omega, by omega, fun r' hr' => ?_⟩
            have e9 : ∀ r2 : Row, (rows ++ [r2]).map rowD = rows.map rowD ++ [rowD r2] := fun r2 => List.map_append
            have hall : ∀ r2 : Row, RowB n 8 r2 → ∀ r ∈ rows ++ [r2], RowB n 8 r := fun r2 h2 r hr => by
              rcases List.mem_append.mp hr with z | z
              · exact hrb r z
              · rw [List.mem_singleton.mp z]
                exact h2
            have hrl2 : ∀ r2 : Row, (rows ++ [r2]).length + xs.length ≤ m := fun r2 => by
              rw [List.length_append, List.length_singleton]
              omega
            show (if decide ((((r'.1.map sideD).length : Nat) : Int) < 9) = true then _ else _)
            rw [List.length_map]
            by_cases c : r'.1.length < 9
            · rw [if_pos (decide_eq_true (by omega))]
              exact ⟨by rw [List.length_map, sizeLine_eq]; omega, hk _ ⟨rows ++ [r'], .w (.d (.int (x : Nat))), .w (.d (.list (ss.map sideD))), .w (.d (.int bs)), a8, a9, .w (.d (rgtD o)), .w (.d (rowD r')), hrl2 r', hall r' ⟨hr'.sides, by omega, hr'.rgt⟩, ha8, by unfold stS; rw [e9]; rfl⟩⟩
            · rw [if_neg (by rw [decide_eq_false (by omega)]; decide)]
              exact ⟨by rw [List.length_map, sizeLine_eq]; omega, hk _ ⟨rows ++ [([], none)], .w (.d (.int (x : Nat))), .w (.d (.list (ss.map sideD))), .w (.d (.int bs)), a8, a9, .w (.d (rgtD o)), .w (.d (rowD r')), hrl2 _, hall _ ⟨fun s hs => (by cases hs), Nat.zero_le _, fun b hb => (nomatch hb)⟩, ha8, by unfold stS; rw [e9]; rfl⟩⟩
    · obtain ⟨rows, a5, a6, a7, a8, a9, a10, a11, hrl, hrb, ha8, rfl⟩ := h
      exact q (n, rows) p ⟨rfl, hrl, hrb⟩ hp
end
end Zl
end
section
set_option maxHeartbeats 4000000
namespace Zl
open PySem PySem.Spec PyProof.Rows L2
section
variable {P : Program} {w : World} {K : PySem.W.Frag} {mg : Str → Option Value} {base : Heap}
theorem TabB.more {n m k : Nat} {t : Tab} (h : TabB n m t) (hm : m ≤ k) : TabB n k t := ⟨h.ev, Nat.le_trans h.many hm, h.rows⟩
def sp_l_table : Spz := fun ws q => ∃ n m : Nat, ws = [.bag, .d (.int n), .d (.int m)] ∧ n ≤ 10 ∧ m ≤ 10 ∧ ∀ (k : Nat) (t : Tab), k ≤ n → TabB k 10 t → q (.d (tabD t))
theorem ok_l_table (M : Mgz mg) (Dd : Vq.D1 K mg "_law_table" s_l_table ["_law_bag_here", "_law_many", "_law_most"]) (c_l_any_table : ZCal P w K mg base 6 "_law_any_table" sp_l_any_table) (c_l_silent_table : ZCal P w K mg base 6 "_law_silent_table" sp_l_silent_table) (c_l_standing_table : ZCal P w K mg base 19 "_law_standing_table" sp_l_standing_table) (c_l_take : ZCal P w K mg base 1 "_law_take" sp_l_take) : ZCal P w K mg base 20 "_law_table" sp_l_table := by
  refine zcal false Dd sc_l_table (fun ws q h => ?_) fun f cdv A outer s H E hG hr => ⟨_, (zb_cut (zs_par2 (i := 3) (j := 4) (ps_par rfl sc_l_table.nd rfl rfl (by decide) rfl rfl (zn_cons (z_call hG c_l_take hr (by decide) rfl (za_cons (zv 0) (za_cons zint za_nil))) (zn_cons (z_if (zt_eq (z_call hG c_l_take hr (by decide) rfl (za_cons (zv 0) (za_cons zint za_nil))) zint (nomark _)) (z_call hG c_l_take hr (by decide) rfl (za_cons (zv 0) (za_cons (z_add (zv 1) zint) za_nil))) (zv 1)) zn_nil)) (by rfl)))
      (zb_cons (zs_if (zt_eq (zv 3) zint (nomark _)) (zb_one (zs_ret (z_call hG c_l_any_table hr (by decide) rfl (za_cons (zv 0) (za_cons (zv 4) (za_cons (zv 2) za_nil)))))) zb_nil)
      (zb_cons (zs_if (zt_lt (zv 3) zint (nomark _)) (zb_one (zs_ret (z_ix (z_call hG c_l_standing_table hr (by decide) rfl (za_cons (zv 0) (za_cons (zv 4) (za_cons (zv 2) za_nil)))) zint))) zb_nil)
      (zb_cons (zs_if (zt_lt (zv 3) zint (nomark _)) (zb_one (zs_ret (z_call hG c_l_silent_table hr (by decide) rfl (za_cons (zv 0) (za_cons (zv 4) (za_cons (z_eq (zv 3) zint (nomark _)) za_nil)))))) zb_nil)
      (zb_cons (zs_par2 (i := 5) (j := 6) (ps_par rfl sc_l_table.nd rfl rfl (by decide) rfl rfl (zn_cons (z_call hG c_l_silent_table hr (by decide) rfl (za_cons (zv 0) (za_cons (zv 4) (za_cons zbl za_nil)))) (zn_cons (z_call hG c_l_any_table hr (by decide) rfl (za_cons (zv 0) (za_cons (zv 4) (za_cons zint za_nil)))) zn_nil)) (by rfl)))
      (zb_one (zs_ret (z_tup (za_cons (zv 4) (za_cons (z_slT (fun _ => sl_tupA) (z_catT (z_ix (zv 5) zint) (z_ix (zv 6) zint)) zo_none (zo_some zint)) za_nil)))))))))), fun ws Q0 h => ?_⟩
  · obtain ⟨n, m, rfl, _⟩ := h
    rfl
  · obtain ⟨n, m, rfl, h1, h2, q⟩ := h
    refine ⟨fun δ => ∃ (y : Int) (k : Nat), k ≤ n ∧ δ = ([.w .bag, .w (.d (.int (n : Nat))), .w (.d (.int (m : Nat))), .w (.d (.int y)), .w (.d (.int (k : Nat))), .un, .un] : List Sl), ?_, ?_⟩
    · refine ⟨6, rfl, by decide, by decide, fun y y1 y2 => ?_⟩
      refine ⟨4, rfl, by decide, by decide, fun z z1 z2 => ?_⟩
      show (if decide (z = 0) = true then _ else _)
      by_cases c : z = 0
      · rw [if_pos (decide_eq_true c)]
        refine ⟨(n : Int) + 1, rfl, by omega, by omega, fun e e1 e2 => ?_⟩
        obtain ⟨k, rfl⟩ := Int.eq_ofNat_of_zero_le e1
        exact ⟨y, k, by omega, rfl⟩
      · rw [if_neg (by rw [decide_eq_false c]; decide)]
        exact ⟨y, n, Nat.le_refl _, rfl⟩
    · rintro δ ⟨y, k, hk, rfl⟩
      show (if decide (y = 0) = true then _ else _)
      by_cases c0 : y = 0
      · rw [if_pos (decide_eq_true c0)]
        exact ⟨k, m, rfl, by omega, by omega, fun t ht => q k t hk (ht.more h2)⟩
      rw [if_neg (by rw [decide_eq_false c0]; decide)]
      show (if decide (y < 3) = true then _ else _)
      by_cases c1 : y < 3
      · rw [if_pos (decide_eq_true c1)]
        exact ⟨k, m, rfl, by omega, by omega, fun t p ht hp => q k t hk (ht.more h2)⟩
      rw [if_neg (by rw [decide_eq_false c1]; decide)]
      show (if decide (y < 5) = true then _ else _)
      by_cases c2 : y < 5
      · rw [if_pos (decide_eq_true c2)]
        exact ⟨k, decide (y = 3), rfl, by omega, fun t ht => q k t hk ht⟩
      rw [if_neg (by rw [decide_eq_false c2]; decide)]
      refine ⟨k, false, rfl, by omega, fun t1 ht1 => ?_⟩
      refine ⟨k, 2, rfl, by omega, by decide, fun t2 ht2 => ?_⟩
      have l1 := ht1.many
      have l2 := ht2.many
      refine ⟨by rw [List.length_map, List.length_map, sizeLine_eq]; omega, ?_⟩
      have ec : cutD (t1.2.map rowD ++ t2.2.map rowD) none (some 8) = ((t1.2 ++ t2.2).take 8).map rowD := by
        rw [← List.map_append]
        exact cutL_to rowD (t1.2 ++ t2.2) 8
      have fin := q k (k, (t1.2 ++ t2.2).take 8) hk ⟨rfl, by show ((t1.2 ++ t2.2).take 8).length ≤ 10; rw [List.length_take]; omega, fun r hr => by
        rcases List.mem_append.mp (List.mem_of_mem_take hr) with z | z
        · exact ht1.rows r z
        · exact ht2.rows r z⟩
      have fin : Q0 (.d (.tuple [.int (k : Nat), .tuple (((t1.2 ++ t2.2).take 8).map rowD)])) := fin
      rw [← ec] at fin
      exact fin
end
end Zl
end
section
set_option maxHeartbeats 2000000
namespace Zl
open PySem PySem.Spec PyProof.Rows L2
/-! ### orders that stand; lonely sides -/
def lonO (t : Tab) (os : Pl) : Option (Nat × Nat) := match unk (sysT t) (os ++ [some 0]) with
  | [] => none
  | i :: _ => (placesT t)[i]?
def lonD : Option (Nat × Nat) → D
  | none => .none
  | some p => placeD p
theorem places_len (t : Tab) : (placesT t).length = (sysT t).2.length := by
  have e : (placesT t).map (·.2) = (sysT t).2.map (·.1) := by
    unfold placesT
    rw [List.map_flatMap]
    have : (fun x : Row × Nat => ((waitsR t.1 x.1).map fun w => (x.2, w.1)).map (·.2)) = fun x => (waitsR t.1 x.1).map (·.1) := by
      funext x
      rw [List.map_map]
      rfl
    rw [this, zip_flat (fun r => (waitsR t.1 r).map (·.1))]
    show _ = (t.2.flatMap (waitsR t.1)).map (·.1)
    rw [List.map_flatMap]
  have := congrArg List.length e
  rw [List.length_map, List.length_map] at this
  exact this
theorem unk_mem {s : Sys} {p : Pl} {i : Nat} (h : i ∈ unk s p) : i < s.2.length := by
  unfold unk at h
  obtain ⟨x, hx, h⟩ := List.mem_filterMap.mp h
  split at h
  · cases h
  · cases h
    exact (List.getElem?_eq_some_iff.mp (List.mk_mem_zipIdx_iff_getElem?.mp (show (x.1, x.2) ∈ s.2.zipIdx from hx))).1
theorem sysT_ok (t : Tab) : ∀ w ∈ (sysT t).2, WtOk (t.1 + 1) w := fun w hw => by
  have hw : w ∈ t.2.flatMap (waitsR t.1) := hw
  obtain ⟨r, hr, hw⟩ := List.mem_flatMap.mp hw
  unfold waitsR at hw
  obtain ⟨e, he, hw⟩ := List.mem_filterMap.mp hw
  unfold waitR at hw
  have hlt : ∀ u ∈ bU t.1 r, u < t.1 + 1 := fun u hu => by
    unfold bU at hu
    exact List.mem_range.mp (List.mem_filter.mp hu).1
  cases hb : (bB t.1 r e).2 with
  | none => rw [hb] at hw; cases hw
  | some g =>
    rw [hb] at hw
    cases hw
    refine ⟨hlt e he, fun o ho => ?_⟩
    obtain ⟨u, hu, rfl⟩ := List.mem_map.mp ho
    exact hlt u (List.mem_filter.mp hu).1
section
variable {P : Program} {w : World} {K : PySem.W.Frag} {mg : Str → Option Value} {base : Heap}
def sp_lonely_side : Spz := fun ws q => ∃ (t : Tab) (os : Pl), ws = [.d (tabD t), .d (plD true os)] ∧ t.1 ≤ 1000 ∧ t.2.length ≤ 1000 ∧ os.length = t.1 ∧ q (.d (lonD (lonO t os)))
def sp_stands : Spz := fun ws q => ∃ (t : Tab) (os : Pl), ws = [.d (tabD t), .d (plD true os)] ∧ t.1 ≤ 1000 ∧ t.2.length ≤ 1000 ∧ os.length = t.1 ∧ q (.d (.bool (lonO t os).isNone))
end
def notK (p : Pl) (x : Wt × (Nat × Nat)) : Bool := !kw p x.1
theorem unk_find (p : Pl) : ∀ (ws : List Wt) (ps : List (Nat × Nat)) (k : Nat), ws.length = ps.length → (match (ws.zipIdx k).filterMap (fun w => if kw p w.1 = true then none else some w.2) with
    | [] => none
    | i :: _ => ps[i - k]?) = ((ws.zip ps).find? (notK p)).map (·.2)
  | [], _, _, _ => rfl
  | w :: ws, [], _, h => by cases h
  | w :: ws, x :: ps, k, h => by
    rw [List.zipIdx_cons, List.filterMap_cons, List.zip_cons_cons, List.find?_cons]
    by_cases c : kw p w = true
    · have e1 : notK p (w, x) = false := by unfold notK; rw [c]; rfl
      rw [if_pos c, e1]
      have ih := unk_find p ws ps (k + 1) (by simpa using h)
      show (match (ws.zipIdx (k + 1)).filterMap (fun w => if kw p w.1 = true then none else some w.2) with
        | [] => none
        | i :: _ => (x :: ps)[i - k]?) = ((ws.zip ps).find? (notK p)).map (·.2)
      rw [← ih]
      have hge : ∀ i ∈ (ws.zipIdx (k + 1)).filterMap (fun w => if kw p w.1 = true then none else some w.2), k + 1 ≤ i := fun i hi => by
        obtain ⟨y, hy, hi⟩ := List.mem_filterMap.mp hi
        split at hi
        · cases hi
        · cases hi
          exact (List.mem_zipIdx hy).1
      cases hq : (ws.zipIdx (k + 1)).filterMap (fun w => if kw p w.1 = true then none else some w.2) with
      | nil => rfl
      | cons i l =>
        rw [hq] at hge
        have := hge i List.mem_cons_self
        show (x :: ps)[i - k]? = ps[i - (k + 1)]?
        have e : i - k = (i - (k + 1)) + 1 := by omega
        rw [e]
        rfl
    · have e1 : notK p (w, x) = true := by unfold notK; rw [Bool.eq_false_iff.mpr c]; rfl
      rw [if_neg c, e1]
      show (x :: ps)[k - k]? = some x
      rw [Nat.sub_self]
      rfl
theorem lonO_find (t : Tab) (os : Pl) : lonO t os = (((sysT t).2.zip (placesT t)).find? (notK (os ++ [some 0]))).map (·.2) := by
  have z := unk_find (os ++ [some 0]) (sysT t).2 (placesT t) 0 (places_len t).symm
  rw [← z]
  unfold lonO unk
  cases (sysT t).2.zipIdx.filterMap fun w => if kw (os ++ [some 0]) w.1 = true then none else some w.2 <;> rfl
end Zl
end
section
set_option maxHeartbeats 2000000
namespace Zl
open PySem PySem.Spec PyProof.Rows L2
section
variable {P : Program} {w : World} {K : PySem.W.Frag} {mg : Str → Option Value} {base : Heap}
def sp_l_lonely : Spz := fun ws q => ∃ (t : Tab) (os : Pl), ws = [.d (tabD t), .d (plD true os)] ∧ TabOk t ∧ os.length = t.1 ∧ q (.d (lonD (lonO t os)))
end
end Zl
end
section
set_option maxHeartbeats 2000000
namespace Zl
open PySem PySem.Spec PyProof.Rows L2
section
variable {P : Program} {w : World} {K : PySem.W.Frag} {mg : Str → Option Value} {base : Heap}
def sp_l_near_orders : Spz := fun ws q => ∃ (t : Tab) (os : Pl), ws = [.bag, .d (tabD t), .d (plD true os)] ∧ t.1 ≤ 10 ∧ os.length = t.1 ∧ ∀ ps : List Pl, ps.length ≤ 10 → (∀ p ∈ ps, p.length = t.1) → q (.d (.list (ps.map (plD true))))
def noS (t : Tab) (os : Pl) (ps : List Pl) (a5 a6 a7 a8 : Sl) : List Sl := [.w .bag, .w (.d (tabD t)), .w (.d (plD true os)), .hl (ps.map (plD true)), .w (.d (.int (t.1 : Nat))), a5, a6, a7, a8, .un]
end
end Zl
end
section
set_option maxHeartbeats 1000000
set_option exponentiation.threshold 3000
namespace Zl
open PySem PySem.Spec PyProof.Rows L2
/-! ### own waits -/
open Classical in
/-- the waits that the program's search chooses -/
noncomputable def lacC (s : Sys) (fl : Pl) : Chs := if h : ∃ c p, LD s fl c p then h.choose else []
theorem lacC_eq {s : Sys} {fl : Pl} {c : Chs} {p : Pl} (h : LD s fl c p) : lacC s fl = c := by
  unfold lacC
  have hx : ∃ c p, LD s fl c p := ⟨c, p, h⟩
  rw [dif_pos hx]
  obtain ⟨p', hp⟩ := hx.choose_spec
  exact (hp.uniq h).1
/-- barred events -/
noncomputable def bars (s : Sys) : List Nat := (List.range s.1).filter fun e => (ord (lp s) e).isNone
noncomputable def bchI (s : Sys) (e : Nat) : Nat := (cho (lacC s (zeros s.1)) e).getD 0
noncomputable def bchM (s : Sys) : List (Nat × Nat) := (bars s).map fun e => (e, bchI s e)
theorem bars_lt {s : Sys} {e : Nat} (h : e ∈ bars s) : e < s.1 := List.mem_range.mp (List.mem_filter.mp h).1
theorem bars_mem {s : Sys} {e : Nat} : e ∈ bars s ↔ e < s.1 ∧ ord (lp s) e = none := by
  unfold bars
  rw [List.mem_filter, List.mem_range]
  cases ord (lp s) e <;> simp
theorem bars_sorted (s : Sys) : (bars s).Pairwise (· ≤ ·) := (List.pairwise_lt_range.imp fun {a b} h => Nat.le_of_lt h).filter _
theorem bars_nd (s : Sys) : (bars s).Nodup := List.nodup_range.filter _
theorem bars_len (s : Sys) : (bars s).length ≤ s.1 := by
  have := List.length_filter_le (fun e => (ord (lp s) e).isNone) (List.range s.1)
  rw [List.length_range] at this
  exact this
theorem bchM_keys (s : Sys) : (bchM s).map (·.1) = bars s := by
  unfold bchM
  rw [List.map_map]
  have : ((fun x : Nat × Nat => x.1) ∘ fun e => (e, bchI s e)) = id := by funext e; rfl
  rw [this, List.map_id]
theorem bchE (s : Sys) : chE (bchM s) = bars s := by
  unfold chE
  rw [bchM_keys]
  exact srtN_id (bars_sorted s)
theorem lk_bch {s : Sys} {e : Nat} (h : e ∈ bars s) : lk (bchM s) e = some (bchI s e) := by
  obtain ⟨i, hi⟩ := lk_some (ch := bchM s) (e := e) (by rw [bchM_keys]; exact h)
  have := lk_mem hi
  unfold bchM at this
  obtain ⟨x, hx, ex⟩ := List.mem_map.mp this
  injection ex with e1 e2
  rw [hi, ← e2, e1]
theorem zeros_at {n e : Nat} (h : e < n) : ord (zeros n) e = some 0 := by
  unfold zeros ord
  rw [List.getD_eq_getElem?_getD, List.getElem?_replicate, if_pos h]
  rfl
/-- what is known of the barred events' chosen waits -/
structure Bch (s : Sys) : Prop where
  ix : ∀ e ∈ bars s, ∃ w, s.2[bchI s e]? = some w ∧ w.1 = e ∧ cho (lacC s (zeros s.1)) e = some (bchI s e) ∧ ∀ o ∈ w.2, o.1 ∈ bars s
  cl : wfCl (bars s) (chO s (bchM s)) = true
  st : wfSt s.1 (chO s (bchM s)) (bars s) = true
theorem bch_of {s : Sys} {c : Chs} {p : Pl} (hs : SysIn s) (h : LC s (zeros s.1) c p) (g : LD s (zeros s.1) c p) : Bch s := by
  have hc := lacC_eq g
  have hp : p = lp s := lp_eq h.lf
  subst hp
  have ix : ∀ e ∈ bars s, ∃ w, s.2[bchI s e]? = some w ∧ w.1 = e ∧ cho (lacC s (zeros s.1)) e = some (bchI s e) ∧ ∀ o ∈ w.2, o.1 ∈ bars s := fun e he => by
    obtain ⟨h1, h2⟩ := bars_mem.mp he
    cases q : cho c e with
    | none =>
      have := h.inv.un e q
      rw [h2, zeros_at h1] at this
      cases this
    | some i =>
      have e1 : bchI s e = i := by unfold bchI; rw [hc, q]; rfl
      obtain ⟨w, w1, w2⟩ := h.inv.ev e i q
      have w3 := h.inv.ch e i q
      rw [h2, opts_eq w1] at w3
      refine ⟨w, by rw [e1]; exact w1, w2, by rw [hc, q, e1], fun o ho => bars_mem.mpr ⟨(hs.ok w (List.mem_of_getElem? w1)).2 o ho, ?_⟩⟩
      have z := erl_le (p := lp s) ho
      rw [← w3] at z
      cases ho2 : ord (lp s) o.1 with
      | none => rfl
      | some y => rw [ho2] at z; cases z
  have hO : ∀ e ∈ bars s, ∃ w, s.2[bchI s e]? = some w ∧ chO s (bchM s) e = w.2 ∧ w.1 = e ∧ cho (lacC s (zeros s.1)) e = some (bchI s e) ∧ ∀ o ∈ w.2, o.1 ∈ bars s := fun e he => by
    obtain ⟨w, w1, w2, w3, w4⟩ := ix e he
    refine ⟨w, w1, ?_, w2, w3, w4⟩
    unfold chO
    rw [lk_bch he]
    exact opts_eq w1
  have hcl : Cl (bars s) (chO s (bchM s)) := fun e he o ho => by
    obtain ⟨w, w1, w2, w3, w4, w5⟩ := hO e he
    rw [w2] at ho
    exact w5 o ho
  obtain ⟨u, M, hM, hu⟩ := h.inv.cert
  obtain ⟨pt, hpt⟩ := pot_of (N := (s.1 : Int)) hcl hM (fun e he o ho => by
    obtain ⟨w, w1, w2, w3, w4, w5⟩ := hO e he
    rw [hc] at w4
    refine hu e _ w4 o ?_
    rw [opts_eq w1, ← w2]
    exact ho) (by have := bars_len s; omega)
  exact ⟨ix, wfCl_iff.mpr hcl, List.all_eq_true.mpr fun e he => decide_eq_true (it_stab hcl hpt e he)⟩
theorem wf_bch {s : Sys} (h : Bch s) : wfW s (bchM s) = .newd (evK (ownV s (bchM s)) (bars s)) := by
  unfold wfW
  rw [bchE, if_pos ⟨h.cl, h.st⟩]
/-- the own waits that the program tells -/
noncomputable def ownE (s : Sys) : List (Key × D) := evK (ownV s (bchM s)) (bars s)
theorem bch_in {s : Sys} (hs : SysIn s) (hsh : ∀ w ∈ s.2, w.2.length ≤ 1000) (h : Bch s) : WfIn s (bchM s) := by
  have hev := hs.ev
  have := bars_len s
  refine ⟨hs, hsh, by rw [bchM_keys]; exact bars_nd s, fun x hx => ?_, by unfold bchM; rw [List.length_map]; omega⟩
  unfold bchM at hx
  obtain ⟨e, he, rfl⟩ := List.mem_map.mp hx
  obtain ⟨w, w1, _⟩ := h.ix e he
  exact (List.getElem?_eq_some_iff.mp w1).1
theorem range_fm {α : Type} (n : Nat) (p : Nat → Bool) (f : Nat → α) : (List.range n).filterMap (fun e => if p e = true then some (f e) else none) = ((List.range n).filter p).map f := by
  generalize List.range n = l
  induction l with
  | nil => rfl
  | cons a l ih =>
    by_cases c : p a = true
    · rw [List.filterMap_cons_some (by rw [if_pos c]), List.filter_cons_of_pos c, List.map_cons, ih]
    · rw [List.filterMap_cons_none (by rw [if_neg c]), List.filter_cons_of_neg c, ih]
section
variable {P : Program} {w : World} {K : PySem.W.Frag} {mg : Str → Option Value} {base : Heap}
def sp_own_waits : Spz := fun ws q => ∃ (s : Sys), ws = [.d (sysD s)] ∧ SysIn s ∧ (∀ w ∈ s.2, w.2.length ≤ 1000) ∧ (Bch s → q (.newd (ownE s)))
def sp_own_waits_for : Spz := fun ws q => ∃ (s : Sys) (e : Nat), ws = [.d (sysD s), .d (.int (e : Nat))] ∧ SysIn s ∧ (∀ w ∈ s.2, w.2.length ≤ 1000) ∧ e < s.1 ∧ (Bch s → q (if (ord (lp s) e).isNone = true then .newd (ownE s) else .d .none))
def sp_follow_paper : Spz := fun ws q => ∃ (s : Sys) (w : Wt), ws = [.d (sysD s), .d (waitD w)] ∧ SysU s ∧ WtU s.1 w ∧ (Bch (conS s w) → q (if fol s w = true then .newd (ownE (conS s w)) else .d .none))
theorem con_sh {s : Sys} {w : Wt} (hs : SysU s) (hw : WtU s.1 w) : ∀ v ∈ (conS s w).2, v.2.length ≤ 1000 := fun v hv => Nat.le_trans ((con_v hs hw).ok v hv).2.1 (by decide)
/-! ### judged by the law's own look -/
structure OwnOk (s : Sys) (es : List Nat) (ix : Nat → Nat) (wt : Nat → Int) : Prop where
  lt : ∀ e ∈ es, e < s.1
  at' : ∀ e ∈ es, ∃ w, s.2[ix e]? = some w ∧ w.1 = e ∧ ∀ o ∈ w.2, o.1 ∈ es ∧ wt e < wt o.1 + (s.1 : Int) * o.2
def ownT (ix : Nat → Nat) (wt : Nat → Int) (e : Nat) : D := .tuple [.int (ix e : Nat), .int (wt e)]
def sp_l_are_own : Spz := fun ws q => ∃ (s : Sys) (es : List Nat) (ix : Nat → Nat) (wt : Nat → Int), ws = [.d (sysD s), .d (evD (ownT ix wt) es)] ∧ s.1 ≤ 1000 ∧ OwnOk s es ix wt ∧ q (.d (.bool true))
def aoS (s : Sys) (es : List Nat) (ix : Nat → Nat) (wt : Nat → Int) (a4 a5 a6 a7 a8 : Sl) : List Sl := [.w (.d (sysD s)), .w (.d (evD (ownT ix wt) es)), .w (.d (.int (s.1 : Nat))), .w (.d (.tuple (s.2.map waitD))), a4, a5, a6, a7, a8]
end
theorem own_ok {s : Sys} (hn : s.1 ≤ 1000) (B : Bch s) : OwnOk s (bars s) (bchI s) (wIt s.1 (chO s (bchM s)) (bars s).length) := by
  refine ⟨fun e he => bars_lt he, fun e he => ?_⟩
  obtain ⟨w, w1, w2, w3, w4⟩ := B.ix e he
  refine ⟨w, w1, w2, fun o ho => ⟨w4 o ho, ?_⟩⟩
  have st : ∀ e ∈ bars s, wIt s.1 (chO s (bchM s)) ((bars s).length + 1) e = wIt s.1 (chO s (bchM s)) (bars s).length e := fun e he => of_decide_eq_true (List.all_eq_true.mp B.st e he)
  refine it_own st he ?_
  unfold chO
  rw [lk_bch he]
  show o ∈ opts s (bchI s e)
  rw [opts_eq w1]
  exact ho
theorem own_same {s : Sys} : evD (ownT (bchI s) (wIt s.1 (chO s (bchM s)) (bars s).length)) (bars s) = kvD (ownE s) := by
  unfold evD ownE
  congr 1
  refine List.map_congr_left fun e he => ?_
  unfold ownT ownV
  rw [lk_bch he, bchE]
  rfl
theorem cutD_map {β : Type} (f : β → D) (l : List β) (lo hi : Option Int) : ∃ a b, cutD (l.map f) lo hi = ((l.drop a).take b).map f := by
  unfold cutD
  rw [List.length_map, ← List.map_drop, ← List.map_take]
  exact ⟨_, _, rfl⟩
theorem fol_self {s : Sys} (hs : SysU s) {w : Wt} (hw : w ∈ s.2) : fol s w = true := (fol_iff hs (hs.wt hw)).mpr fun p _ hk => keeps_at hk hw
mutual
theorem gd_k : ∀ {k j n : Nat} {d : D}, Vq.Gd k n d → k ≤ j → Vq.Gd j n d
  | _, j, _, _, .non k n, _ => .non j n
  | _, j, _, _, .bl k n b, _ => .bl j n b
  | _, j, _, _, .int k n h, _ => .int j n h
  | _, j, n, _, .tup (k := k) (xs := xs) h, l => by
    have e : j = (j - 1) + 1 := by omega
    have z : Vq.Gd ((j - 1) + 1) n (.tuple xs) := .tup (gdA_k h (by omega))
    rw [← e] at z
    exact z
  | _, j, n, _, .lst (k := k) (xs := xs) h, l => by
    have e : j = (j - 1) + 1 := by omega
    have z : Vq.Gd ((j - 1) + 1) n (.list xs) := .lst (gdA_k h (by omega))
    rw [← e] at z
    exact z
theorem gdA_k : ∀ {k j n : Nat} {d : List D}, Vq.GdA k n d → k ≤ j → Vq.GdA j n d
  | _, j, _, _, .nil k n, _ => .nil j n
  | _, j, _, _, .cons h t, l => .cons (gd_k h l) (gdA_k t l)
end
/-! ### how great weights can be -/
theorem it_b {N : Int} {O : OF} {es : List Nat} (hN : 0 ≤ N) (hc : Cl es O) {D : Int} (hD0 : 0 ≤ D) (hD : ∀ e ∈ es, ∀ o ∈ O e, -D ≤ o.2) : ∀ k : Nat, ∀ e ∈ es, -((k : Int) * (N * D + 1)) ≤ wIt N O k e
  | 0, e, he => by show -(((0 : Nat) : Int) * (N * D + 1)) ≤ 0; simp
  | k + 1, e, he => by
    have hs : ((k + 1 : Nat) : Int) * (N * D + 1) = (k : Int) * (N * D + 1) + (N * D + 1) := by
      have : ((k + 1 : Nat) : Int) = (k : Int) + 1 := by omega
      rw [this, Int.add_mul, Int.one_mul]
    rw [hs]
    show _ ≤ lowW N O (wIt N O k) e
    rcases (low_spec (N := N) (O := O) (wIt N O k) e).2.2 with h | ⟨o, ho, h⟩
    · rw [h]
      have := it_b hN hc hD0 hD k e he
      have := Int.mul_nonneg hN hD0
      omega
    · rw [h]
      have h1 := it_b hN hc hD0 hD k o.1 (hc e he o ho)
      have h2 : N * (-D) ≤ N * o.2 := Int.mul_le_mul_of_nonneg_left (hD e he o ho) hN
      rw [Int.mul_neg] at h2
      omega
theorem gd_own (ix : Nat → Nat) (wt : Nat → Int) {es : List Nat} (h : ∀ e ∈ es, e ≤ 1000 ∧ ix e ≤ 1000 ∧ (wt e).natAbs < 2 ^ 1900) : ∀ l : List Nat, (∀ e ∈ l, e ∈ es) → GxK 1 (4 * l.length) (l.map fun e => (PyData.int (e : Nat), ownT ix wt e))
  | [], _ => .nil 1 _
  | e :: l, hl => by
    obtain ⟨h1, h2, h3⟩ := h e (hl e List.mem_cons_self)
    have a : Gx 1 0 (PyData.int (e : Nat)) := .g (.int 1 0 (small_lt (nat_small h1)))
    have b : Gx 1 2 (ownT ix wt e) := .tup (.cons (n := 0) (m := 1) (.g (.int 0 0 (small_lt (nat_small h2)))) (.cons (n := 0) (m := 0) (.g (.int 0 0 h3)) (.nil 0 0)))
    have z := GxK.cons a b (gd_own ix wt h l fun x hx => hl x (List.mem_cons_of_mem _ hx))
    have e1 : 4 * (e :: l).length = 0 + 2 + 2 + 4 * l.length := by rw [List.length_cons]; omega
    rw [e1]
    exact z
mutual
theorem gx_mono : ∀ {k n m : Nat} {d : D}, Gx k n d → n ≤ m → Gx k m d
  | _, _, _, _, .g h, l => .g (gd_mono h l)
  | _, _, _, _, .str k a b, l => .str k (Nat.le_trans a l) b
  | _, _, _, _, .tup h, l => .tup (gxa_mono h l)
  | _, _, _, _, .lst h, l => .lst (gxa_mono h l)
  | _, _, _, _, .dct h, l => .dct (gxk_mono h l)
theorem gxa_mono : ∀ {k n m : Nat} {d : List D}, GxA k n d → n ≤ m → GxA k m d
  | _, _, m, _, .nil k n, _ => .nil k m
  | k, _, m, _, .cons (n := a) (m := b) h t, l => by
    have z := GxA.cons h (gxa_mono (m := m - (a + 1)) t (by omega))
    have e : a + 1 + (m - (a + 1)) = m := by omega
    rw [e] at z
    exact z
theorem gxk_mono : ∀ {k n m : Nat} {d : List (D × D)}, GxK k n d → n ≤ m → GxK k m d
  | _, _, m, _, .nil k n, _ => .nil k m
  | k, _, m, _, .cons (n := a) (m := b) (l := c) h t u, l => by
    have z := GxK.cons h t (gxk_mono (m := m - (a + b + 2)) u (by omega))
    have e : a + b + 2 + (m - (a + b + 2)) = m := by omega
    rw [e] at z
    exact z
end
/-- own waits that the program tells may be shown -/
theorem gd_ownE {s : Sys} (hs : SysV s) (B : Bch s) : Gx 2 40 (kvD (ownE s)) := by
  have hev := hs.ev
  have hm := hs.many
  have hcl := wfCl_iff.mp B.cl
  have hl := bars_len s
  rw [← own_same]
  have e1 : evD (ownT (bchI s) (wIt s.1 (chO s (bchM s)) (bars s).length)) (bars s) = .dict ((bars s).map fun e => (PyData.int (e : Nat), ownT (bchI s) (wIt s.1 (chO s (bchM s)) (bars s).length) e)) := by
    unfold evD kvD evK
    rw [List.map_map]
    rfl
  rw [e1]
  have hO : ∀ e ∈ bars s, ∀ o ∈ chO s (bchM s) e, -(1000 : Int) ≤ o.2 := fun e he o ho => by
    obtain ⟨w, w1, w2, w3, w4⟩ := B.ix e he
    unfold chO at ho
    rw [lk_bch he] at ho
    have ho : o ∈ opts s (bchI s e) := ho
    rw [opts_eq w1] at ho
    have : o.2.natAbs ≤ 1000 := ((hs.ok w (List.mem_of_getElem? w1)).2.2 o ho).2
    omega
  have g := gd_own (bchI s) (wIt s.1 (chO s (bchM s)) (bars s).length) (es := bars s) (fun e he => by
    obtain ⟨w, w1, _⟩ := B.ix e he
    have h1 := bars_lt he
    have h2 := (List.getElem?_eq_some_iff.mp w1).1
    have h3 := it_b (N := (s.1 : Int)) (by omega) hcl (D := 1000) (by omega) hO (bars s).length e he
    have h4 := it_le' (N := (s.1 : Int)) (O := chO s (bchM s)) (Nat.zero_le (bars s).length) e
    have h5 : wIt (s.1 : Int) (chO s (bchM s)) 0 e = 0 := rfl
    have h6 : ((bars s).length : Int) * ((s.1 : Int) * 1000 + 1) ≤ 10 * (10 * 1000 + 1) := Int.mul_le_mul (by omega) (by omega) (by omega) (by omega)
    refine ⟨by omega, by omega, small_lt ?_⟩
    have h7 : (100010 : Nat) ≤ 2 ^ 64 := by decide
    omega) (bars s) fun e he => he
  exact .dct (gxk_mono g (by omega))
end Zl
end
section
set_option maxHeartbeats 1000000
set_option exponentiation.threshold 3000
namespace Zl
open PySem PySem.Spec PyProof.Rows L2
theorem bB_b {n : Nat} {r : Row} (h : RowB n 8 r) {u : Nat} (hu : u ∈ bU n r) : (bB n r u).1.natAbs ≤ 300 ∧ ∀ g, (bB n r u).2 = some g → g.natAbs ≤ 310 := by
  have hb := bB_of hu
  unfold lhB at hb
  by_cases c : u = n
  · rw [if_pos c] at hb
    exact (h.rgt _ hb).2
  · rw [if_neg c] at hb
    by_cases e : (bsO r u).isEmpty = true
    · rw [if_pos e] at hb
      cases hb
    · rw [if_neg e] at hb
      have hne : bsO r u ≠ [] := fun z => e (by rw [z]; rfl)
      have hall : ∀ b ∈ bsO r u, BdB b := fun b hb => by
        unfold bsO at hb
        obtain ⟨s, hs, rfl⟩ := List.mem_map.mp hb
        exact (h.sides s (List.mem_filter.mp hs).1).2
      have hb := Option.some.inj hb
      rw [← hb]
      refine ⟨?_, fun g hg => ?_⟩
      · obtain ⟨b, hb2, hb3⟩ := List.mem_map.mp (lowM_mem hne)
        show (lowM (bsO r u)).natAbs ≤ 300
        rw [← hb3]
        exact (hall b hb2).2.1
      · have hg : highM (bsO r u) = some g := hg
        unfold highM at hg
        cases hl : lo ((bsO r u).map fun b : Bd => b.2) with
        | none => rw [hl] at hg; cases hg
        | some i =>
          rw [hl] at hg
          have hg : (if ((bsO r u).filter fun b => decide (b.1 ≤ i)).length = 1 then some i else none) = some g := hg
          have hi : i = g := by
            split at hg
            · exact Option.some.inj hg
            · cases hg
          obtain ⟨b, hb2, hb3⟩ := List.mem_map.mp (lo_some hl)
          rw [← hi]
          exact (hall b hb2).2.2 i hb3
theorem sysT_v {t : Tab} (h : TabB t.1 10 t) (hn : t.1 ≤ 6) : SysV (sysT t) := by
  have hm := h.many
  refine ⟨by show t.1 + 1 ≤ 10; omega, ?_, fun w hw => ?_⟩
  · have : (t.2.flatMap (waitsR t.1)).length ≤ t.2.length * (t.1 + 1) := flat_len t.2 fun r _ => waitsR_len t.1 r
    have h2 : t.2.length * (t.1 + 1) ≤ 10 * 7 := Nat.mul_le_mul hm (by omega)
    show (t.2.flatMap (waitsR t.1)).length ≤ 250
    omega
  · have hw : w ∈ t.2.flatMap (waitsR t.1) := hw
    obtain ⟨r, hr, hw⟩ := List.mem_flatMap.mp hw
    have hB := h.rows r hr
    unfold waitsR at hw
    obtain ⟨e, he, hw⟩ := List.mem_filterMap.mp hw
    unfold waitR at hw
    cases hb : (bB t.1 r e).2 with
    | none => rw [hb] at hw; cases hw
    | some g =>
      rw [hb] at hw
      cases hw
      have hlt : ∀ u ∈ bU t.1 r, u < t.1 + 1 := fun u hu => by
        unfold bU at hu
        exact List.mem_range.mp (List.mem_filter.mp hu).1
      refine ⟨hlt e he, ?_, fun o ho => ?_⟩
      · rw [List.length_map]
        have := List.length_filter_le (fun o => !decide (o = e)) (bU t.1 r)
        have := bU_len t.1 r
        omega
      · obtain ⟨u, hu, rfl⟩ := List.mem_map.mp ho
        have hu := (List.mem_filter.mp hu).1
        refine ⟨hlt u hu, ?_⟩
        have b1 := (bB_b hB hu).1
        have b2 := (bB_b hB he).2 g hb
        show ((bB t.1 r u).1 - g).natAbs ≤ 1000
        omega
theorem i64 {i : Int} (h : i.natAbs ≤ 1000) : i.natAbs ≤ 2 ^ 64 := Nat.le_trans h (by decide)
theorem gd_int' {i : Int} (h : i.natAbs ≤ 1000) (k n : Nat) : Vq.Gd k n (.int i) := .int k n (small_lt (i64 h))
theorem gd_bd {b : Bd} (h : BdB b) : Vq.Gd 1 2 (bdD b) := .tup (.cons (n := 0) (m := 1) (gd_int' (Nat.le_trans h.2.1 (by decide)) 0 0) (.cons (n := 0) (m := 0) (gd_ord 0 0 fun i hi => i64 (Nat.le_trans (h.2.2 i hi) (by decide))) (.nil 0 0)))
theorem gd_side {n : Nat} (hn : n ≤ 100) {s : Side} (h : SideB n s) : Vq.Gd 1 3 (sideD s) := by
  have h1 := h.1
  exact .tup (.cons (n := 0) (m := 2) (gd_int' (by omega) 0 0) (.cons (n := 0) (m := 1) (gd_int' (Nat.le_trans h.2.2.1 (by decide)) 0 0) (.cons (n := 0) (m := 0) (gd_ord 0 0 fun i hi => i64 (Nat.le_trans (h.2.2.2 i hi) (by decide))) (.nil 0 0))))
theorem gd_row {n : Nat} (hn : n ≤ 100) {r : Row} (h : RowB n 8 r) : Vq.Gd 3 40 (rowD r) := by
  have g1 : Vq.Gd 2 ((3 + 1) * r.1.length) (.tuple (r.1.map sideD)) := .tup (gdA_map fun s hs => gd_side hn (h.sides s hs))
  have g2 : Vq.Gd 2 2 (rgtD r.2) := by
    cases hr : r.2 with
    | none => exact .non 2 2
    | some b => exact gd_k (gd_bd (h.rgt b hr)) (by decide)
  have g : Vq.Gd 3 ((3 + 1) * r.1.length + 1 + (2 + 1 + 0)) (rowD r) := .tup (.cons g1 (.cons g2 (.nil 2 0)))
  have := h.len
  exact gd_mono g (by omega)
theorem gd_tab {t : Tab} (h : TabB t.1 10 t) (hn : t.1 ≤ 6) : Vq.Gd 5 500 (tabD t) := by
  have g1 : Vq.Gd 4 ((40 + 1) * t.2.length) (.tuple (t.2.map rowD)) := .tup (gdA_map fun r hr => gd_row (by omega) (h.rows r hr))
  have g : Vq.Gd 5 (0 + 1 + ((40 + 1) * t.2.length + 1 + 0)) (tabD t) := .tup (.cons (gd_int' (by omega) 4 0) (.cons g1 (.nil 4 0)))
  have := h.many
  exact gd_mono g (by omega)
theorem placesT_b {t : Tab} (h : TabB t.1 10 t) (hn : t.1 ≤ 6) : (placesT t).length ≤ 70 ∧ ∀ p ∈ placesT t, p.1 ≤ 100 ∧ p.2 ≤ 100 := by
  have hm := h.many
  constructor
  · have hbd : (placesT t).length ≤ t.2.zipIdx.length * (t.1 + 1) := flat_len t.2.zipIdx fun x _ => by
      rw [List.length_map]
      exact waitsR_len t.1 x.1
    rw [List.length_zipIdx] at hbd
    have h2 : t.2.length * (t.1 + 1) ≤ 10 * 7 := Nat.mul_le_mul hm (by omega)
    omega
  · intro p hp
    unfold placesT at hp
    obtain ⟨x, hx, hp⟩ := List.mem_flatMap.mp hp
    obtain ⟨w, hw, rfl⟩ := List.mem_map.mp hp
    have hx2 := List.mk_mem_zipIdx_iff_getElem?.mp (show (x.1, x.2) ∈ t.2.zipIdx from hx)
    have hx3 := (List.getElem?_eq_some_iff.mp hx2).1
    have hr := List.mem_of_getElem? hx2
    have hws : w ∈ (sysT t).2 := List.mem_flatMap.mpr ⟨x.1, hr, hw⟩
    have hv := ((sysT_v h hn).ok w hws).1
    have hv : w.1 < t.1 + 1 := hv
    exact ⟨by show x.2 ≤ 100; omega, by show w.1 ≤ 100; omega⟩
theorem gd_places {t : Tab} (h : TabB t.1 10 t) (hn : t.1 ≤ 6) : Vq.Gd 2 ((2 + 1) * (placesT t).length) (.list ((placesT t).map placeD)) :=
  .lst (gdA_map fun p hp => by
    have hb := (placesT_b h hn).2 p hp
    exact .tup (.cons (n := 0) (m := 1) (gd_int' (by omega) 0 0) (.cons (n := 0) (m := 0) (gd_int' (by omega) 0 0) (.nil 0 0))))
theorem sh_pair {k : Nat} {a b : D} (h : Sh k a) (g : Sh k b) : Sh (k + 1) (.list [a, b]) := .lst fun y hy => by
  rcases List.mem_cons.mp hy with rfl | hy
  · exact h
  · rw [List.mem_singleton.mp hy]
    exact g
end Zl
end
section
set_option maxHeartbeats 1000000
set_option exponentiation.threshold 3000
namespace Zl
open PySem PySem.Spec PyProof.Rows L2
/-! ### drawn tables, by any bound -/
def BdC (c : Nat) (b : Bd) : Prop := BdOk b ∧ b.1.natAbs ≤ c ∧ ∀ g, b.2 = some g → g.natAbs ≤ c + 10
def SideC (c n : Nat) (s : Side) : Prop := s.1 < n ∧ BdC c s.2
structure RowC (c n m : Nat) (r : Row) : Prop where
  sides : ∀ s ∈ r.1, SideC c n s
  len : r.1.length ≤ m
  rgt : ∀ b, r.2 = some b → BdC c b
structure TabC (c n m : Nat) (t : Tab) : Prop where
  ev : t.1 = n
  many : t.2.length ≤ m
  rows : ∀ r ∈ t.2, RowC c n 8 r
theorem BdC.mono {c d : Nat} {b : Bd} (h : BdC c b) (l : c ≤ d) : BdC d b := ⟨h.1, Nat.le_trans h.2.1 l, fun g hg => Nat.le_trans (h.2.2 g hg) (by omega)⟩
theorem RowC.mono {c d n m : Nat} {r : Row} (h : RowC c n m r) (l : c ≤ d) : RowC d n m r := ⟨fun s hs => ⟨(h.sides s hs).1, (h.sides s hs).2.mono l⟩, h.len, fun b hb => (h.rgt b hb).mono l⟩
theorem TabC.mono {c d n m k : Nat} {t : Tab} (h : TabC c n m t) (l : c ≤ d) (lm : m ≤ k) : TabC d n k t := ⟨h.ev, Nat.le_trans h.many lm, fun r hr => (h.rows r hr).mono l⟩
theorem RowB.c {n m : Nat} {r : Row} (h : RowB n m r) : RowC 300 n m r := ⟨h.sides, h.len, h.rgt⟩
theorem TabB.c {n m : Nat} {t : Tab} (h : TabB n m t) : TabC 300 n m t := ⟨h.ev, h.many, fun r hr => (h.rows r hr).c⟩
theorem RowC.ok {c n m : Nat} {r : Row} (h : RowC c n m r) (hm : m ≤ 60) : RowOk n r := ⟨fun s hs => ⟨(h.sides s hs).1, (h.sides s hs).2.1⟩, Nat.le_trans h.len hm⟩
theorem TabC.ok {c n m : Nat} {t : Tab} (h : TabC c n m t) (hn : n ≤ 1000) (hm : m ≤ 1000) : TabOk t := ⟨by rw [h.ev]; exact hn, Nat.le_trans h.many hm, fun r hr => by rw [h.ev]; exact (h.rows r hr).ok (by decide)⟩
theorem bBc_b {c n : Nat} {r : Row} (h : RowC c n 8 r) {u : Nat} (hu : u ∈ bU n r) : (bB n r u).1.natAbs ≤ c ∧ ∀ g, (bB n r u).2 = some g → g.natAbs ≤ c + 10 := by
  have hb := bB_of hu
  unfold lhB at hb
  by_cases cn : u = n
  · rw [if_pos cn] at hb
    exact (h.rgt _ hb).2
  · rw [if_neg cn] at hb
    by_cases e : (bsO r u).isEmpty = true
    · rw [if_pos e] at hb
      cases hb
    · rw [if_neg e] at hb
      have hne : bsO r u ≠ [] := fun z => e (by rw [z]; rfl)
      have hall : ∀ b ∈ bsO r u, BdC c b := fun b hb => by
        unfold bsO at hb
        obtain ⟨s, hs, rfl⟩ := List.mem_map.mp hb
        exact (h.sides s (List.mem_filter.mp hs).1).2
      have hb := Option.some.inj hb
      rw [← hb]
      refine ⟨?_, fun g hg => ?_⟩
      · obtain ⟨b, hb2, hb3⟩ := List.mem_map.mp (lowM_mem hne)
        show (lowM (bsO r u)).natAbs ≤ c
        rw [← hb3]
        exact (hall b hb2).2.1
      · have hg : highM (bsO r u) = some g := hg
        unfold highM at hg
        cases hl : lo ((bsO r u).map fun b : Bd => b.2) with
        | none => rw [hl] at hg; cases hg
        | some i =>
          rw [hl] at hg
          have hg : (if ((bsO r u).filter fun b => decide (b.1 ≤ i)).length = 1 then some i else none) = some g := hg
          have hi : i = g := by
            split at hg
            · exact Option.some.inj hg
            · cases hg
          obtain ⟨b, hb2, hb3⟩ := List.mem_map.mp (lo_some hl)
          rw [← hi]
          exact (hall b hb2).2.2 i hb3
theorem sysC_len {c m : Nat} {t : Tab} (h : TabC c t.1 m t) : (sysT t).2.length ≤ m * (t.1 + 1) := by
  have : (t.2.flatMap (waitsR t.1)).length ≤ t.2.length * (t.1 + 1) := flat_len t.2 fun r _ => waitsR_len t.1 r
  exact Nat.le_trans this (Nat.mul_le_mul h.many (Nat.le_refl _))
theorem sysC_dl {c m : Nat} {t : Tab} (h : TabC c t.1 m t) : ∀ w ∈ (sysT t).2, w.1 < t.1 + 1 ∧ w.2.length ≤ t.1 + 1 ∧ ∀ o ∈ w.2, o.1 < t.1 + 1 ∧ o.2.natAbs ≤ 2 * c + 10 := fun w hw => by
  have hw : w ∈ t.2.flatMap (waitsR t.1) := hw
  obtain ⟨r, hr, hw⟩ := List.mem_flatMap.mp hw
  have hB := h.rows r hr
  unfold waitsR at hw
  obtain ⟨e, he, hw⟩ := List.mem_filterMap.mp hw
  unfold waitR at hw
  cases hb : (bB t.1 r e).2 with
  | none => rw [hb] at hw; cases hw
  | some g =>
    rw [hb] at hw
    cases hw
    have hlt : ∀ u ∈ bU t.1 r, u < t.1 + 1 := fun u hu => by
      unfold bU at hu
      exact List.mem_range.mp (List.mem_filter.mp hu).1
    refine ⟨hlt e he, ?_, fun o ho => ?_⟩
    · rw [List.length_map]
      have := List.length_filter_le (fun o => !decide (o = e)) (bU t.1 r)
      have := bU_len t.1 r
      omega
    · obtain ⟨u, hu, rfl⟩ := List.mem_map.mp ho
      have hu := (List.mem_filter.mp hu).1
      refine ⟨hlt u hu, ?_⟩
      have b1 := (bBc_b hB hu).1
      have b2 := (bBc_b hB he).2 g hb
      show ((bB t.1 r u).1 - g).natAbs ≤ 2 * c + 10
      omega
theorem sysC_v {c m : Nat} {t : Tab} (h : TabC c t.1 m t) (hn : t.1 ≤ 9) (hm : m ≤ 25) (hc : c ≤ 490) : SysV (sysT t) := by
  refine ⟨by show t.1 + 1 ≤ 10; omega, ?_, fun w hw => ?_⟩
  · have := sysC_len h
    have h2 : m * (t.1 + 1) ≤ 25 * 10 := Nat.mul_le_mul hm (by omega)
    omega
  · obtain ⟨h1, h2, h3⟩ := sysC_dl h w hw
    exact ⟨h1, by omega, fun o ho => ⟨(h3 o ho).1, by
      have := (h3 o ho).2
      show o.2.natAbs ≤ 1000
      omega⟩⟩
theorem gd_bdC {c : Nat} (hc : c ≤ 900) {b : Bd} (h : BdC c b) : Vq.Gd 1 2 (bdD b) := .tup (.cons (n := 0) (m := 1) (gd_int' (Nat.le_trans h.2.1 (by omega)) 0 0) (.cons (n := 0) (m := 0) (gd_ord 0 0 fun i hi => i64 (Nat.le_trans (h.2.2 i hi) (by omega))) (.nil 0 0)))
theorem gd_sideC {c n : Nat} (hc : c ≤ 900) (hn : n ≤ 100) {s : Side} (h : SideC c n s) : Vq.Gd 1 3 (sideD s) := by
  have h1 := h.1
  exact .tup (.cons (n := 0) (m := 2) (gd_int' (by omega) 0 0) (.cons (n := 0) (m := 1) (gd_int' (Nat.le_trans h.2.2.1 (by omega)) 0 0) (.cons (n := 0) (m := 0) (gd_ord 0 0 fun i hi => i64 (Nat.le_trans (h.2.2.2 i hi) (by omega))) (.nil 0 0))))
theorem gd_rowC {c n : Nat} (hc : c ≤ 900) (hn : n ≤ 100) {r : Row} (h : RowC c n 8 r) : Vq.Gd 3 40 (rowD r) := by
  have g1 : Vq.Gd 2 ((3 + 1) * r.1.length) (.tuple (r.1.map sideD)) := .tup (gdA_map fun s hs => gd_sideC hc hn (h.sides s hs))
  have g2 : Vq.Gd 2 2 (rgtD r.2) := by
    cases hr : r.2 with
    | none => exact .non 2 2
    | some b => exact gd_k (gd_bdC hc (h.rgt b hr)) (by decide)
  have g : Vq.Gd 3 ((3 + 1) * r.1.length + 1 + (2 + 1 + 0)) (rowD r) := .tup (.cons g1 (.cons g2 (.nil 2 0)))
  have := h.len
  exact gd_mono g (by omega)
theorem gd_tabC {c m : Nat} (hc : c ≤ 900) {t : Tab} (h : TabC c t.1 m t) (hn : t.1 ≤ 100) : Vq.Gd 5 (41 * m + 10) (tabD t) := by
  have g1 : Vq.Gd 4 ((40 + 1) * t.2.length) (.tuple (t.2.map rowD)) := .tup (gdA_map fun r hr => gd_rowC hc hn (h.rows r hr))
  have g : Vq.Gd 5 (0 + 1 + ((40 + 1) * t.2.length + 1 + 0)) (tabD t) := .tup (.cons (gd_int' (by omega) 4 0) (.cons g1 (.nil 4 0)))
  have := h.many
  exact gd_mono g (by omega)
theorem sh_bd (b : Bd) : Sh 1 (bdD b) := .tup fun x hx => by
  rcases List.mem_cons.mp hx with rfl | hx
  · exact .int 0 _
  · rw [List.mem_singleton.mp hx]
    exact sh_ord 0 _
theorem sh_side (s : Side) : Sh 1 (sideD s) := .tup fun x hx => by
  rcases List.mem_cons.mp hx with rfl | hx
  · exact .int 0 _
  rcases List.mem_cons.mp hx with rfl | hx
  · exact .int 0 _
  · rw [List.mem_singleton.mp hx]
    exact sh_ord 0 _
theorem sh_rgt (o : Option Bd) : Sh 2 (rgtD o) := by
  cases o with
  | none => exact .non 2
  | some b =>
    exact .tup fun x hx => by
      rcases List.mem_cons.mp hx with rfl | hx
      · exact .int 1 _
      · rw [List.mem_singleton.mp hx]
        exact sh_ord 1 _
theorem sh_row (r : Row) : Sh 3 (rowD r) := .tup fun x hx => by
  rcases List.mem_cons.mp hx with rfl | hx
  · exact .tup (sh_map fun s => sh_side s)
  · rw [List.mem_singleton.mp hx]
    exact sh_rgt _
theorem sh_tab (t : Tab) : Sh 5 (tabD t) := .tup fun x hx => by
  rcases List.mem_cons.mp hx with rfl | hx
  · exact .int 4 _
  · rw [List.mem_singleton.mp hx]
    exact .tup (sh_map fun r => sh_row r)
/-! ### tables without right sides -/
def bareT (t : Tab) : Tab := (t.1, t.2.map fun r => (r.1, none))
theorem bareC {c n m : Nat} {t : Tab} (h : TabC c n m t) : TabC c n m (bareT t) := ⟨h.ev, by show (t.2.map _).length ≤ m; rw [List.length_map]; exact h.many, fun r hr => by
  obtain ⟨x, hx, rfl⟩ := List.mem_map.mp hr
  exact ⟨(h.rows x hx).sides, (h.rows x hx).len, fun b hb => (nomatch hb)⟩⟩
theorem bareOk {t : Tab} (h : TabOk t) : TabOk (bareT t) := ⟨h.ev, by show (t.2.map _).length ≤ 1000; rw [List.length_map]; exact h.many, fun r hr => by
  obtain ⟨x, hx, rfl⟩ := List.mem_map.mp hr
  exact ⟨(h.rows x hx).sides, (h.rows x hx).len⟩⟩
/-- an event that no wait names has its floor -/
theorem lf_floor {s : Sys} {fl p : Pl} (h : LF s fl p) {e : Nat} (he : e < s.1) (hw : ∀ w ∈ s.2, w.1 ≠ e) : ord p e = ord fl e := by
  have hl := h.len
  have at' : ∀ i, ord (p.set e (ord fl e)) i = if i = e then ord fl e else ord p i := fun i => ord_set (by omega) i
  have hle : Le2 (p.set e (ord fl e)) p := fun i => by
    rw [at']
    by_cases c : i = e
    · rw [if_pos c, c]
      exact h.low e
    · rw [if_neg c]
      exact naM_refl _
  have z := h.least (p.set e (ord fl e)) (by rw [List.length_set]; exact hl) (List.all_eq_true.mpr fun w hwm => by
    show naM _ _ = true
    rw [at' w.1, if_neg (hw w hwm)]
    exact naM_trans (erl_mono hle w.2) (keeps_at h.keeps hwm)) fun i => by
      rw [at']
      by_cases c : i = e
      · rw [if_pos c, c]
        exact naM_refl _
      · rw [if_neg c]
        exact h.low i
  have z := z e
  rw [at', if_pos rfl] at z
  exact naM_anti z (h.low e)
theorem bare_right {t : Tab} : ∀ w ∈ (sysT (bareT t)).2, w.1 ≠ t.1 := fun w hw he => by
  have hw : w ∈ (bareT t).2.flatMap (waitsR t.1) := hw
  obtain ⟨r, hr, hw⟩ := List.mem_flatMap.mp hw
  obtain ⟨x, hx, rfl⟩ := List.mem_map.mp hr
  unfold waitsR at hw
  obtain ⟨e, he2, hw⟩ := List.mem_filterMap.mp hw
  have : e = t.1 := by
    unfold waitR at hw
    cases hb : (bB t.1 (x.1, none) e).2 with
    | none => rw [hb] at hw; cases hw
    | some g =>
      rw [hb] at hw
      cases hw
      exact he
  have hb := bB_of he2
  unfold lhB at hb
  rw [if_pos this] at hb
  cases hb
noncomputable def lpT (t : Tab) : Pl := lp (sysT (bareT t))
theorem lpT_right {t : Tab} (h : SysIn (sysT (bareT t))) : ord (lpT t) t.1 = some 0 := by
  have z := lf_floor (lp_lf h) (e := t.1) (by show t.1 < t.1 + 1; omega) bare_right
  have e : ord (zeros (sysT (bareT t)).1) t.1 = some 0 := by
    unfold zeros ord
    rw [List.getD_eq_getElem?_getD, List.getElem?_replicate, if_pos (by show t.1 < t.1 + 1; omega)]
    rfl
  rw [e] at z
  exact z
noncomputable def loudP (t : Tab) : Pl := (lpT t).take t.1
theorem loudP_len {t : Tab} (h : SysIn (sysT (bareT t))) : (loudP t).length = t.1 := by
  have hl : (lpT t).length = t.1 + 1 := lp_len h
  unfold loudP
  rw [List.length_take, hl]
  omega
theorem loudP_right {t : Tab} (h : SysIn (sysT (bareT t))) : loudP t ++ [some 0] = lpT t := by
  have hl : (lpT t).length = t.1 + 1 := lp_len h
  have hr := lpT_right h
  unfold ord at hr
  rw [List.getD_eq_getElem?_getD, List.getElem?_eq_getElem (by omega)] at hr
  have hr : (lpT t)[t.1] = some 0 := hr
  have e : lpT t = (lpT t).take t.1 ++ (lpT t).drop t.1 := (List.take_append_drop _ _).symm
  have e2 : (lpT t).drop t.1 = [some 0] := by
    rw [List.drop_eq_getElem_cons (by omega), hr, List.drop_of_length_le (by omega)]
  rw [e2] at e
  exact e.symm
noncomputable def loudO (t : Tab) : Option Pl := if loudP t = List.replicate t.1 none then none else some (loudP t)
def plO : Option Pl → D
  | none => .none
  | some p => plD true p
noncomputable def barU (t : Tab) : List Nat := nons t.1 (lpT t)
theorem barU_eq {t : Tab} (h : SysIn (sysT (bareT t))) : nons (t.1 + 1) (lpT t) = barU t := by
  unfold barU nons
  rw [List.range_succ, List.filter_append, List.filter_cons]
  rw [lpT_right h]
  rw [if_neg (by decide), List.filter_nil, List.append_nil]
theorem loud_none {t : Tab} (h : SysIn (sysT (bareT t))) : loudO t = none ↔ (barU t).length = t.1 := by
  have hl : (lpT t).length = t.1 + 1 := lp_len h
  have hll := loudP_len h
  have at' : ∀ i, i < t.1 → ord (loudP t) i = ord (lpT t) i := fun i hi => by
    unfold loudP ord
    rw [List.getD_eq_getElem?_getD, List.getD_eq_getElem?_getD, List.getElem?_take, if_pos hi]
  unfold loudO
  constructor
  · intro e
    by_cases c : loudP t = List.replicate t.1 none
    · unfold barU nons
      rw [List.filter_eq_self.mpr, List.length_range]
      intro i hi
      have hi := List.mem_range.mp hi
      rw [← at' i hi, c, ord_nones]
      rfl
    · rw [if_neg c] at e
      cases e
  · intro e
    rw [if_pos]
    have e2 : (List.range t.1).filter (fun i => (ord (lpT t) i).isNone) = List.range t.1 := by
      refine List.filter_sublist.eq_of_length ?_
      rw [List.length_range]
      exact e
    refine pl_ext (by rw [hll, List.length_replicate]) fun i => ?_
    rw [ord_nones]
    by_cases hi : i < t.1
    · rw [at' i hi]
      have := List.filter_eq_self.mp e2 i (List.mem_range.mpr hi)
      cases q : ord (lpT t) i with
      | none => rfl
      | some v => rw [q] at this; cases this
    · unfold ord
      rw [List.getD_eq_getElem?_getD, List.getElem?_eq_none (by omega)]
      rfl
end Zl
end
section
set_option maxHeartbeats 2000000
namespace Zl
open PySem PySem.Spec PyProof.Rows L2
/-! ### silence: the program -/
theorem nones_d (n : Nat) : (List.replicate n [PyData.none]).flatten = (List.replicate n (none : Ord)).map ordD := by
  rw [List.flatten_replicate_singleton, List.map_replicate]
  rfl
section
variable {P : Program} {w : World} {K : PySem.W.Frag} {mg : Str → Option Value} {base : Heap}
structure SilIn (t : Tab) : Prop where
  ev : t.1 ≤ 999
  many : t.2.length ≤ 1000
  sy : SysIn (sysT (bareT t))
def sp_without_rights : Spz := fun ws q => ∃ t : Tab, ws = [.d (tabD t)] ∧ q (.d (tabD (bareT t)))
theorem ok_without_rights (M : Mgz mg) (Dd : Vq.D1 K mg "without_rights" s_without_rights ["table"])  : ZCal P w K mg base 1 "without_rights" sp_without_rights := by
  refine zcal false Dd sc_without_rights (fun ws q h => ?_) fun f cdv A outer s H E hG hr => ⟨_, (zb_cons (zs_asg (zv 0) (zg_tup rfl (zgs_cons (zg_name (i := 1) sc_without_rights.nd rfl (.inl rfl)) (zgs_cons (zg_name (i := 2) sc_without_rights.nd rfl (.inl rfl)) zgs_nil))))
      (zb_one (zs_ret (z_tup (za_cons (zv 1) (za_cons (z_ty t_tuple (by rfl) M.tuple (by decide +kernel) (za_cons (zfz (z_lc (own := [("sides", 3), ("right", 4)]) rfl sc_without_rights.nd (zi_seq (zv 2)) (blkOk_by (own := [("sides", 3), ("right", 4)]) (N := n_without_rights) (sc := defScope s_without_rights) (by first | decide +kernel | kernel_rfl | rfl)) (fun _ _ _ _ _ => (pg_tupK K rfl (n := 2) rfl (pgs_cons (pg_name (i := 3) sc_without_rights.nd rfl (.inl rfl)) (pgs_cons (pg_name (i := 4) sc_without_rights.nd rfl (.inl rfl)) pgs_nil)))) (gr_tup (n := 2) (gr_cons (gr_name (by decide)) (gr_cons (gr_name (by decide)) gr_nil))) (fun _ _ _ _ _ => (z_tup (za_cons (zv 3) (za_cons znon za_nil)))))) za_nil)) za_nil)))))), fun ws Q0 h => ?_⟩
  · obtain ⟨t, rfl, _⟩ := h
    rfl
  · obtain ⟨t, rfl, q⟩ := h
    refine zComp_map rowD (fun r => rowD (r.1, none)) t.2 (fun r hr k k0 h => h) ?_
    have q : Q0 (.d (.tuple [.int (t.1 : Nat), .tuple ((t.2.map fun r => (r.1, none)).map rowD)])) := q
    rw [List.map_map] at q
    exact q
def sp_silent_system : Spz := fun ws q => ∃ t : Tab, ws = [.d (tabD t)] ∧ t.1 ≤ 1000 ∧ t.2.length ≤ 1000 ∧ q (.d (sysD (sysT (bareT t))))
theorem ok_silent_system (M : Mgz mg) (Dd : Vq.D1 K mg "silent_system" s_silent_system ["table"]) (c_system_of : ZCal P w K mg base 6 "system_of" sp_system_of) (c_without_rights : ZCal P w K mg base 1 "without_rights" sp_without_rights) : ZCal P w K mg base 7 "silent_system" sp_silent_system := by
  refine zcal false Dd sc_silent_system (fun ws q h => ?_) fun f cdv A outer s H E hG hr => ⟨_, (zb_one (zs_ret (z_call hG c_system_of hr (by decide) rfl (za_cons (z_call hG c_without_rights hr (by decide) rfl (za_cons (zv 0) za_nil)) za_nil)))), fun ws Q0 h => ?_⟩
  · obtain ⟨t, rfl, _⟩ := h
    rfl
  · obtain ⟨t, rfl, h1, h2, q⟩ := h
    exact ⟨t, rfl, bareT t, rfl, h1, by show (t.2.map _).length ≤ 1000; rw [List.length_map]; exact h2, q⟩
def sp_loud_orders : Spz := fun ws q => ∃ t : Tab, ws = [.d (tabD t)] ∧ SilIn t ∧ q (.d (plO (loudO t)))
theorem ok_loud_orders (M : Mgz mg) (Dd : Vq.D1 K mg "loud_orders" s_loud_orders ["table"]) (c_least_plan : ZCal P w K mg base 5 "least_plan" sp_least_plan) (c_silent_system : ZCal P w K mg base 7 "silent_system" sp_silent_system) : ZCal P w K mg base 8 "loud_orders" sp_loud_orders := by
  refine zcal false Dd sc_loud_orders (fun ws q h => ?_) fun f cdv A outer s H E hG hr => ⟨_, (zb_cons (zs_set (i := 1) sc_loud_orders.nd rfl (.inl rfl) (z_ix (zv 0) zint))
      (zb_cons (zs_set (i := 2) sc_loud_orders.nd rfl (.inl rfl) (z_slT (fun _ => sl_tupA) (z_call hG c_least_plan hr (by decide) rfl (za_cons (z_call hG c_silent_system hr (by decide) rfl (za_cons (zv 0) za_nil)) za_nil)) zo_none (zo_some (zv 1))))
      (zb_one (zs_ret (z_if (zt_eqD (Room.units hr) (zv 2) (z_repT (z_tup (za_cons znon za_nil)) (zv 1)) (nomark _)) znon (zv 2)))))), fun ws Q0 h => ?_⟩
  · obtain ⟨t, rfl, _⟩ := h
    rfl
  · obtain ⟨t, rfl, hs, q⟩ := h
    have hn := hs.ev
    refine ⟨t, rfl, by omega, hs.many, ?_⟩
    refine ⟨sysT (bareT t), rfl, hs.sy, fun p hp => ?_⟩
    have hpe : p = lpT t := lp_eq hp
    subst hpe
    have ec : cutD ((lpT t).map ordD) none (some (t.1 : Int)) = (loudP t).map ordD := by
      rw [cut_to, ← List.map_take]
      rfl
    refine ⟨⟨by simp, by omega, by omega, by decide⟩, ?_⟩
    have er := nones_d t.1
    have s1 : Shp (.tuple (cutD ((lpT t).map ordD) none (some (t.1 : Int)))) := by rw [ec]; exact (sh_pl true _).shp (by decide)
    have s2 : Shp (.tuple (List.replicate t.1 [PyData.none]).flatten) := by rw [er]; exact (sh_pl true _).shp (by decide)
    have e3 : PyData.eqv (.tuple (cutD ((lpT t).map ordD) none (some (t.1 : Int)))) (.tuple (List.replicate t.1 [PyData.none]).flatten) = decide (loudP t = List.replicate t.1 none) := by
      rw [ec, er]
      exact eqv_pl_dec _ _
    refine ⟨s1, s2, ?_⟩
    rw [Int.toNat_natCast, e3, Bool.false_xor, ec]
    unfold loudO at q
    by_cases c : loudP t = List.replicate t.1 none
    · rw [if_pos c] at q
      rw [decide_eq_true c]
      exact q
    · rw [if_neg c] at q
      rw [decide_eq_false c]
      exact q
def sp_is_silent : Spz := fun ws q => ∃ t : Tab, ws = [.d (tabD t)] ∧ SilIn t ∧ q (.d (.bool (loudO t).isNone))
theorem ok_is_silent (M : Mgz mg) (Dd : Vq.D1 K mg "is_silent" s_is_silent ["table"]) (c_loud_orders : ZCal P w K mg base 8 "loud_orders" sp_loud_orders) : ZCal P w K mg base 9 "is_silent" sp_is_silent := by
  refine zcal false Dd sc_is_silent (fun ws q h => ?_) fun f cdv A outer s H E hG hr => ⟨_, (zb_one (zs_ret (z_isN (z_call hG c_loud_orders hr (by decide) rfl (za_cons (zv 0) za_nil)) znon (nomark _)))), fun ws Q0 h => ?_⟩
  · obtain ⟨t, rfl, _⟩ := h
    rfl
  · obtain ⟨t, rfl, hs, q⟩ := h
    refine ⟨t, rfl, hs, ?_⟩
    cases h : loudO t with
    | none => rw [h] at q; exact q
    | some p => rw [h] at q; exact q
def sp_barred_unknowns : Spz := fun ws q => ∃ t : Tab, ws = [.d (tabD t)] ∧ SilIn t ∧ q (.d (natsT (barU t)))
theorem ok_barred_unknowns (M : Mgz mg) (Dd : Vq.D1 K mg "barred_unknowns" s_barred_unknowns ["table"]) (c_barred_events : ZCal P w K mg base 6 "barred_events" sp_barred_events) (c_silent_system : ZCal P w K mg base 7 "silent_system" sp_silent_system) : ZCal P w K mg base 8 "barred_unknowns" sp_barred_unknowns := by
  refine zcal false Dd sc_barred_unknowns (fun ws q h => ?_) fun f cdv A outer s H E hG hr => ⟨_, (zb_one (zs_ret (z_call hG c_barred_events hr (by decide) rfl (za_cons (z_call hG c_silent_system hr (by decide) rfl (za_cons (zv 0) za_nil)) za_nil)))), fun ws Q0 h => ?_⟩
  · obtain ⟨t, rfl, _⟩ := h
    rfl
  · obtain ⟨t, rfl, hs, q⟩ := h
    have hn := hs.ev
    refine ⟨t, rfl, by omega, hs.many, sysT (bareT t), rfl, hs.sy, ?_⟩
    have e : nons (sysT (bareT t)).1 (lp (sysT (bareT t))) = barU t := barU_eq hs.sy
    rw [e]
    exact q
end
end Zl
end
section
set_option maxHeartbeats 2000000
namespace Zl
open PySem PySem.Spec PyProof.Rows L2
/-! ### silence: the law's own -/
section
variable {P : Program} {w : World} {K : PySem.W.Frag} {mg : Str → Option Value} {base : Heap}
def sp_l_bare : Spz := fun ws q => ∃ t : Tab, ws = [.d (tabD t)] ∧ q (.d (tabD (bareT t)))
theorem ok_l_bare (M : Mgz mg) (Dd : Vq.D1 K mg "_law_bare" s_l_bare ["_law_table_here"])  : ZCal P w K mg base 1 "_law_bare" sp_l_bare := by
  refine zcal false Dd sc_l_bare (fun ws q h => ?_) fun f cdv A outer s H E hG hr => ⟨_, (zb_one (zs_ret (z_tup (za_cons (z_ix (zv 0) zint) (za_cons (z_ty t_tuple (by rfl) M.tuple (by decide +kernel) (za_cons (zfz (z_lc (own := [("_law_sides", 1), ("_law_right", 2)]) rfl sc_l_bare.nd (zi_seq (z_ix (zv 0) zint)) (blkOk_by (own := [("_law_sides", 1), ("_law_right", 2)]) (N := n_l_bare) (sc := defScope s_l_bare) (by first | decide +kernel | kernel_rfl | rfl)) (fun _ _ _ _ _ => (pg_tupK K rfl (n := 2) rfl (pgs_cons (pg_name (i := 1) sc_l_bare.nd rfl (.inl rfl)) (pgs_cons (pg_name (i := 2) sc_l_bare.nd rfl (.inl rfl)) pgs_nil)))) (gr_tup (n := 2) (gr_cons (gr_name (by decide)) (gr_cons (gr_name (by decide)) gr_nil))) (fun _ _ _ _ _ => (z_tup (za_cons (zv 1) (za_cons znon za_nil)))))) za_nil)) za_nil))))), fun ws Q0 h => ?_⟩
  · obtain ⟨t, rfl, _⟩ := h
    rfl
  · obtain ⟨t, rfl, q⟩ := h
    refine zComp_map rowD (fun r => rowD (r.1, none)) t.2 (fun r hr k k0 h => h) ?_
    have q : Q0 (.d (.tuple [.int (t.1 : Nat), .tuple ((t.2.map fun r => (r.1, none)).map rowD)])) := q
    rw [List.map_map] at q
    exact q
def sp_l_barred_unknowns : Spz := fun ws q => ∃ t : Tab, ws = [.d (tabD t)] ∧ TabOk t ∧ SysV (sysT (bareT t)) ∧ q (.d (natsT (barU t)))
theorem ok_l_barred_unknowns (M : Mgz mg) (Dd : Vq.D1 K mg "_law_barred_unknowns" s_l_barred_unknowns ["_law_table_here"]) (c_l_bare : ZCal P w K mg base 1 "_law_bare" sp_l_bare) (c_l_barred : ZCal P w K mg base 7 "_law_barred" sp_l_barred) (c_l_system_of : ZCal P w K mg base 6 "_law_system_of" sp_l_system_of) : ZCal P w K mg base 8 "_law_barred_unknowns" sp_l_barred_unknowns := by
  refine zcal false Dd sc_l_barred_unknowns (fun ws q h => ?_) fun f cdv A outer s H E hG hr => ⟨_, (zb_one (zs_ret (z_ty t_tuple (by rfl) M.tuple (by decide +kernel) (za_cons (zfz (z_lci (own := [("_law_event", 1)]) rfl sc_l_barred_unknowns.nd (zi_seq (z_call hG c_l_barred hr (by decide) rfl (za_cons (z_call hG c_l_system_of hr (by decide) rfl (za_cons (z_call hG c_l_bare hr (by decide) rfl (za_cons (zv 0) za_nil)) za_nil)) za_nil))) (blkOk_by (own := [("_law_event", 1)]) (N := n_l_barred_unknowns) (sc := defScope s_l_barred_unknowns) (by first | decide +kernel | kernel_rfl | rfl)) (fun _ _ _ _ _ => (pg_name (i := 1) sc_l_barred_unknowns.nd rfl (.inl rfl))) (gr_name (by decide)) (fun _ _ _ _ _ => (zt_lt (zv 1) (z_ix (zv 0) zint) (nomark _))) (fun _ _ _ _ _ => (zv 1)))) za_nil)))), fun ws Q0 h => ?_⟩
  · obtain ⟨t, rfl, _⟩ := h
    rfl
  · obtain ⟨t, rfl, hok, hs, q⟩ := h
    refine ⟨t, rfl, bareT t, rfl, bareOk hok, sysT (bareT t), rfl, hs, fun p hp => ?_⟩
    have hpe : p = lpT t := lp_eq hp
    subst hpe
    have e : nons (sysT (bareT t)).1 (lpT t) = barU t := barU_eq hs.sysIn
    rw [e]
    refine zComp_fm (fun (i : Nat) => PyData.int (i : Nat)) (fun i => if i < t.1 then some (.int (i : Nat)) else none) (barU t) [] (fun i hi k k0 h1 h2 => ?_) ?_
    · show (if decide (((i : Nat) : Int) < ((t.1 : Nat) : Int)) = true then _ else _)
      by_cases c : i < t.1
      · rw [if_pos (decide_eq_true (by omega))]
        exact h1 _ (if_pos c)
      · rw [if_neg (by rw [decide_eq_false (by omega)]; decide)]
        exact h2 (if_neg c)
    · have e2 : (barU t).filterMap (fun i => if i < t.1 then some (PyData.int (i : Nat)) else none) = (barU t).map fun (i : Nat) => PyData.int (i : Nat) := by
        rw [← List.filterMap_eq_map]
        refine fm_congr fun i hi => ?_
        unfold barU nons at hi
        rw [if_pos (List.mem_range.mp (List.mem_filter.mp hi).1)]
        rfl
      rw [List.nil_append, e2]
      exact q
def sp_l_do_stand : Spz := fun ws q => ∃ (t : Tab) (os : Pl), ws = [.d (tabD t), .d (plD true os)] ∧ TabOk t ∧ os.length = t.1 ∧ q (.d (.bool (keepsM (sysT t) (os ++ [some 0]))))
theorem ok_l_do_stand (M : Mgz mg) (Dd : Vq.D1 K mg "_law_do_stand" s_l_do_stand ["_law_table_here", "_law_orders"]) (c_l_keeps : ZCal P w K mg base 6 "_law_keeps" sp_l_keeps) (c_l_system_of : ZCal P w K mg base 6 "_law_system_of" sp_l_system_of) : ZCal P w K mg base 7 "_law_do_stand" sp_l_do_stand := by
  refine zcal false Dd sc_l_do_stand (fun ws q h => ?_) fun f cdv A outer s H E hG hr => ⟨_, (zb_one (zs_ret (z_call hG c_l_keeps hr (by decide) rfl (za_cons (z_call hG c_l_system_of hr (by decide) rfl (za_cons (zv 0) za_nil)) (za_cons (z_catT (z_ty t_tuple (by rfl) M.tuple (by decide +kernel) (za_cons (zv 1) za_nil)) (z_tup (za_cons zint za_nil))) za_nil))))), fun ws Q0 h => ?_⟩
  · obtain ⟨t, os, rfl, _⟩ := h
    rfl
  · obtain ⟨t, os, rfl, hok, hl, q⟩ := h
    have hn := hok.ev
    have hol : (os ++ [some 0]).length = t.1 + 1 := by rw [List.length_append, hl]; rfl
    have eat : (os.map ordD ++ [PyData.int 0]) = (os ++ [some 0]).map ordD := by rw [List.map_append]; rfl
    refine ⟨t, rfl, hok, ?_⟩
    refine ⟨by rw [List.length_map, sizeLine_eq]; show _ + 1 ≤ _; omega, ?_⟩
    refine ⟨sysT t, os ++ [some 0], true, ?_, fun w hw => by rw [hol]; exact sysT_ok t w hw, q⟩
    show [W.d (sysD (sysT t)), W.d (.tuple (os.map ordD ++ [PyData.int 0]))] = _
    rw [eat]
    rfl
def sp_l_is_order : Spz := fun ws q => ∃ o : Ord, ws = [.d (ordD o)] ∧ q (.d (.bool true))
theorem ok_l_is_order (M : Mgz mg) (Dd : Vq.D1 K mg "_law_is_order" s_l_is_order ["_law_thing"]) (c_l_is_int : ZCal P w K mg base 1 "_law_is_int" sp_l_is_int) : ZCal P w K mg base 2 "_law_is_order" sp_l_is_order := by
  refine zcal false Dd sc_l_is_order (fun ws q h => ?_) fun f cdv A outer s H E hG hr => ⟨_, (zb_one (zs_ret (z_or (z_isN (zv 0) znon (nomark _)) (z_one (z_call hG c_l_is_int hr (by decide) rfl (za_cons (zv 0) za_nil)))))), fun ws Q0 h => ?_⟩
  · obtain ⟨o, rfl, _⟩ := h
    rfl
  · obtain ⟨o, rfl, q⟩ := h
    cases o with
    | none => exact q
    | some v => exact ⟨v, rfl, q⟩
def sp_l_are_orders : Spz := fun ws q => ∃ (t : Tab) (os : Pl), ws = [.d (tabD t), .d (plD true os)] ∧ os.length = t.1 ∧ q (.d (.bool true))
theorem ok_l_are_orders (M : Mgz mg) (Dd : Vq.D1 K mg "_law_are_orders" s_l_are_orders ["_law_table_here", "_law_thing"]) (c_l_is_order : ZCal P w K mg base 2 "_law_is_order" sp_l_is_order) : ZCal P w K mg base 3 "_law_are_orders" sp_l_are_orders := by
  refine zcal false Dd sc_l_are_orders (fun ws q h => ?_) fun f cdv A outer s H E hG hr => ⟨_, (zb_cons (zs_if (zt_w (zw_or (zt_not (zt_val (z_isi k_tuple rfl M.isinstance rfl M.tuple (by decide +kernel) (zv 1)))) (zw_or1 (zt_ne (z_b b_len (by rfl) M.len (by decide +kernel) (za_cons (zv 1) za_nil)) (z_ix (zv 0) zint) (nomark _))))) (zb_one (zs_ret zbl)) zb_nil)
      (zb_one (zs_ret (z_eqD (Room.units hr) (zfz (z_lci (own := [("_law_order", 2)]) rfl sc_l_are_orders.nd (zi_seq (zv 1)) (blkOk_by (own := [("_law_order", 2)]) (N := n_l_are_orders) (sc := defScope s_l_are_orders) (by first | decide +kernel | kernel_rfl | rfl)) (fun _ _ _ _ _ => (pg_name (i := 2) sc_l_are_orders.nd rfl (.inl rfl))) (gr_name (by decide)) (fun _ _ _ _ _ => (zt_not (zt_val (z_call hG c_l_is_order hr (by decide) rfl (za_cons (zv 2) za_nil))))) (fun _ _ _ _ _ => (zv 2)))) (zfz (z_lst za_nil)) (nomark _))))), fun ws Q0 h => ?_⟩
  · obtain ⟨t, os, rfl, _⟩ := h
    rfl
  · obtain ⟨t, os, rfl, hl, q⟩ := h
    refine ⟨rfl, ?_⟩
    show (if (!(decide (((os.map ordD).length : Int) = ((t.1 : Nat) : Int)))) = true then _ else _)
    rw [decide_eq_true (show ((os.map ordD).length : Int) = ((t.1 : Nat) : Int) by rw [List.length_map, hl]), if_neg (by decide)]
    refine zComp_fm ordD (fun _ => none) os [] (fun o ho k k0 h1 h2 => ⟨o, rfl, h2 rfl⟩) ?_
    rw [filterMap_none]
    refine ⟨(Sh.lst (k := 0) (fun x hx => by cases hx)).shp (by decide), (Sh.lst (k := 0) (fun x hx => by cases hx)).shp (by decide), ?_⟩
    exact q
end
end Zl
end
section
set_option maxHeartbeats 4000000
namespace Zl
open PySem PySem.Spec PyProof.Rows L2
theorem eqv_nilT (xs : List D) : PyData.eqv (.tuple xs) (.tuple []) = xs.isEmpty := by
  have e : PyData.eqv (.tuple xs) (.tuple []) = PyData.eqvAll xs [] := by simp only [PyData.eqv]
  rw [e]
  cases xs <;> simp [PyData.eqvAll]
theorem ixN_at {n j : Nat} (hj : j < n) : ixN n (j : Int) = some j := by
  unfold ixN
  rw [if_pos (by omega), if_pos (by omega)]
  simp
theorem bdC_none {c : Nat} {i : Int} (h : i.natAbs ≤ c) : BdC c (i, none) := ⟨fun g hg => (nomatch hg), h, fun g hg => (nomatch hg)⟩
theorem bdC_some {c : Nat} {i j : Int} (h1 : i ≤ j) (h : i.natAbs ≤ c) (h2 : j.natAbs ≤ c + 10) : BdC c (i, some j) := ⟨fun g hg => (by cases hg; exact h1), h, fun g hg => (by cases hg; exact h2)⟩
theorem lp_b {s : Sys} (hs : SysV s) : PlB 12000 (lp s) := by
  have z := lp_lf hs.sysIn
  have z : LF s (zeros s.1) (lp s) := z
  rw [zeros_flP] at z
  exact lf_b hs ⟨List.length_replicate, fun i hi => by rw [List.eq_of_mem_replicate hi]; decide⟩ z
theorem loudP_b {t : Tab} (hs : SysV (sysT (bareT t))) : PlB 12000 (loudP t) := fun o ho => lp_b hs o (List.mem_of_mem_take ho)
section
variable {P : Program} {w : World} {K : PySem.W.Frag} {mg : Str → Option Value} {base : Heap}
def sp_l_turned : Spz := fun ws q => ∃ (t : Tab) (c m : Nat), ws = [.bag, .d (tabD t)] ∧ TabC c t.1 m t ∧ 2 ≤ c ∧ ∀ t' : Tab, TabC c t.1 m t' → q (.d (tabD t'))
theorem ok_l_turned (M : Mgz mg) (Dd : Vq.D1 K mg "_law_turned" s_l_turned ["_law_bag_here", "_law_table_here"]) (c_l_some : ZCal P w K mg base 2 "_law_some" sp_l_some) : ZCal P w K mg base 3 "_law_turned" sp_l_turned := by
  refine zcal false Dd sc_l_turned (fun ws q h => ?_) fun f cdv A outer s H E hG hr => ⟨_, (zb_cons (zs_cold (zs_setLc (y := 2) (own := [("_law_sides", 3), ("_law_right", 4)]) rfl sc_l_turned.nd (zi_seq (z_ix (zv 1) zint)) (blkOk_by (own := [("_law_sides", 3), ("_law_right", 4)]) (N := n_l_turned) (sc := defScope s_l_turned) (by first | decide +kernel | kernel_rfl | rfl)) (fun _ _ _ _ _ => (pg_tupK K rfl (n := 2) rfl (pgs_cons (pg_name (i := 3) sc_l_turned.nd rfl (.inl rfl)) (pgs_cons (pg_name (i := 4) sc_l_turned.nd rfl (.inl rfl)) pgs_nil)))) (gr_tup (n := 2) (gr_cons (gr_name (by decide)) (gr_cons (gr_name (by decide)) gr_nil))) (fun _ _ _ _ _ => (z_tup (za_cons (zv 3) (za_cons (z_call hG c_l_some hr (by decide) rfl (za_cons (zv 0) (za_cons (zfz (z_lst (za_cons znon (za_cons (z_tup (za_cons zint (za_cons zint za_nil))) (za_cons (z_tup (za_cons zint (za_cons znon za_nil))) (za_cons (zv 4) za_nil)))))) za_nil))) za_nil))))))
      (zb_one (zs_ret (z_tup (za_cons (z_ix (zv 1) zint) (za_cons (z_ty t_tuple (by rfl) M.tuple (by decide +kernel) (za_cons (zv 2) za_nil)) za_nil)))))), fun ws Q0 h => ?_⟩
  · obtain ⟨t, c, m, rfl, _⟩ := h
    rfl
  · obtain ⟨t, c, m, rfl, ht, hc, q⟩ := h
    refine zComp_any rowD rowD (fun r r' => r'.1 = r.1 ∧ RowC c t.1 8 r') t.2 [] (fun r hr k1 k0 h => ?_) fun rs hrs => ?_
    · have hB := ht.rows r hr
      have put : ∀ o : Option Bd, (∀ b, o = some b → BdC c b) → k1 (rowD (r.1, o)) := fun o ho => h (r.1, o) ⟨rfl, hB.sides, hB.len, ho⟩
      refine ⟨[.none, .tuple [.int 0, .int 0], .tuple [.int 2, .none], rgtD r.2], rfl, Nat.succ_pos _, by show 4 < 2 ^ 20; decide, fun y hy => ?_⟩
      simp only [List.mem_cons, List.not_mem_nil, or_false] at hy
      rcases hy with rfl | rfl | rfl | rfl
      · exact put none fun b e => nomatch e
      · exact put (some (0, some 0)) fun b e => by cases e; exact bdC_some (Int.le_refl _) (by omega) (by omega)
      · exact put (some (2, none)) fun b e => by cases e; exact bdC_none (by omega)
      · exact put r.2 hB.rgt
    · have hl : rs.length = t.2.length := hrs.len
      have hm := ht.many
      exact q (t.1, rs) ⟨rfl, by show rs.length ≤ m; omega, fun r hr => by
        obtain ⟨_, _, _, h⟩ := hrs.mem r hr
        exact h⟩
def sp_l_wider : Spz := fun ws q => ∃ (t : Tab) (c m : Nat), ws = [.bag, .d (tabD t)] ∧ TabC c t.1 m t ∧ 2 ≤ c ∧ m ≤ 100 ∧ ∀ t' : Tab, TabC (c + 10) t.1 m t' → q (.d (tabD t'))
theorem ok_l_wider (M : Mgz mg) (Dd : Vq.D1 K mg "_law_wider" s_l_wider ["_law_bag_here", "_law_table_here"]) (c_l_some : ZCal P w K mg base 2 "_law_some" sp_l_some) (c_l_take : ZCal P w K mg base 1 "_law_take" sp_l_take) : ZCal P w K mg base 3 "_law_wider" sp_l_wider := by
  refine zcal false Dd sc_l_wider (fun ws q h => ?_) fun f cdv A outer s H E hG hr => ⟨_, (zb_cons (zs_set (i := 2) sc_l_wider.nd rfl (.inl rfl) (z_ty t_list (by rfl) M.list (by decide +kernel) (za_cons (z_ix (zv 1) zint) za_nil)))
      (zb_cons (zs_if (zt_eqD (Room.units hr) (zv 2) (zfz (z_lst za_nil)) (nomark _)) (zb_one (zs_ret (zv 1))) zb_nil)
      (zb_cons (zs_set (i := 3) sc_l_wider.nd rfl (.inl rfl) (z_call hG c_l_take hr (by decide) rfl (za_cons (zv 0) (za_cons (z_b b_len (by rfl) M.len (by decide +kernel) (za_cons (zv 2) za_nil)) za_nil))))
      (zb_cons (zs_asg (z_ix (zv 2) (zv 3)) (zg_tup rfl (zgs_cons (zg_name (i := 4) sc_l_wider.nd rfl (.inl rfl)) (zgs_cons (zg_name (i := 5) sc_l_wider.nd rfl (.inl rfl)) zgs_nil))))
      (zb_cons (zs_if (zt_w (zw_or (zt_eqD (Room.units hr) (zv 4) (z_tup za_nil) (nomark _)) (zw_or1 (zt_eq (z_call hG c_l_take hr (by decide) rfl (za_cons (zv 0) (za_cons zint za_nil))) zint (nomark _))))) (zb_one (zs_ret (z_tup (za_cons (z_ix (zv 1) zint) (za_cons (z_ty t_tuple (by rfl) M.tuple (by decide +kernel) (za_cons (zfz (z_cat (zfz (z_slL (zv 2) zo_none (zo_some (zv 3)))) (zfz (z_slL (zv 2) (zo_some (z_add (zv 3) zint)) zo_none)))) za_nil)) za_nil))))) zb_nil)
      (zb_cons (zs_set (i := 6) sc_l_wider.nd rfl (.inl rfl) (z_call hG c_l_take hr (by decide) rfl (za_cons (zv 0) (za_cons (z_b b_len (by rfl) M.len (by decide +kernel) (za_cons (zv 4) za_nil)) za_nil))))
      (zb_cut (zs_asg (z_ix (zv 4) (zv 6)) (zg_tup rfl (zgs_cons (zg_name (i := 7) sc_l_wider.nd rfl (.inl rfl)) (zgs_cons (zg_name (i := 8) sc_l_wider.nd rfl (.inl rfl)) (zgs_cons (zg_name (i := 9) sc_l_wider.nd rfl (.inl rfl)) zgs_nil)))))
      (zb_cons (zs_set (i := 10) sc_l_wider.nd rfl (.inl rfl) (z_lst (za_cons (z_tup (za_cons (zv 7) (za_cons (zv 8) (za_cons znon za_nil)))) (za_cons (z_tup (za_cons (zv 7) (za_cons (z_sub (zv 8) zint) (za_cons (zv 9) za_nil)))) za_nil))))
      (zb_cons (zs_hotL (i := 10) m_append (fun h => ps_expr (pe_bm PySem.F.plainAttrs_list PySem.F.slot_list_append PySem.F.type_list_append mt_append (pv 10) h)) (za_cons (z_tup (za_cons (zv 7) (za_cons (zv 8) (za_cons (z_if (zt_isN (zv 9) znon (nomark _)) (z_add (zv 8) zint) (z_add (zv 9) zint)) za_nil)))) za_nil))
      (zb_cons (zs_frz 10 (zs_setL (j := 2) (z_tup (za_cons (z_catT (z_catT (z_slT (fun _ => sl_tupA) (zv 4) zo_none (zo_some (zv 6))) (z_tup (za_cons (z_call hG c_l_some hr (by decide) rfl (za_cons (zv 0) (za_cons (zv 10) za_nil))) za_nil))) (z_slT (fun _ => sl_tupA) (zv 4) (zo_some (z_add (zv 6) zint)) zo_none)) (za_cons (zv 5) za_nil))) (zv 3) (fun h k => ps_asg h (pg_sub (pv 2) k set_list))))
      (zb_one (zs_ret (z_tup (za_cons (z_ix (zv 1) zint) (za_cons (z_ty t_tuple (by rfl) M.tuple (by decide +kernel) (za_cons (zv 2) za_nil)) za_nil))))))))))))))), fun ws Q0 h => ?_⟩
  · obtain ⟨t, c, m, rfl, _⟩ := h
    rfl
  · obtain ⟨t, c, m, rfl, ht, hc, hm1, q⟩ := h
    have hm := ht.many
    refine ⟨(Sh.lst (k := 3) (sh_map fun r => sh_row r)).shp (by decide), (Sh.lst (k := 0) (fun x hx => by cases hx)).shp (by decide), ?_⟩
    rw [eqv_nil, List.isEmpty_map, Bool.false_xor]
    cases he : t.2.isEmpty with
    | true => exact q t (ht.mono (by omega) (Nat.le_refl _))
    | false =>
      have hpos : 0 < t.2.length := by
        cases h2 : t.2 with
        | nil => rw [h2] at he; cases he
        | cons a l => exact Nat.succ_pos _
      have ell : ((t.2.map rowD).length : Int) = (t.2.length : Int) := by rw [List.length_map]
      refine ⟨((t.2.map rowD).length : Int), rfl, by omega, by rw [ell]; omega, fun e e1 e2 => ?_⟩
      rw [ell] at e2
      obtain ⟨at', rfl⟩ := Int.eq_ofNat_of_zero_le e1
      have hat : at' < t.2.length := by omega
      have hr : t.2[at']? = some t.2[at'] := List.getElem?_eq_getElem hat
      generalize t.2[at'] = r at hr
      obtain ⟨sd, rg⟩ := r
      have hB := ht.rows _ (List.mem_of_getElem? hr)
      show (match L2.atI (t.2.map rowD) ((at' : Nat) : Int) with
        | some d => _
        | none => False)
      rw [row_at hr]
      have out1 : TabC (c + 10) t.1 m (t.1, t.2.take at' ++ t.2.drop (at' + 1)) := ⟨rfl, by
        show (t.2.take at' ++ t.2.drop (at' + 1)).length ≤ m
        rw [List.length_append, List.length_take, List.length_drop]
        omega, fun r hr => by
        rcases List.mem_append.mp hr with z | z
        · exact (ht.rows r (List.mem_of_mem_take z)).mono (by omega)
        · exact (ht.rows r (List.mem_of_mem_drop z)).mono (by omega)⟩
      have fin1 := q _ out1
      have ec : (cutD (t.2.map rowD) none (some (at' : Int)) ++ cutD (t.2.map rowD) (some ((at' : Int) + 1)) none) = (t.2.take at' ++ t.2.drop (at' + 1)).map rowD := by
        have : ((at' : Nat) : Int) + 1 = ((at' + 1 : Nat) : Int) := by omega
        rw [this, cutL_to, cutL_from, List.map_append]
      have l1 := cutD_len (t.2.map rowD) none (some (at' : Int))
      have l2 := cutD_len (t.2.map rowD) (some ((at' : Int) + 1)) none
      rw [List.length_map] at l1 l2
      have fin1 : Q0 (.d (.tuple [.int (t.1 : Nat), .tuple ((t.2.take at' ++ t.2.drop (at' + 1)).map rowD)])) := fin1
      rw [← ec] at fin1
      refine ⟨(Sh.tup (k := 1) (sh_map fun s => sh_side s)).shp (by decide), (Sh.tup (k := 0) (fun x hx => by cases hx)).shp (by decide), ?_⟩
      rw [eqv_nilT, List.isEmpty_map, Bool.false_xor]
      cases hs : sd.isEmpty with
      | true => exact ⟨by rw [sizeLine_eq]; omega, fin1⟩
      | false =>
        refine ⟨3, rfl, by decide, by decide, fun j j1 j2 => ?_⟩
        show (if decide (j = 0) = true then _ else _)
        by_cases c0 : j = 0
        · rw [if_pos (decide_eq_true c0)]
          exact ⟨by rw [sizeLine_eq]; omega, fin1⟩
        rw [if_neg (by rw [decide_eq_false c0]; decide)]
        have hsl : sd.length ≤ 8 := hB.len
        have hsp : 0 < sd.length := by
          cases sd with
          | nil => cases hs
          | cons a l => exact Nat.succ_pos _
        have ell2 : ((sd.map sideD).length : Int) = (sd.length : Int) := by rw [List.length_map]
        refine ⟨((sd.map sideD).length : Int), rfl, by omega, by rw [ell2]; omega, fun e e1 e2 => ?_⟩
        rw [ell2] at e2
        obtain ⟨pl, rfl⟩ := Int.eq_ofNat_of_zero_le e1
        have hpl : pl < sd.length := by omega
        have hsr : sd[pl]? = some sd[pl] := List.getElem?_eq_getElem hpl
        generalize sd[pl] = s at hsr
        obtain ⟨u, l0, g0⟩ := s
        have hS := hB.sides _ (List.mem_of_getElem? hsr)
        have hSat : L2.atI (sd.map sideD) ((pl : Nat) : Int) = some (sideD (u, l0, g0)) := atI_nat (by rw [List.getElem?_map, hsr]; rfl)
        obtain ⟨hu, hbd⟩ := hS
        have hu : u < t.1 := hu
        have hb1 : l0.natAbs ≤ c := hbd.2.1
        have set : ∀ b : Bd, BdC (c + 10) b → TabC (c + 10) t.1 m (t.1, t.2.set at' (sd.take pl ++ [(u, b)] ++ sd.drop (pl + 1), rg)) := fun b hb => ⟨rfl, by
          show (t.2.set at' _).length ≤ m
          rw [List.length_set]
          exact hm, fun r hr => by
          rcases List.mem_or_eq_of_mem_set hr with z | z
          · exact (ht.rows r z).mono (by omega)
          · rw [z]
            refine ⟨fun s hs => ?_, ?_, fun b hb => (hB.rgt b hb).mono (by omega)⟩
            · have old : ∀ s ∈ sd, SideC (c + 10) t.1 s := fun s hs => ⟨(hB.sides s hs).1, (hB.sides s hs).2.mono (by omega)⟩
              rcases List.mem_append.mp hs with z | z
              · rcases List.mem_append.mp z with z | z
                · exact old s (List.mem_of_mem_take z)
                · rw [List.mem_singleton.mp z]
                  exact ⟨hu, hb⟩
              · exact old s (List.mem_of_mem_drop z)
            · show (sd.take pl ++ [(u, b)] ++ sd.drop (pl + 1)).length ≤ 8
              rw [List.length_append, List.length_append, List.length_take, List.length_drop, List.length_singleton]
              omega⟩
        have ec2 : ∀ b : Bd, (cutD (sd.map sideD) none (some (pl : Int)) ++ [sideD (u, b)]) ++ cutD (sd.map sideD) (some ((pl : Int) + 1)) none = (sd.take pl ++ [(u, b)] ++ sd.drop (pl + 1)).map sideD := fun b => by
          have : ((pl : Nat) : Int) + 1 = ((pl + 1 : Nat) : Int) := by omega
          rw [this, cutL_to, cutL_from, List.map_append, List.map_append]
          rfl
        have l3 := cutD_len (sd.map sideD) none (some (pl : Int))
        have l4 := cutD_len (sd.map sideD) (some ((pl : Int) + 1)) none
        rw [List.length_map] at l3 l4
        have ixr : ixN (t.2.map rowD).length ((at' : Nat) : Int) = some at' := ixN_at (by rw [List.length_map]; exact hat)
        have fin2 : ∀ b : Bd, BdC (c + 10) b → Q0 (.d (.tuple [.int (t.1 : Nat), .tuple ((t.2.map rowD).set at' (.tuple [.tuple ((cutD (sd.map sideD) none (some (pl : Int)) ++ [sideD (u, b)]) ++ cutD (sd.map sideD) (some ((pl : Int) + 1)) none), rgtD rg]))])) := fun b hb => by
          have z := q _ (set b hb)
          have z : Q0 (.d (.tuple [.int (t.1 : Nat), .tuple ((t.2.set at' (sd.take pl ++ [(u, b)] ++ sd.drop (pl + 1), rg)).map rowD)])) := z
          rw [List.map_set] at z
          rw [ec2 b]
          exact z
        have bs : ∀ b1 b2 b3 : Bd, BdC (c + 10) b1 → BdC (c + 10) b2 → BdC (c + 10) b3 → ∀ y ∈ [sideD (u, b1), sideD (u, b2), sideD (u, b3)], ∃ b : Bd, BdC (c + 10) b ∧ y = sideD (u, b) := fun b1 b2 b3 h1 h2 h3 y hy => by
          simp only [List.mem_cons, List.not_mem_nil, or_false] at hy
          rcases hy with rfl | rfl | rfl
          · exact ⟨b1, h1, rfl⟩
          · exact ⟨b2, h2, rfl⟩
          · exact ⟨b3, h3, rfl⟩
        refine ⟨fun δ => δ = ([.w .bag, .w (.d (tabD t)), .hl (t.2.map rowD), .w (.d (.int (at' : Nat))), .w (.d (.tuple (sd.map sideD))), .w (.d (rgtD rg)), .w (.d (.int (pl : Nat))), .w (.d (.int (u : Nat))), .w (.d (.int l0)), .w (.d (ordD g0)), .un] : List Sl), ?_, ?_⟩
        · show (match L2.atI (sd.map sideD) ((pl : Nat) : Int) with
            | some d => _
            | none => False)
          rw [hSat]
          exact rfl
        rintro δ rfl
        cases g0 with
        | none =>
          refine ⟨by rw [sizeLine_eq]; show 2 < 16777216; decide, ?_⟩
          refine ⟨[sideD (u, l0, none), sideD (u, l0 - 1, none), sideD (u, l0, some (l0 + 2))], rfl, Nat.succ_pos _, by show 3 < 2 ^ 20; decide, fun y hy => ?_⟩
          obtain ⟨b, hb, rfl⟩ := bs (l0, none) (l0 - 1, none) (l0, some (l0 + 2)) (bdC_none (by omega)) (bdC_none (by omega)) (bdC_some (by omega) (by omega) (by omega)) y hy
          refine ⟨by rw [sizeLine_eq]; show (cutD (sd.map sideD) none (some (pl : Int))).length + 1 ≤ _; omega, ?_⟩
          refine ⟨by rw [List.length_append, sizeLine_eq]; show (cutD (sd.map sideD) none (some (pl : Int))).length + 1 + (cutD (sd.map sideD) (some ((pl : Int) + 1)) none).length ≤ _; omega, ?_⟩
          conv => whnf
          rw [ixr]
          exact fin2 b hb
        | some g =>
          have hg1 : l0 ≤ g := hbd.1 g rfl
          have hg2 : g.natAbs ≤ c + 10 := hbd.2.2 g rfl
          refine ⟨by rw [sizeLine_eq]; show 2 < 16777216; decide, ?_⟩
          refine ⟨[sideD (u, l0, none), sideD (u, l0 - 1, some g), sideD (u, l0, some (g + 1))], rfl, Nat.succ_pos _, by show 3 < 2 ^ 20; decide, fun y hy => ?_⟩
          obtain ⟨b, hb, rfl⟩ := bs (l0, none) (l0 - 1, some g) (l0, some (g + 1)) (bdC_none (by omega)) (bdC_some (by omega) (by omega) (by omega)) (bdC_some (by omega) (by omega) (by omega)) y hy
          refine ⟨by rw [sizeLine_eq]; show (cutD (sd.map sideD) none (some (pl : Int))).length + 1 ≤ _; omega, ?_⟩
          refine ⟨by rw [List.length_append, sizeLine_eq]; show (cutD (sd.map sideD) none (some (pl : Int))).length + 1 + (cutD (sd.map sideD) (some ((pl : Int) + 1)) none).length ≤ _; omega, ?_⟩
          conv => whnf
          rw [ixr]
          exact fin2 b hb
def sp_l_is_told : Spz := fun ws q => ∃ (t : Tab) (c m : Nat), ws = [.d (tabD t)] ∧ TabC c t.1 m t ∧ c ≤ 400 ∧ m ≤ 20 ∧ t.1 ≤ 9 ∧ q (.d (.bool true))
theorem ok_l_is_told (M : Mgz mg) (Dd : Vq.D1 K mg "_law_is_told" s_l_is_told ["_law_table_here"]) (c_l_alike : ZCal P w K mg base 1 "_law_alike" sp_l_alike) (c_l_are_orders : ZCal P w K mg base 3 "_law_are_orders" sp_l_are_orders) (c_l_bare : ZCal P w K mg base 1 "_law_bare" sp_l_bare) (c_l_barred_unknowns : ZCal P w K mg base 8 "_law_barred_unknowns" sp_l_barred_unknowns) (c_l_do_stand : ZCal P w K mg base 7 "_law_do_stand" sp_l_do_stand) (c_barred_unknowns : ZCal P w K mg base 8 "barred_unknowns" sp_barred_unknowns) (c_is_silent : ZCal P w K mg base 9 "is_silent" sp_is_silent) (c_loud_orders : ZCal P w K mg base 8 "loud_orders" sp_loud_orders) : ZCal P w K mg base 10 "_law_is_told" sp_l_is_told := by
  refine zcal false Dd sc_l_is_told (fun ws q h => ?_) fun f cdv A outer s H E hG hr => ⟨_, (zb_cons (zs_par3 (i := 1) (j := 2) (k := 3) (ps_par3 rfl sc_l_is_told.nd rfl rfl rfl (by decide) (by decide) (by decide) rfl rfl rfl (zn_cons (z_b (b_reprV hG (Room.units hr)) (by rfl) M.repr (by decide +kernel) (za_cons (zv 0) za_nil)) (zn_cons (z_call hG c_l_barred_unknowns hr (by decide) rfl (za_cons (zv 0) za_nil)) (zn_cons (z_call hG c_loud_orders hr (by decide) rfl (za_cons (zv 0) za_nil)) zn_nil))) (by rfl)))
      (zb_cut (zs_set (i := 4) sc_l_is_told.nd rfl (.inl rfl) (z_eq (z_b b_len (by rfl) M.len (by decide +kernel) (za_cons (zv 2) za_nil)) (z_ix (zv 0) zint) (nomark _)))
      (zb_cons (zs_if (zt_w (zw_or (zt_not (zt_val (z_call hG c_l_alike hr (by decide) rfl (za_cons (zfz (z_lst (za_cons (z_call hG c_is_silent hr (by decide) rfl (za_cons (zv 0) za_nil)) (za_cons (z_call hG c_barred_unknowns hr (by decide) rfl (za_cons (zv 0) za_nil)) za_nil)))) (za_cons (zfz (z_lst (za_cons (zv 4) (za_cons (zv 2) za_nil)))) za_nil))))) (zw_or1 (zt_ne (z_isN (zv 3) znon (nomark _)) (zv 4) (nomark _))))) (zb_one (zs_ret zbl)) zb_nil)
      (zb_cons (zs_if (zt_notN (zv 3) znon (nomark _)) (zb_one (zs_if (zt_w (zw_or (zt_not (zt_val (z_call hG c_l_are_orders hr (by decide) rfl (za_cons (zv 0) (za_cons (zv 3) za_nil))))) (zw_or (zt_eqD (Room.units hr) (zv 3) (z_repT (z_tup (za_cons znon za_nil)) (z_ix (zv 0) zint)) (nomark _)) (zw_or1 (zt_not (zt_val (z_call hG c_l_do_stand hr (by decide) rfl (za_cons (z_call hG c_l_bare hr (by decide) rfl (za_cons (zv 0) za_nil)) (za_cons (zv 3) za_nil))))))))) (zb_one (zs_ret zbl)) zb_nil)) zb_nil)
      (zb_one (zs_ret (z_and (z_call hG c_l_alike hr (by decide) rfl (za_cons (z_call hG c_loud_orders hr (by decide) rfl (za_cons (zv 0) za_nil)) (za_cons (zv 3) za_nil))) (z_one (z_eq (z_b (b_reprV hG (Room.units hr)) (by rfl) M.repr (by decide +kernel) (za_cons (zv 0) za_nil)) (zv 1) (nomark _)))))))))), fun ws Q0 h => ?_⟩
  · obtain ⟨t, c, m, rfl, _⟩ := h
    rfl
  · obtain ⟨t, c, m, rfl, ht, hc, hm, hn, q⟩ := h
    have hmany := ht.many
    have hok := ht.ok (by omega) (by omega)
    have hv : SysV (sysT (bareT t)) := sysC_v (bareC ht) hn (by omega) (by omega)
    have hsil : SilIn t := ⟨by omega, by omega, hv.sysIn⟩
    have gT : ∃ k n, Gx k n (tabD t) ∧ k ≤ 60 ∧ n ≤ 20000 := ⟨5, _, .g (gd_tabC (by omega) ht (by omega)), by decide, by omega⟩
    obtain ⟨b, hb⟩ : ∃ b : Bool, b = decide ((barU t).length = t.1) := ⟨_, rfl⟩
    have hlb : (loudO t).isNone = b := by
      rw [hb]
      have z := loud_none hv.sysIn
      cases h : loudO t with
      | none => rw [decide_eq_true (z.mp h)]; rfl
      | some p => rw [decide_eq_false (fun y => by rw [z.mpr y] at h; cases h)]; rfl
    have edue : decide ((((barU t).map fun (i : Nat) => PyData.int (i : Nat)).length : Int) = ((t.1 : Nat) : Int)) = b := by
      rw [hb, List.length_map]
      exact decide_eq_decide.mpr (by omega)
    have hul : (barU t).length ≤ t.1 := by
      unfold barU nons
      have := List.length_filter_le (fun i => (ord (lpT t) i).isNone) (List.range t.1)
      rw [List.length_range] at this
      exact this
    have hui : ∀ i ∈ barU t, i < t.1 := fun i hi => by
      unfold barU nons at hi
      exact List.mem_range.mp (List.mem_filter.mp hi).1
    have shB : Sh 2 (.list [.bool b, natsT (barU t)]) := sh_pair (k := 1) (.bl 1 _) (.tup (sh_map fun i => .int 0 _))
    have gdB : Vq.Gd 2 (0 + 1 + ((0 + 1) * (barU t).length + 1 + 0)) (.list [.bool b, natsT (barU t)]) := .lst (.cons (.bl 1 0 b) (.cons (.tup (gdA_map fun i hi => by
      have := hui i hi
      exact gd_int' (by omega) 0 0)) (.nil 1 0)))
    refine ⟨gT, trivial, fun S hS => ?_⟩
    refine ⟨t, rfl, hok, hv, ?_⟩
    refine ⟨t, rfl, hsil, ?_⟩
    refine ⟨fun δ => δ = ([.w (.d (tabD t)), .w (.d (.str S)), .w (.d (natsT (barU t))), .w (.d (plO (loudO t))), .w (.d (.bool b))] : List Sl), ?_, ?_⟩
    · rw [← edue]
      exact rfl
    rintro δ rfl
    refine ⟨t, rfl, hsil, ?_⟩
    refine ⟨t, rfl, hsil, ?_⟩
    rw [hlb]
    refine ⟨.list [.bool b, natsT (barU t)], 2, _, rfl, rfl, shB, gdB, by decide, by omega, ?_⟩
    cases hlo : loudO t with
    | none =>
      have hb1 : b = true := by rw [← hlb, hlo]; rfl
      subst hb1
      refine ⟨t, rfl, hsil, ?_⟩
      rw [hlo]
      refine ⟨.none, 0, 0, rfl, rfl, .non 0, .non 0 0, by decide, by decide, ?_⟩
      refine ⟨gT, trivial, fun S2 hS2 => ?_⟩
      have e6 : S2 = S := hS2.trans hS.symm
      subst e6
      show Q0 (.d (.bool (decide (S2 = S2))))
      rw [decide_eq_true rfl]
      exact q
    | some p =>
      have hb1 : b = false := by rw [← hlb, hlo]; rfl
      subst hb1
      have hp : p = loudP t ∧ ¬ loudP t = List.replicate t.1 none := by
        unfold loudO at hlo
        split at hlo
        · cases hlo
        · cases hlo
          exact ⟨rfl, by assumption⟩
      obtain ⟨rfl, hne⟩ := hp
      have hpl := loudP_len hv.sysIn
      refine ⟨t, loudP t, rfl, hpl, ?_⟩
      refine ⟨⟨by simp, by omega, by omega, by decide⟩, ?_⟩
      have er := nones_d t.1
      have s2 : Shp (.tuple (List.replicate t.1 [PyData.none]).flatten) := by rw [er]; exact (sh_pl true _).shp (by decide)
      have e3 : PyData.eqv (plO (some (loudP t))) (.tuple (List.replicate t.1 [PyData.none]).flatten) = false := by
        rw [er]
        exact (eqv_pl_dec (loudP t) (List.replicate t.1 none)).trans (decide_eq_false hne)
      refine ⟨(sh_pl true _).shp (by decide), s2, ?_⟩
      rw [Int.toNat_natCast, e3, Bool.false_xor]
      refine ⟨t, rfl, ?_⟩
      refine ⟨bareT t, loudP t, rfl, bareOk hok, hpl, ?_⟩
      have hk : keepsM (sysT (bareT t)) (loudP t ++ [some 0]) = true := by
        rw [loudP_right hv.sysIn]
        exact (lp_lf hv.sysIn).keeps
      rw [hk]
      refine ⟨t, rfl, hsil, ?_⟩
      rw [hlo]
      have hpb : PlB 12000 (loudP t) := loudP_b hv
      refine ⟨plD true (loudP t), 1, _, rfl, rfl, sh_pl true _, gd_pl hpb (by decide) 0, by decide, by omega, ?_⟩
      refine ⟨gT, trivial, fun S2 hS2 => ?_⟩
      have e6 : S2 = S := hS2.trans hS.symm
      subst e6
      show Q0 (.d (.bool (decide (S2 = S2))))
      rw [decide_eq_true rfl]
      exact q
end
end Zl
end
section
set_option maxHeartbeats 4000000
set_option exponentiation.threshold 3000
namespace Zl
open PySem PySem.Spec PyProof.Rows L2
def lawS (a2 a3 a4 a5 a6 : Sl) : List Sl := [.un, .w .bag, a2, a3, a4, a5, a6]
section
variable {P : Program} {w : World} {K : PySem.W.Frag} {mg : Str → Option Value} {base : Heap}
def sp_law (K : PySem.W.Frag) : Sp := fun vs H Q _ => ∃ (a : Addr) (ns : List Int), vs = [.ref a] ∧ SqL K H a (ns.map V.int) ∧ ns.length ≤ 63 ∧ ∀ H', Q (.bl true) H'
theorem ok_law {f : Addr} {fd : FuncData} (M : Mgz mg) (F : L2.Fun K "law" "law" s_law f fd) (c_l_bag : C8.Cal P w K mg base (1) "_law_bag" (sp_bag K) [])
    (c_l_is_told : ZCal P w K mg base 10 "_law_is_told" sp_l_is_told) (c_l_silent_table : ZCal P w K mg base 6 "_law_silent_table" sp_l_silent_table) (c_l_some : ZCal P w K mg base 2 "_law_some" sp_l_some) (c_l_table : ZCal P w K mg base 20 "_law_table" sp_l_table) (c_l_take : ZCal P w K mg base 1 "_law_take" sp_l_take) (c_l_turned : ZCal P w K mg base 3 "_law_turned" sp_l_turned) (c_l_wider : ZCal P w K mg base 3 "_law_wider" sp_l_wider) : Vq.GFn P w K mg base (21) f fd ["_law_script"] (sp_law K) := by
  refine Vq.gfn_of F sc_law (fun vs H Q E h => ?_) fun cdv A outer s H vs Q E hG hr h => ?_
  · obtain ⟨a, ns, rfl, _⟩ := h
    rfl
  · obtain ⟨a, ns, rfl, hS, hlen, q⟩ := h
    refine ⟨_, pss_cons (ps_set (i := 1) sc_law.nd rfl (.inl rfl) (C8.pe_c c_l_bag hr (by decide) rfl (pa_cons (pv 0) pa_nil))) (zb_cons (zs_for PassesOwn.never rfl (zi_range1 rfl M.range (za_cons zint za_nil)) (zg_name (i := 2) sc_law.nd rfl (.inl rfl)) (zb_cons (zs_set (i := 3) sc_law.nd rfl (.inl rfl) (z_call hG c_l_some hr (by decide) rfl (za_cons (zv 1) (za_cons (zfz (z_lst (za_cons zint (za_cons zint (za_cons zint (za_cons zint (za_cons zint (za_cons zint za_nil)))))))) za_nil))))
      (zb_cons (zs_set (i := 4) sc_law.nd rfl (.inl rfl) (z_call hG c_l_some hr (by decide) rfl (za_cons (zv 1) (za_cons (zfz (z_lst (za_cons (z_call hG c_l_silent_table hr (by decide) rfl (za_cons (zv 1) (za_cons (zv 3) (za_cons (z_eq (z_call hG c_l_take hr (by decide) rfl (za_cons (zv 1) (za_cons zint za_nil))) zint (nomark _)) za_nil)))) (za_cons (z_call hG c_l_table hr (by decide) rfl (za_cons (zv 1) (za_cons zint (za_cons zint za_nil)))) za_nil)))) za_nil))))
      (zb_cons (zs_set (i := 5) sc_law.nd rfl (.inl rfl) (z_call hG c_l_wider hr (by decide) rfl (za_cons (zv 1) (za_cons (zv 4) za_nil))))
      (zb_one (zs_for PassesOwn.never rfl (zi_seq (z_tup (za_cons (zv 4) (za_cons (zv 5) (za_cons (z_call hG c_l_turned hr (by decide) rfl (za_cons (zv 1) (za_cons (zv 5) za_nil))) za_nil))))) (zg_name (i := 6) sc_law.nd rfl (.inl rfl)) (zb_one (zs_if (zt_not (zt_val (z_call hG c_l_is_told hr (by decide) rfl (za_cons (zv 6) za_nil)))) (zb_one (zs_ret zbl)) zb_nil))))))))
      (zb_one (zs_ret zbl))), ?_⟩
    refine ⟨_, rfl, a, ns, rfl, hS, hlen, fun g r H1 s1 ng B1 => ?_⟩
    have rg : ∃ o, H1 r = some o ∧ r ≠ g := lawBag B1
    obtain ⟨ro, hro, hrg⟩ := rg
    refine ⟨⟨H1, fun b => if b = r then H1 r else none, some g, r, []⟩, fun b => if b = r then H1 r else none, lawS .un .un .un .un .un, ⟨fun _ => False, fun w => w = .d (.bool true), fun _ => False, fun _ => False⟩, ?_, ?_, ?_⟩
    · refine lawRW B1 hro hrg rfl fun i s e => ?_
      match i, e with
      | 0, e => cases e; exact .inl rfl
      | 1, e => cases e; exact .inr ⟨rfl, rfl⟩
      | i + 2, e =>
        have e : (List.replicate 5 Sl.un)[i]? = some s := e
        exact .inl (List.eq_of_mem_replicate (List.mem_of_getElem? e))
    · refine ⟨⟨by decide, by decide⟩, ?_⟩
      show zLoop _ _ _ (rngD 0 6) _
      rw [rngD0]
      refine zLoop_inv (fun (i : Nat) => PyData.int (i : Nat)) (fun _ δ => ∃ a2 a3 a4 a5 a6 : Sl, δ = lawS a2 a3 a4 a5 a6) (fun x xs δ h k hk => ?_) (fun δ h => ?_) (List.range 6) _ ⟨_, _, _, _, _, rfl⟩
      · obtain ⟨a2, a3, a4, a5, a6, rfl⟩ := h
        refine ⟨([3, 2, 6, 4, 1, 0] : List Nat).map fun (i : Nat) => .int i, rfl, by decide, by decide, fun y hy => ?_⟩
        obtain ⟨n, hn, rfl⟩ := List.mem_map.mp hy
        have hn6 := (by decide : ∀ d ∈ ([3, 2, 6, 4, 1, 0] : List Nat), d ≤ 6) n hn
        clear hy hn
        refine ⟨2, rfl, by decide, by decide, fun j j1 j2 => ?_⟩
        refine ⟨n, decide (j = 0), rfl, by omega, fun t1 ht1 => ?_⟩
        refine ⟨6, 8, rfl, by decide, by decide, fun k2 t2 hk2 ht2 => ?_⟩
        refine ⟨[tabD t1, tabD t2], rfl, Nat.succ_pos _, by show 2 < 2 ^ 20; decide, fun y hy => ?_⟩
        have e1 := ht1.ev
        have e2 := ht2.ev
        obtain ⟨t, ht, hn, rfl⟩ : ∃ t : Tab, TabC 300 t.1 10 t ∧ t.1 ≤ 6 ∧ y = tabD t := by
          simp only [List.mem_cons, List.not_mem_nil, or_false] at hy
          rcases hy with rfl | rfl
          · exact ⟨t1, by rw [e1]; exact ht1.c, by omega, rfl⟩
          · exact ⟨t2, by rw [e2]; exact ht2.c, by omega, rfl⟩
        clear hy
        refine ⟨t, 300, 10, rfl, ht, by decide, by decide, fun t' ht' => ?_⟩
        have e3 := ht'.ev
        have ht' : TabC 310 t'.1 10 t' := by rw [e3]; exact ht'
        refine ⟨t', 310, 10, rfl, ht', by decide, fun t3 ht3 => ?_⟩
        have e4 := ht3.ev
        have ht3 : TabC 310 t3.1 10 t3 := by rw [e4]; exact ht3
        dsimp only [zNil, held, rTupW, szOk, dsW, List.drop]
        show zLoop _ _ _ ([t, t', t3].map tabD) _
        refine zLoop_inv tabD (fun zs δ => (∀ z ∈ zs, TabC 310 z.1 10 z ∧ z.1 ≤ 6) ∧ ∃ a6 : Sl, δ = lawS (.w (.d (.int (x : Nat)))) (.w (.d (.int (n : Nat)))) (.w (.d (tabD t))) (.w (.d (tabD t'))) a6) (fun z zs δ h k3 hk3 => ?_) (fun δ h => ?_) [t, t', t3] _ ⟨fun z hz => ?_, _, rfl⟩
        · obtain ⟨hall, a6, rfl⟩ := h
          obtain ⟨hz, hzn⟩ := hall z List.mem_cons_self
          exact ⟨z, 310, 10, rfl, hz, by decide, by decide, by omega, hk3 _ ⟨fun y hy => hall y (List.mem_cons_of_mem _ hy), _, rfl⟩⟩
        · obtain ⟨_, a6, rfl⟩ := h
          exact hk _ ⟨_, _, _, _, _, rfl⟩
        · simp only [List.mem_cons, List.not_mem_nil, or_false] at hz
          rcases hz with rfl | rfl | rfl
          · exact ⟨ht.mono (by decide) (Nat.le_refl _), hn⟩
          · exact ⟨ht', by omega⟩
          · exact ⟨ht3, by omega⟩
      · exact rfl
    · refine ⟨fun _ _ _ _ _ _ z => z.elim, fun Hc' H' σ' δ' v w l R rv z => ?_, fun _ _ _ _ _ _ z => z.elim, fun _ _ _ _ _ _ z => z.elim⟩
      cases z
      rw [rv.bool]
      exact q H'
end
end Zl
end
section
set_option maxHeartbeats 4000000
set_option exponentiation.threshold 20000
namespace Zl
open PySem PySem.Spec PyProof.Rows L2
/-! ### the program's top -/
structure Ft (K : PySem.W.Frag) (x : Str) (st : Stmt) : Prop where
  ex : ∃ (f : Addr) (oc : Value) (od an : Option Addr) (osl : Array (Option Value)) (kV doc pm cdv ct : Value), PySem.W.nsIn K mainGlobals x = some (some (.ref f)) ∧
    K.lookup f = some ⟨oc, od, .func (PySem.W.fnOf x x (defArgs st) (defBody st) (defScope st) .none kV doc pm an cdv ct), osl⟩ ∧ PySem.W.codeIn K cdv x = true ∧ PySem.W.keepIn K (.ref f) = true
theorem ft_mk {K : PySem.W.Frag} {x : Str} {st : Stmt} {f : Addr} {oc : Value} {od an : Option Addr} {osl : Array (Option Value)} {kV doc pm cdv ct : Value} (a : PySem.W.nsIn K mainGlobals x = some (some (.ref f)))
    (l : K.lookup f = some ⟨oc, od, .func (PySem.W.fnOf x x (defArgs st) (defBody st) (defScope st) .none kV doc pm an cdv ct), osl⟩) (c : PySem.W.codeIn K cdv x = true) (k : PySem.W.keepIn K (.ref f) = true) : Ft K x st :=
  ⟨f, oc, od, an, osl, kV, doc, pm, cdv, ct, a, l, c, k⟩
theorem Ft.d1 {K : PySem.W.Frag} {x : Str} {st : Stmt} {h : Heap} {mg : Str → Option Value} {ps : List Str} (F : Ft K x st) (X : K.In h) (G : h.Ns mainGlobals mg)
    (b : ∀ (kV doc pm : Value) (an : Option Addr) (cdv ct : Value) (us : List Value), us.length = ps.length → bindArgs (PySem.W.fnOf x x (defArgs st) (defBody st) (defScope st) .none kV doc pm an cdv ct) ⟨us, []⟩ = pure (ps.zip us)) : Vq.D1 K mg x st ps := by
  obtain ⟨f, oc, od, an, osl, kV, doc, pm, cdv, ct, a, l, c, k⟩ := F.ex
  have Fn := fun_mk (st := st) l c k
  exact ⟨f, _, Fn, PySem.W.mg_of X G a, Fn.binds b⟩
theorem all_mk {P : Program} {w : World} {K : PySem.W.Frag} {h : Heap} {mg : Str → Option Value} {fa : Addr} (X : K.In h) (G : h.Ns mainGlobals mg) (hfa : mg "law" = some (.ref fa))
    (F_later : Ft K "later" s_later)
    (F_not_above : Ft K "not_above" s_not_above)
    (F_least_order : Ft K "least_order" s_least_order)
    (F_earliest_by : Ft K "earliest_by" s_earliest_by)
    (F_least_plan : Ft K "least_plan" s_least_plan)
    (F_least_and_chosen : Ft K "least_and_chosen" s_least_and_chosen)
    (F_waits_not_kept : Ft K "waits_not_kept" s_waits_not_kept)
    (F_plan_by_chosen : Ft K "plan_by_chosen" s_plan_by_chosen)
    (F_barred_events : Ft K "barred_events" s_barred_events)
    (F_low_high : Ft K "low_high" s_low_high)
    (F_high_of : Ft K "high_of" s_high_of)
    (F_without_rights : Ft K "without_rights" s_without_rights)
    (F_system_of : Ft K "system_of" s_system_of)
    (F_waits_of_row : Ft K "waits_of_row" s_waits_of_row)
    (F_bounds_in_row : Ft K "bounds_in_row" s_bounds_in_row)
    (F_silent_system : Ft K "silent_system" s_silent_system)
    (F_is_silent : Ft K "is_silent" s_is_silent)
    (F_loud_orders : Ft K "loud_orders" s_loud_orders)
    (F_barred_unknowns : Ft K "barred_unknowns" s_barred_unknowns)
    (F_l_bag : Ft K "_law_bag" s_l_bag)
    (F_l_take : Ft K "_law_take" s_l_take)
    (F_l_some : Ft K "_law_some" s_l_some)
    (F_l_mixed : Ft K "_law_mixed" s_l_mixed)
    (F_l_alike : Ft K "_law_alike" s_l_alike)
    (F_l_is_int : Ft K "_law_is_int" s_l_is_int)
    (F_l_later : Ft K "_law_later" s_l_later)
    (F_l_not_above : Ft K "_law_not_above" s_l_not_above)
    (F_l_lesser : Ft K "_law_lesser" s_l_lesser)
    (F_l_least_order : Ft K "_law_least_order" s_l_least_order)
    (F_l_first : Ft K "_law_first" s_l_first)
    (F_l_is_kept : Ft K "_law_is_kept" s_l_is_kept)
    (F_l_keeps : Ft K "_law_keeps" s_l_keeps)
    (F_l_delays : Ft K "_law_delays" s_l_delays)
    (F_l_least_plan : Ft K "_law_least_plan" s_l_least_plan)
    (F_l_barred : Ft K "_law_barred" s_l_barred)
    (F_l_drawn_plan : Ft K "_law_drawn_plan" s_l_drawn_plan)
    (F_l_bounds : Ft K "_law_bounds" s_l_bounds)
    (F_l_any_side : Ft K "_law_any_side" s_l_any_side)
    (F_l_any_row : Ft K "_law_any_row" s_l_any_row)
    (F_l_any_table : Ft K "_law_any_table" s_l_any_table)
    (F_l_low_high : Ft K "_law_low_high" s_l_low_high)
    (F_l_row_bounds : Ft K "_law_row_bounds" s_l_row_bounds)
    (F_l_system_of : Ft K "_law_system_of" s_l_system_of)
    (F_l_do_stand : Ft K "_law_do_stand" s_l_do_stand)
    (F_l_met_row : Ft K "_law_met_row" s_l_met_row)
    (F_l_standing_table : Ft K "_law_standing_table" s_l_standing_table)
    (F_l_own_sides : Ft K "_law_own_sides" s_l_own_sides)
    (F_l_silent_rows : Ft K "_law_silent_rows" s_l_silent_rows)
    (F_l_silent_table : Ft K "_law_silent_table" s_l_silent_table)
    (F_l_table : Ft K "_law_table" s_l_table)
    (F_l_is_order : Ft K "_law_is_order" s_l_is_order)
    (F_l_are_orders : Ft K "_law_are_orders" s_l_are_orders)
    (F_l_bare : Ft K "_law_bare" s_l_bare)
    (F_l_barred_unknowns : Ft K "_law_barred_unknowns" s_l_barred_unknowns)
    (F_l_turned : Ft K "_law_turned" s_l_turned)
    (F_l_wider : Ft K "_law_wider" s_l_wider)
    (F_l_is_told : Ft K "_law_is_told" s_l_is_told)
    (F_law : Ft K "law" s_law)
    (z_abs : PySem.W.nsIn K mainGlobals "abs" = some none) (z_int : PySem.W.nsIn K mainGlobals "int" = some none) (z_len : PySem.W.nsIn K mainGlobals "len" = some none) (z_min : PySem.W.nsIn K mainGlobals "min" = some none) (z_max : PySem.W.nsIn K mainGlobals "max" = some none) (z_sum : PySem.W.nsIn K mainGlobals "sum" = some none) (z_all : PySem.W.nsIn K mainGlobals "all" = some none) (z_sorted : PySem.W.nsIn K mainGlobals "sorted" = some none) (z_tuple : PySem.W.nsIn K mainGlobals "tuple" = some none) (z_list : PySem.W.nsIn K mainGlobals "list" = some none) (z_range : PySem.W.nsIn K mainGlobals "range" = some none) (z_zip : PySem.W.nsIn K mainGlobals "zip" = some none) (z_enumerate : PySem.W.nsIn K mainGlobals "enumerate" = some none) (z_repr : PySem.W.nsIn K mainGlobals "repr" = some none) (z_isinstance : PySem.W.nsIn K mainGlobals "isinstance" = some none) (z_bool : PySem.W.nsIn K mainGlobals "bool" = some none) (z_dict : PySem.W.nsIn K mainGlobals "dict" = some none) (z_str : PySem.W.nsIn K mainGlobals "str" = some none) (z_any : PySem.W.nsIn K mainGlobals "any" = some none) (z_reversed : PySem.W.nsIn K mainGlobals "reversed" = some none) (z_set : PySem.W.nsIn K mainGlobals "set" = some none) :
    ∃ fd : FuncData, (∀ (s : Shared) (v : Value), BindsTo s fd ⟨[v], []⟩ [("_law_script", v)]) ∧ ∀ base : Heap, K.In base → base.Ns mainGlobals mg → Vq.GFn P w K mg base (21) fa fd ["_law_script"] (sp_law K) := by
  have M : Mgz mg := ⟨PySem.W.mg_none_of X G z_abs, PySem.W.mg_none_of X G z_int, PySem.W.mg_none_of X G z_len, PySem.W.mg_none_of X G z_min, PySem.W.mg_none_of X G z_max, PySem.W.mg_none_of X G z_sum, PySem.W.mg_none_of X G z_all, PySem.W.mg_none_of X G z_sorted, PySem.W.mg_none_of X G z_tuple, PySem.W.mg_none_of X G z_list, PySem.W.mg_none_of X G z_range, PySem.W.mg_none_of X G z_zip, PySem.W.mg_none_of X G z_enumerate, PySem.W.mg_none_of X G z_repr, PySem.W.mg_none_of X G z_isinstance, PySem.W.mg_none_of X G z_bool, PySem.W.mg_none_of X G z_dict, PySem.W.mg_none_of X G z_str, PySem.W.mg_none_of X G z_any, PySem.W.mg_none_of X G z_reversed, PySem.W.mg_none_of X G z_set⟩
  obtain ⟨f, oc, od, an, osl, kV, doc, pm, cdv, ct, a, l, c, k⟩ := F_law.ex
  have e := hfa.symm.trans (PySem.W.mg_of X G a)
  cases e
  refine ⟨PySem.W.fnOf "law" "law" (defArgs s_law) (defBody s_law) (defScope s_law) .none kV doc pm an cdv ct, fun s v => .of_eq rfl, fun base _ _ => ?_⟩
  have D_later : Vq.D1 K mg "later" s_later ["order", "delay"] := F_later.d1 X G fun _ _ _ _ _ _ us hl => match us, hl with | [_, _], _ => rfl
  have D_not_above : Vq.D1 K mg "not_above" s_not_above ["one", "other"] := F_not_above.d1 X G fun _ _ _ _ _ _ us hl => match us, hl with | [_, _], _ => rfl
  have D_least_order : Vq.D1 K mg "least_order" s_least_order ["orders"] := F_least_order.d1 X G fun _ _ _ _ _ _ us hl => match us, hl with | [_], _ => rfl
  have D_earliest_by : Vq.D1 K mg "earliest_by" s_earliest_by ["plan", "wait"] := F_earliest_by.d1 X G fun _ _ _ _ _ _ us hl => match us, hl with | [_, _], _ => rfl
  have D_least_plan : Vq.D1 K mg "least_plan" s_least_plan ["system"] := F_least_plan.d1 X G fun _ _ _ _ _ _ us hl => match us, hl with | [_], _ => rfl
  have D_least_and_chosen : Vq.D1 K mg "least_and_chosen" s_least_and_chosen ["system", "floors"] := F_least_and_chosen.d1 X G fun _ _ _ _ _ _ us hl => match us, hl with | [_, _], _ => rfl
  have D_waits_not_kept : Vq.D1 K mg "waits_not_kept" s_waits_not_kept ["system", "plan"] := F_waits_not_kept.d1 X G fun _ _ _ _ _ _ us hl => match us, hl with | [_, _], _ => rfl
  have D_plan_by_chosen : Vq.D1 K mg "plan_by_chosen" s_plan_by_chosen ["system", "floors", "chosen"] := F_plan_by_chosen.d1 X G fun _ _ _ _ _ _ us hl => match us, hl with | [_, _, _], _ => rfl
  have D_barred_events : Vq.D1 K mg "barred_events" s_barred_events ["system"] := F_barred_events.d1 X G fun _ _ _ _ _ _ us hl => match us, hl with | [_], _ => rfl
  have D_low_high : Vq.D1 K mg "low_high" s_low_high ["table", "row", "unknown"] := F_low_high.d1 X G fun _ _ _ _ _ _ us hl => match us, hl with | [_, _, _], _ => rfl
  have D_high_of : Vq.D1 K mg "high_of" s_high_of ["bounds"] := F_high_of.d1 X G fun _ _ _ _ _ _ us hl => match us, hl with | [_], _ => rfl
  have D_without_rights : Vq.D1 K mg "without_rights" s_without_rights ["table"] := F_without_rights.d1 X G fun _ _ _ _ _ _ us hl => match us, hl with | [_], _ => rfl
  have D_system_of : Vq.D1 K mg "system_of" s_system_of ["table"] := F_system_of.d1 X G fun _ _ _ _ _ _ us hl => match us, hl with | [_], _ => rfl
  have D_waits_of_row : Vq.D1 K mg "waits_of_row" s_waits_of_row ["table", "row"] := F_waits_of_row.d1 X G fun _ _ _ _ _ _ us hl => match us, hl with | [_, _], _ => rfl
  have D_bounds_in_row : Vq.D1 K mg "bounds_in_row" s_bounds_in_row ["table", "row"] := F_bounds_in_row.d1 X G fun _ _ _ _ _ _ us hl => match us, hl with | [_, _], _ => rfl
  have D_silent_system : Vq.D1 K mg "silent_system" s_silent_system ["table"] := F_silent_system.d1 X G fun _ _ _ _ _ _ us hl => match us, hl with | [_], _ => rfl
  have D_is_silent : Vq.D1 K mg "is_silent" s_is_silent ["table"] := F_is_silent.d1 X G fun _ _ _ _ _ _ us hl => match us, hl with | [_], _ => rfl
  have D_loud_orders : Vq.D1 K mg "loud_orders" s_loud_orders ["table"] := F_loud_orders.d1 X G fun _ _ _ _ _ _ us hl => match us, hl with | [_], _ => rfl
  have D_barred_unknowns : Vq.D1 K mg "barred_unknowns" s_barred_unknowns ["table"] := F_barred_unknowns.d1 X G fun _ _ _ _ _ _ us hl => match us, hl with | [_], _ => rfl
  have D_l_bag : Vq.D1 K mg "_law_bag" s_l_bag ["_law_script"] := F_l_bag.d1 X G fun _ _ _ _ _ _ us hl => match us, hl with | [_], _ => rfl
  have D_l_take : Vq.D1 K mg "_law_take" s_l_take ["_law_bag_here", "_law_many"] := F_l_take.d1 X G fun _ _ _ _ _ _ us hl => match us, hl with | [_, _], _ => rfl
  have D_l_some : Vq.D1 K mg "_law_some" s_l_some ["_law_bag_here", "_law_things"] := F_l_some.d1 X G fun _ _ _ _ _ _ us hl => match us, hl with | [_, _], _ => rfl
  have D_l_mixed : Vq.D1 K mg "_law_mixed" s_l_mixed ["_law_bag_here", "_law_things"] := F_l_mixed.d1 X G fun _ _ _ _ _ _ us hl => match us, hl with | [_, _], _ => rfl
  have D_l_alike : Vq.D1 K mg "_law_alike" s_l_alike ["_law_found", "_law_due"] := F_l_alike.d1 X G fun _ _ _ _ _ _ us hl => match us, hl with | [_, _], _ => rfl
  have D_l_is_int : Vq.D1 K mg "_law_is_int" s_l_is_int ["_law_thing"] := F_l_is_int.d1 X G fun _ _ _ _ _ _ us hl => match us, hl with | [_], _ => rfl
  have D_l_later : Vq.D1 K mg "_law_later" s_l_later ["_law_order", "_law_delay"] := F_l_later.d1 X G fun _ _ _ _ _ _ us hl => match us, hl with | [_, _], _ => rfl
  have D_l_not_above : Vq.D1 K mg "_law_not_above" s_l_not_above ["_law_one", "_law_other"] := F_l_not_above.d1 X G fun _ _ _ _ _ _ us hl => match us, hl with | [_, _], _ => rfl
  have D_l_lesser : Vq.D1 K mg "_law_lesser" s_l_lesser ["_law_one", "_law_other"] := F_l_lesser.d1 X G fun _ _ _ _ _ _ us hl => match us, hl with | [_, _], _ => rfl
  have D_l_least_order : Vq.D1 K mg "_law_least_order" s_l_least_order ["_law_orders"] := F_l_least_order.d1 X G fun _ _ _ _ _ _ us hl => match us, hl with | [_], _ => rfl
  have D_l_first : Vq.D1 K mg "_law_first" s_l_first ["_law_plan", "_law_wait"] := F_l_first.d1 X G fun _ _ _ _ _ _ us hl => match us, hl with | [_, _], _ => rfl
  have D_l_is_kept : Vq.D1 K mg "_law_is_kept" s_l_is_kept ["_law_plan", "_law_wait"] := F_l_is_kept.d1 X G fun _ _ _ _ _ _ us hl => match us, hl with | [_, _], _ => rfl
  have D_l_keeps : Vq.D1 K mg "_law_keeps" s_l_keeps ["_law_system", "_law_plan"] := F_l_keeps.d1 X G fun _ _ _ _ _ _ us hl => match us, hl with | [_, _], _ => rfl
  have D_l_delays : Vq.D1 K mg "_law_delays" s_l_delays ["_law_system"] := F_l_delays.d1 X G fun _ _ _ _ _ _ us hl => match us, hl with | [_], _ => rfl
  have D_l_least_plan : Vq.D1 K mg "_law_least_plan" s_l_least_plan ["_law_system"] := F_l_least_plan.d1 X G fun _ _ _ _ _ _ us hl => match us, hl with | [_], _ => rfl
  have D_l_barred : Vq.D1 K mg "_law_barred" s_l_barred ["_law_system"] := F_l_barred.d1 X G fun _ _ _ _ _ _ us hl => match us, hl with | [_], _ => rfl
  have D_l_drawn_plan : Vq.D1 K mg "_law_drawn_plan" s_l_drawn_plan ["_law_bag_here", "_law_many"] := F_l_drawn_plan.d1 X G fun _ _ _ _ _ _ us hl => match us, hl with | [_, _], _ => rfl
  have D_l_bounds : Vq.D1 K mg "_law_bounds" s_l_bounds ["_law_bag_here", "_law_least"] := F_l_bounds.d1 X G fun _ _ _ _ _ _ us hl => match us, hl with | [_, _], _ => rfl
  have D_l_any_side : Vq.D1 K mg "_law_any_side" s_l_any_side ["_law_bag_here", "_law_many"] := F_l_any_side.d1 X G fun _ _ _ _ _ _ us hl => match us, hl with | [_, _], _ => rfl
  have D_l_any_row : Vq.D1 K mg "_law_any_row" s_l_any_row ["_law_bag_here", "_law_many"] := F_l_any_row.d1 X G fun _ _ _ _ _ _ us hl => match us, hl with | [_, _], _ => rfl
  have D_l_any_table : Vq.D1 K mg "_law_any_table" s_l_any_table ["_law_bag_here", "_law_many", "_law_most"] := F_l_any_table.d1 X G fun _ _ _ _ _ _ us hl => match us, hl with | [_, _, _], _ => rfl
  have D_l_low_high : Vq.D1 K mg "_law_low_high" s_l_low_high ["_law_sides"] := F_l_low_high.d1 X G fun _ _ _ _ _ _ us hl => match us, hl with | [_], _ => rfl
  have D_l_row_bounds : Vq.D1 K mg "_law_row_bounds" s_l_row_bounds ["_law_many", "_law_row"] := F_l_row_bounds.d1 X G fun _ _ _ _ _ _ us hl => match us, hl with | [_, _], _ => rfl
  have D_l_system_of : Vq.D1 K mg "_law_system_of" s_l_system_of ["_law_table_here"] := F_l_system_of.d1 X G fun _ _ _ _ _ _ us hl => match us, hl with | [_], _ => rfl
  have D_l_do_stand : Vq.D1 K mg "_law_do_stand" s_l_do_stand ["_law_table_here", "_law_orders"] := F_l_do_stand.d1 X G fun _ _ _ _ _ _ us hl => match us, hl with | [_, _], _ => rfl
  have D_l_met_row : Vq.D1 K mg "_law_met_row" s_l_met_row ["_law_bag_here", "_law_orders", "_law_row"] := F_l_met_row.d1 X G fun _ _ _ _ _ _ us hl => match us, hl with | [_, _, _], _ => rfl
  have D_l_standing_table : Vq.D1 K mg "_law_standing_table" s_l_standing_table ["_law_bag_here", "_law_many", "_law_most"] := F_l_standing_table.d1 X G fun _ _ _ _ _ _ us hl => match us, hl with | [_, _, _], _ => rfl
  have D_l_own_sides : Vq.D1 K mg "_law_own_sides" s_l_own_sides ["_law_bag_here", "_law_own", "_law_high", "_law_is_told_here", "_law_is_twice"] := F_l_own_sides.d1 X G fun _ _ _ _ _ _ us hl => match us, hl with | [_, _, _, _, _], _ => rfl
  have D_l_silent_rows : Vq.D1 K mg "_law_silent_rows" s_l_silent_rows ["_law_bag_here", "_law_many", "_law_is_told_here", "_law_is_twice"] := F_l_silent_rows.d1 X G fun _ _ _ _ _ _ us hl => match us, hl with | [_, _, _, _], _ => rfl
  have D_l_silent_table : Vq.D1 K mg "_law_silent_table" s_l_silent_table ["_law_bag_here", "_law_many", "_law_is_told_here"] := F_l_silent_table.d1 X G fun _ _ _ _ _ _ us hl => match us, hl with | [_, _, _], _ => rfl
  have D_l_table : Vq.D1 K mg "_law_table" s_l_table ["_law_bag_here", "_law_many", "_law_most"] := F_l_table.d1 X G fun _ _ _ _ _ _ us hl => match us, hl with | [_, _, _], _ => rfl
  have D_l_is_order : Vq.D1 K mg "_law_is_order" s_l_is_order ["_law_thing"] := F_l_is_order.d1 X G fun _ _ _ _ _ _ us hl => match us, hl with | [_], _ => rfl
  have D_l_are_orders : Vq.D1 K mg "_law_are_orders" s_l_are_orders ["_law_table_here", "_law_thing"] := F_l_are_orders.d1 X G fun _ _ _ _ _ _ us hl => match us, hl with | [_, _], _ => rfl
  have D_l_bare : Vq.D1 K mg "_law_bare" s_l_bare ["_law_table_here"] := F_l_bare.d1 X G fun _ _ _ _ _ _ us hl => match us, hl with | [_], _ => rfl
  have D_l_barred_unknowns : Vq.D1 K mg "_law_barred_unknowns" s_l_barred_unknowns ["_law_table_here"] := F_l_barred_unknowns.d1 X G fun _ _ _ _ _ _ us hl => match us, hl with | [_], _ => rfl
  have D_l_turned : Vq.D1 K mg "_law_turned" s_l_turned ["_law_bag_here", "_law_table_here"] := F_l_turned.d1 X G fun _ _ _ _ _ _ us hl => match us, hl with | [_, _], _ => rfl
  have D_l_wider : Vq.D1 K mg "_law_wider" s_l_wider ["_law_bag_here", "_law_table_here"] := F_l_wider.d1 X G fun _ _ _ _ _ _ us hl => match us, hl with | [_, _], _ => rfl
  have D_l_is_told : Vq.D1 K mg "_law_is_told" s_l_is_told ["_law_table_here"] := F_l_is_told.d1 X G fun _ _ _ _ _ _ us hl => match us, hl with | [_], _ => rfl
  have c_l_bag := ok_l_bag (P := P) (w := w) (base := base) M D_l_bag
  have c_l_alike := ok_l_alike (P := P) (w := w) (base := base) M D_l_alike
  have c_l_is_int := ok_l_is_int (P := P) (w := w) (base := base) M D_l_is_int
  have c_l_is_order := ok_l_is_order (P := P) (w := w) (base := base) M D_l_is_order c_l_is_int
  have c_l_are_orders := ok_l_are_orders (P := P) (w := w) (base := base) M D_l_are_orders c_l_is_order
  have c_l_bare := ok_l_bare (P := P) (w := w) (base := base) M D_l_bare
  have c_l_delays := ok_l_delays (P := P) (w := w) (base := base) M D_l_delays
  have c_l_later := ok_l_later (P := P) (w := w) (base := base) M D_l_later
  have c_l_not_above := ok_l_not_above (P := P) (w := w) (base := base) M D_l_not_above
  have c_l_lesser := ok_l_lesser (P := P) (w := w) (base := base) M D_l_lesser c_l_not_above
  have c_l_least_order := ok_l_least_order (P := P) (w := w) (base := base) M D_l_least_order c_l_lesser
  have c_l_first := ok_l_first (P := P) (w := w) (base := base) M D_l_first c_l_later c_l_least_order
  have c_l_is_kept := ok_l_is_kept (P := P) (w := w) (base := base) M D_l_is_kept c_l_first c_l_not_above
  have c_l_least_plan := ok_l_least_plan (P := P) (w := w) (base := base) M D_l_least_plan c_l_delays c_l_first c_l_is_kept
  have c_l_barred := ok_l_barred (P := P) (w := w) (base := base) M D_l_barred c_l_least_plan
  have c_l_low_high := ok_l_low_high (P := P) (w := w) (base := base) M D_l_low_high c_l_least_order c_l_not_above
  have c_l_row_bounds := ok_l_row_bounds (P := P) (w := w) (base := base) M D_l_row_bounds c_l_low_high
  have c_l_system_of := ok_l_system_of (P := P) (w := w) (base := base) M D_l_system_of c_l_row_bounds
  have c_l_barred_unknowns := ok_l_barred_unknowns (P := P) (w := w) (base := base) M D_l_barred_unknowns c_l_bare c_l_barred c_l_system_of
  have c_l_keeps := ok_l_keeps (P := P) (w := w) (base := base) M D_l_keeps c_l_is_kept
  have c_l_do_stand := ok_l_do_stand (P := P) (w := w) (base := base) M D_l_do_stand c_l_keeps c_l_system_of
  have c_later := ok_later (P := P) (w := w) (base := base) M D_later
  have c_least_order := ok_least_order (P := P) (w := w) (base := base) M D_least_order
  have c_earliest_by := ok_earliest_by (P := P) (w := w) (base := base) M D_earliest_by c_later c_least_order
  have c_plan_by_chosen := ok_plan_by_chosen (P := P) (w := w) (base := base) M D_plan_by_chosen c_earliest_by
  have c_not_above := ok_not_above (P := P) (w := w) (base := base) M D_not_above
  have c_waits_not_kept := ok_waits_not_kept (P := P) (w := w) (base := base) M D_waits_not_kept c_earliest_by c_not_above
  have c_least_and_chosen := ok_least_and_chosen (P := P) (w := w) (base := base) M D_least_and_chosen c_plan_by_chosen c_waits_not_kept
  have c_least_plan := ok_least_plan (P := P) (w := w) (base := base) M D_least_plan c_least_and_chosen
  have c_barred_events := ok_barred_events (P := P) (w := w) (base := base) M D_barred_events c_least_plan
  have c_high_of := ok_high_of (P := P) (w := w) (base := base) M D_high_of c_least_order
  have c_low_high := ok_low_high (P := P) (w := w) (base := base) M D_low_high c_high_of
  have c_bounds_in_row := ok_bounds_in_row (P := P) (w := w) (base := base) M D_bounds_in_row c_low_high
  have c_waits_of_row := ok_waits_of_row (P := P) (w := w) (base := base) M D_waits_of_row c_bounds_in_row
  have c_system_of := ok_system_of (P := P) (w := w) (base := base) M D_system_of c_waits_of_row
  have c_without_rights := ok_without_rights (P := P) (w := w) (base := base) M D_without_rights
  have c_silent_system := ok_silent_system (P := P) (w := w) (base := base) M D_silent_system c_system_of c_without_rights
  have c_barred_unknowns := ok_barred_unknowns (P := P) (w := w) (base := base) M D_barred_unknowns c_barred_events c_silent_system
  have c_loud_orders := ok_loud_orders (P := P) (w := w) (base := base) M D_loud_orders c_least_plan c_silent_system
  have c_is_silent := ok_is_silent (P := P) (w := w) (base := base) M D_is_silent c_loud_orders
  have c_l_is_told := ok_l_is_told (P := P) (w := w) (base := base) M D_l_is_told c_l_alike c_l_are_orders c_l_bare c_l_barred_unknowns c_l_do_stand c_barred_unknowns c_is_silent c_loud_orders
  have c_l_take := ok_l_take (P := P) (w := w) (base := base) M D_l_take
  have c_l_some := ok_l_some (P := P) (w := w) (base := base) M D_l_some c_l_take
  have c_l_bounds := ok_l_bounds (P := P) (w := w) (base := base) M D_l_bounds c_l_some
  have c_l_mixed := ok_l_mixed (P := P) (w := w) (base := base) M D_l_mixed c_l_take
  have c_l_own_sides := ok_l_own_sides (P := P) (w := w) (base := base) M D_l_own_sides c_l_bounds c_l_some c_l_take
  have c_l_silent_rows := ok_l_silent_rows (P := P) (w := w) (base := base) M D_l_silent_rows c_l_bounds c_l_mixed c_l_own_sides c_l_some c_l_take
  have c_l_silent_table := ok_l_silent_table (P := P) (w := w) (base := base) M D_l_silent_table c_l_silent_rows
  have c_l_any_side := ok_l_any_side (P := P) (w := w) (base := base) M D_l_any_side c_l_bounds c_l_some c_l_take
  have c_l_any_row := ok_l_any_row (P := P) (w := w) (base := base) M D_l_any_row c_l_any_side c_l_bounds c_l_some c_l_take
  have c_l_any_table := ok_l_any_table (P := P) (w := w) (base := base) M D_l_any_table c_l_any_row c_l_take
  have c_l_drawn_plan := ok_l_drawn_plan (P := P) (w := w) (base := base) M D_l_drawn_plan c_l_some
  have c_l_met_row := ok_l_met_row (P := P) (w := w) (base := base) M D_l_met_row c_l_is_kept c_l_row_bounds
  have c_l_standing_table := ok_l_standing_table (P := P) (w := w) (base := base) M D_l_standing_table c_l_any_side c_l_bounds c_l_drawn_plan c_l_met_row c_l_mixed c_l_some c_l_take
  have c_l_table := ok_l_table (P := P) (w := w) (base := base) M D_l_table c_l_any_table c_l_silent_table c_l_standing_table c_l_take
  have c_l_turned := ok_l_turned (P := P) (w := w) (base := base) M D_l_turned c_l_some
  have c_l_wider := ok_l_wider (P := P) (w := w) (base := base) M D_l_wider c_l_some c_l_take
  exact ok_law M (fun_mk (st := s_law) l c k) c_l_bag c_l_is_told c_l_silent_table c_l_some c_l_table c_l_take c_l_turned c_l_wider
theorem walk {l : PySem.W.OpenLaw} {q : Program} {loose : List Str} {XP : (Str → Option Value) → Heap → Prop} {YP : World → Heap → Prop} {d : DefRec} {K : Params → PySem.W.Frag} (hn : l.most = some 63) (hdf : d.params.defaults = [])
    (hY : ∀ (w : World) (h : Heap), YP w h → (K w.params).In h)
    (F : ∀ (w : World) (mg : Str → Option Value) (fa : Addr) (h : Heap), (K w.params).In h → h.Ns mainGlobals mg → mg d.name = some (.ref fa) →
      ∃ fd : FuncData, (∀ (s : Shared) (u : Value), BindsTo s fd ⟨[u], []⟩ [("_law_script", u)]) ∧ ∀ base : Heap, (K w.params).In base → base.Ns mainGlobals mg → Vq.GFn l.prog w (K w.params) mg base (21) fa fd ["_law_script"] (sp_law (K w.params))) :
    PySem.W.WalkO q loose XP YP l.row.toRowW d [] (fun f vs => PySem.call f vs) :=
  Vq.gwalk (n := 63) (k := 21) (x := "_law_script") (sp := fun w => sp_law (K w.params)) hn (by decide) hdf ⟨rfl, by decide, by decide⟩ hY F fun _ _ a ns hl hS _ => ⟨a, ns, rfl, hS, hl, fun _ => rfl⟩
end Zl
open PySem PySem.W PyProof.Rows in
set_option maxRecDepth 100000 in
set_option maxHeartbeats 0 in
theorem PySem.Challenge.cw_leastpowers_k38_silence_and_loud_orders_holds : PySem.Challenge.rw_leastpowers_k38_silence_and_loud_orders.Holds := by
  w_on; o_law; k_head; (case hw => w_witness2)
  k_fill
  refine Zl.walk (l := PySem.Challenge.rw_leastpowers_k38_silence_and_loud_orders) rfl rfl (fun w h Y => PySem.W.kIn_of Y) ?F
  case F =>
    intro w mg fa h KX G hmg
    refine' Zl.all_mk KX G hmg (Zl.ft_mk ?a_later ?l_later ?c_later ?k_later) (Zl.ft_mk ?a_not_above ?l_not_above ?c_not_above ?k_not_above) (Zl.ft_mk ?a_least_order ?l_least_order ?c_least_order ?k_least_order) (Zl.ft_mk ?a_earliest_by ?l_earliest_by ?c_earliest_by ?k_earliest_by) (Zl.ft_mk ?a_least_plan ?l_least_plan ?c_least_plan ?k_least_plan) (Zl.ft_mk ?a_least_and_chosen ?l_least_and_chosen ?c_least_and_chosen ?k_least_and_chosen) (Zl.ft_mk ?a_waits_not_kept ?l_waits_not_kept ?c_waits_not_kept ?k_waits_not_kept) (Zl.ft_mk ?a_plan_by_chosen ?l_plan_by_chosen ?c_plan_by_chosen ?k_plan_by_chosen) (Zl.ft_mk ?a_barred_events ?l_barred_events ?c_barred_events ?k_barred_events) (Zl.ft_mk ?a_low_high ?l_low_high ?c_low_high ?k_low_high) (Zl.ft_mk ?a_high_of ?l_high_of ?c_high_of ?k_high_of) (Zl.ft_mk ?a_without_rights ?l_without_rights ?c_without_rights ?k_without_rights) (Zl.ft_mk ?a_system_of ?l_system_of ?c_system_of ?k_system_of) (Zl.ft_mk ?a_waits_of_row ?l_waits_of_row ?c_waits_of_row ?k_waits_of_row) (Zl.ft_mk ?a_bounds_in_row ?l_bounds_in_row ?c_bounds_in_row ?k_bounds_in_row) (Zl.ft_mk ?a_silent_system ?l_silent_system ?c_silent_system ?k_silent_system) (Zl.ft_mk ?a_is_silent ?l_is_silent ?c_is_silent ?k_is_silent) (Zl.ft_mk ?a_loud_orders ?l_loud_orders ?c_loud_orders ?k_loud_orders) (Zl.ft_mk ?a_barred_unknowns ?l_barred_unknowns ?c_barred_unknowns ?k_barred_unknowns) (Zl.ft_mk ?a_l_bag ?l_l_bag ?c_l_bag ?k_l_bag) (Zl.ft_mk ?a_l_take ?l_l_take ?c_l_take ?k_l_take) (Zl.ft_mk ?a_l_some ?l_l_some ?c_l_some ?k_l_some) (Zl.ft_mk ?a_l_mixed ?l_l_mixed ?c_l_mixed ?k_l_mixed) (Zl.ft_mk ?a_l_alike ?l_l_alike ?c_l_alike ?k_l_alike) (Zl.ft_mk ?a_l_is_int ?l_l_is_int ?c_l_is_int ?k_l_is_int) (Zl.ft_mk ?a_l_later ?l_l_later ?c_l_later ?k_l_later) (Zl.ft_mk ?a_l_not_above ?l_l_not_above ?c_l_not_above ?k_l_not_above) (Zl.ft_mk ?a_l_lesser ?l_l_lesser ?c_l_lesser ?k_l_lesser) (Zl.ft_mk ?a_l_least_order ?l_l_least_order ?c_l_least_order ?k_l_least_order) (Zl.ft_mk ?a_l_first ?l_l_first ?c_l_first ?k_l_first) (Zl.ft_mk ?a_l_is_kept ?l_l_is_kept ?c_l_is_kept ?k_l_is_kept) (Zl.ft_mk ?a_l_keeps ?l_l_keeps ?c_l_keeps ?k_l_keeps) (Zl.ft_mk ?a_l_delays ?l_l_delays ?c_l_delays ?k_l_delays) (Zl.ft_mk ?a_l_least_plan ?l_l_least_plan ?c_l_least_plan ?k_l_least_plan) (Zl.ft_mk ?a_l_barred ?l_l_barred ?c_l_barred ?k_l_barred) (Zl.ft_mk ?a_l_drawn_plan ?l_l_drawn_plan ?c_l_drawn_plan ?k_l_drawn_plan) (Zl.ft_mk ?a_l_bounds ?l_l_bounds ?c_l_bounds ?k_l_bounds) (Zl.ft_mk ?a_l_any_side ?l_l_any_side ?c_l_any_side ?k_l_any_side) (Zl.ft_mk ?a_l_any_row ?l_l_any_row ?c_l_any_row ?k_l_any_row) (Zl.ft_mk ?a_l_any_table ?l_l_any_table ?c_l_any_table ?k_l_any_table) (Zl.ft_mk ?a_l_low_high ?l_l_low_high ?c_l_low_high ?k_l_low_high) (Zl.ft_mk ?a_l_row_bounds ?l_l_row_bounds ?c_l_row_bounds ?k_l_row_bounds) (Zl.ft_mk ?a_l_system_of ?l_l_system_of ?c_l_system_of ?k_l_system_of) (Zl.ft_mk ?a_l_do_stand ?l_l_do_stand ?c_l_do_stand ?k_l_do_stand) (Zl.ft_mk ?a_l_met_row ?l_l_met_row ?c_l_met_row ?k_l_met_row) (Zl.ft_mk ?a_l_standing_table ?l_l_standing_table ?c_l_standing_table ?k_l_standing_table) (Zl.ft_mk ?a_l_own_sides ?l_l_own_sides ?c_l_own_sides ?k_l_own_sides) (Zl.ft_mk ?a_l_silent_rows ?l_l_silent_rows ?c_l_silent_rows ?k_l_silent_rows) (Zl.ft_mk ?a_l_silent_table ?l_l_silent_table ?c_l_silent_table ?k_l_silent_table) (Zl.ft_mk ?a_l_table ?l_l_table ?c_l_table ?k_l_table) (Zl.ft_mk ?a_l_is_order ?l_l_is_order ?c_l_is_order ?k_l_is_order) (Zl.ft_mk ?a_l_are_orders ?l_l_are_orders ?c_l_are_orders ?k_l_are_orders) (Zl.ft_mk ?a_l_bare ?l_l_bare ?c_l_bare ?k_l_bare) (Zl.ft_mk ?a_l_barred_unknowns ?l_l_barred_unknowns ?c_l_barred_unknowns ?k_l_barred_unknowns) (Zl.ft_mk ?a_l_turned ?l_l_turned ?c_l_turned ?k_l_turned) (Zl.ft_mk ?a_l_wider ?l_l_wider ?c_l_wider ?k_l_wider) (Zl.ft_mk ?a_l_is_told ?l_l_is_told ?c_l_is_told ?k_l_is_told) (Zl.ft_mk ?a_law ?l_law ?c_law ?k_law)  ?z_abs ?z_int ?z_len ?z_min ?z_max ?z_sum ?z_all ?z_sorted ?z_tuple ?z_list ?z_range ?z_zip ?z_enumerate ?z_repr ?z_isinstance ?z_bool ?z_dict ?z_str ?z_any ?z_reversed ?z_set
    (case a_later => k_is); (case l_later => k_is); (case c_later => k_is); (case k_later => k_is)
    (case a_not_above => k_is); (case l_not_above => k_is); (case c_not_above => k_is); (case k_not_above => k_is)
    (case a_least_order => k_is); (case l_least_order => k_is); (case c_least_order => k_is); (case k_least_order => k_is)
    (case a_earliest_by => k_is); (case l_earliest_by => k_is); (case c_earliest_by => k_is); (case k_earliest_by => k_is)
    (case a_least_plan => k_is); (case l_least_plan => k_is); (case c_least_plan => k_is); (case k_least_plan => k_is)
    (case a_least_and_chosen => k_is); (case l_least_and_chosen => k_is); (case c_least_and_chosen => k_is); (case k_least_and_chosen => k_is)
    (case a_waits_not_kept => k_is); (case l_waits_not_kept => k_is); (case c_waits_not_kept => k_is); (case k_waits_not_kept => k_is)
    (case a_plan_by_chosen => k_is); (case l_plan_by_chosen => k_is); (case c_plan_by_chosen => k_is); (case k_plan_by_chosen => k_is)
    (case a_barred_events => k_is); (case l_barred_events => k_is); (case c_barred_events => k_is); (case k_barred_events => k_is)
    (case a_low_high => k_is); (case l_low_high => k_is); (case c_low_high => k_is); (case k_low_high => k_is)
    (case a_high_of => k_is); (case l_high_of => k_is); (case c_high_of => k_is); (case k_high_of => k_is)
    (case a_without_rights => k_is); (case l_without_rights => k_is); (case c_without_rights => k_is); (case k_without_rights => k_is)
    (case a_system_of => k_is); (case l_system_of => k_is); (case c_system_of => k_is); (case k_system_of => k_is)
    (case a_waits_of_row => k_is); (case l_waits_of_row => k_is); (case c_waits_of_row => k_is); (case k_waits_of_row => k_is)
    (case a_bounds_in_row => k_is); (case l_bounds_in_row => k_is); (case c_bounds_in_row => k_is); (case k_bounds_in_row => k_is)
    (case a_silent_system => k_is); (case l_silent_system => k_is); (case c_silent_system => k_is); (case k_silent_system => k_is)
    (case a_is_silent => k_is); (case l_is_silent => k_is); (case c_is_silent => k_is); (case k_is_silent => k_is)
    (case a_loud_orders => k_is); (case l_loud_orders => k_is); (case c_loud_orders => k_is); (case k_loud_orders => k_is)
    (case a_barred_unknowns => k_is); (case l_barred_unknowns => k_is); (case c_barred_unknowns => k_is); (case k_barred_unknowns => k_is)
    (case a_l_bag => k_is); (case l_l_bag => k_is); (case c_l_bag => k_is); (case k_l_bag => k_is)
    (case a_l_take => k_is); (case l_l_take => k_is); (case c_l_take => k_is); (case k_l_take => k_is)
    (case a_l_some => k_is); (case l_l_some => k_is); (case c_l_some => k_is); (case k_l_some => k_is)
    (case a_l_mixed => k_is); (case l_l_mixed => k_is); (case c_l_mixed => k_is); (case k_l_mixed => k_is)
    (case a_l_alike => k_is); (case l_l_alike => k_is); (case c_l_alike => k_is); (case k_l_alike => k_is)
    (case a_l_is_int => k_is); (case l_l_is_int => k_is); (case c_l_is_int => k_is); (case k_l_is_int => k_is)
    (case a_l_later => k_is); (case l_l_later => k_is); (case c_l_later => k_is); (case k_l_later => k_is)
    (case a_l_not_above => k_is); (case l_l_not_above => k_is); (case c_l_not_above => k_is); (case k_l_not_above => k_is)
    (case a_l_lesser => k_is); (case l_l_lesser => k_is); (case c_l_lesser => k_is); (case k_l_lesser => k_is)
    (case a_l_least_order => k_is); (case l_l_least_order => k_is); (case c_l_least_order => k_is); (case k_l_least_order => k_is)
    (case a_l_first => k_is); (case l_l_first => k_is); (case c_l_first => k_is); (case k_l_first => k_is)
    (case a_l_is_kept => k_is); (case l_l_is_kept => k_is); (case c_l_is_kept => k_is); (case k_l_is_kept => k_is)
    (case a_l_keeps => k_is); (case l_l_keeps => k_is); (case c_l_keeps => k_is); (case k_l_keeps => k_is)
    (case a_l_delays => k_is); (case l_l_delays => k_is); (case c_l_delays => k_is); (case k_l_delays => k_is)
    (case a_l_least_plan => k_is); (case l_l_least_plan => k_is); (case c_l_least_plan => k_is); (case k_l_least_plan => k_is)
    (case a_l_barred => k_is); (case l_l_barred => k_is); (case c_l_barred => k_is); (case k_l_barred => k_is)
    (case a_l_drawn_plan => k_is); (case l_l_drawn_plan => k_is); (case c_l_drawn_plan => k_is); (case k_l_drawn_plan => k_is)
    (case a_l_bounds => k_is); (case l_l_bounds => k_is); (case c_l_bounds => k_is); (case k_l_bounds => k_is)
    (case a_l_any_side => k_is); (case l_l_any_side => k_is); (case c_l_any_side => k_is); (case k_l_any_side => k_is)
    (case a_l_any_row => k_is); (case l_l_any_row => k_is); (case c_l_any_row => k_is); (case k_l_any_row => k_is)
    (case a_l_any_table => k_is); (case l_l_any_table => k_is); (case c_l_any_table => k_is); (case k_l_any_table => k_is)
    (case a_l_low_high => k_is); (case l_l_low_high => k_is); (case c_l_low_high => k_is); (case k_l_low_high => k_is)
    (case a_l_row_bounds => k_is); (case l_l_row_bounds => k_is); (case c_l_row_bounds => k_is); (case k_l_row_bounds => k_is)
    (case a_l_system_of => k_is); (case l_l_system_of => k_is); (case c_l_system_of => k_is); (case k_l_system_of => k_is)
    (case a_l_do_stand => k_is); (case l_l_do_stand => k_is); (case c_l_do_stand => k_is); (case k_l_do_stand => k_is)
    (case a_l_met_row => k_is); (case l_l_met_row => k_is); (case c_l_met_row => k_is); (case k_l_met_row => k_is)
    (case a_l_standing_table => k_is); (case l_l_standing_table => k_is); (case c_l_standing_table => k_is); (case k_l_standing_table => k_is)
    (case a_l_own_sides => k_is); (case l_l_own_sides => k_is); (case c_l_own_sides => k_is); (case k_l_own_sides => k_is)
    (case a_l_silent_rows => k_is); (case l_l_silent_rows => k_is); (case c_l_silent_rows => k_is); (case k_l_silent_rows => k_is)
    (case a_l_silent_table => k_is); (case l_l_silent_table => k_is); (case c_l_silent_table => k_is); (case k_l_silent_table => k_is)
    (case a_l_table => k_is); (case l_l_table => k_is); (case c_l_table => k_is); (case k_l_table => k_is)
    (case a_l_is_order => k_is); (case l_l_is_order => k_is); (case c_l_is_order => k_is); (case k_l_is_order => k_is)
    (case a_l_are_orders => k_is); (case l_l_are_orders => k_is); (case c_l_are_orders => k_is); (case k_l_are_orders => k_is)
    (case a_l_bare => k_is); (case l_l_bare => k_is); (case c_l_bare => k_is); (case k_l_bare => k_is)
    (case a_l_barred_unknowns => k_is); (case l_l_barred_unknowns => k_is); (case c_l_barred_unknowns => k_is); (case k_l_barred_unknowns => k_is)
    (case a_l_turned => k_is); (case l_l_turned => k_is); (case c_l_turned => k_is); (case k_l_turned => k_is)
    (case a_l_wider => k_is); (case l_l_wider => k_is); (case c_l_wider => k_is); (case k_l_wider => k_is)
    (case a_l_is_told => k_is); (case l_l_is_told => k_is); (case c_l_is_told => k_is); (case k_l_is_told => k_is)
    (case a_law => k_is); (case l_law => k_is); (case c_law => k_is); (case k_law => k_is)
    (case z_abs => k_is)
    (case z_int => k_is)
    (case z_len => k_is)
    (case z_min => k_is)
    (case z_max => k_is)
    (case z_sum => k_is)
    (case z_all => k_is)
    (case z_sorted => k_is)
    (case z_tuple => k_is)
    (case z_list => k_is)
    (case z_range => k_is)
    (case z_zip => k_is)
    (case z_enumerate => k_is)
    (case z_repr => k_is)
    (case z_isinstance => k_is)
    (case z_bool => k_is)
    (case z_dict => k_is)
    (case z_str => k_is)
    (case z_any => k_is)
    (case z_reversed => k_is)
    (case z_set => k_is)
end
