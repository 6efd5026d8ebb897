import PyProof.Rows.All
import Wide.All
import OpenK.AllK
import Wide.FinOn
import HandS.ForMost
import HandS.More
import HandS.SortInts
import HandS.SortKw
import HandS.Gcd
import HandS.Wide
import HandS.Flow
import HandS.Zip
import HandS.Conv
import PyProof.ReprRoads
import PyProof.ReprBulk
import KE.KDictZip
import HandS.Codes
import PySem.Challenge.RW_leastpowers_k02_numbers_by_sums
import HandS.Style
set_option Elab.async false
set_option linter.all false
set_option maxRecDepth 100000
namespace Vq
open PySem PySem.Spec PyProof.Rows L2

/-! ### data: its depth, its parts, the size of its ints -/
mutual
inductive Gd : Nat → Nat → PyData → Prop
  | non (k n : Nat) : Gd k n .none
  | bl (k n : Nat) (b : Bool) : Gd k n (.bool b)
  | int (k n : Nat) {i : Int} : i.natAbs < 2 ^ 1900 → Gd k n (.int i)
  | tup {k n : Nat} {xs : List PyData} : GdA k n xs → Gd (k + 1) n (.tuple xs)
  | lst {k n : Nat} {xs : List PyData} : GdA k n xs → Gd (k + 1) n (.list xs)
inductive GdA : Nat → Nat → List PyData → Prop
  | nil (k n : Nat) : GdA k n []
  | cons {k n m : Nat} {d : PyData} {ds : List PyData} : Gd k n d → GdA k m ds → GdA k (n + 1 + m) (d :: ds)
end
theorem int_short {i : Int} (h : i.natAbs < 2 ^ 1900) : (PyData.shown (.int i)).length ≤ 600 := by
  have e := int_text_length_le10 (a := i) (k := 599) (by decide) (Nat.lt_trans h (by decide +kernel))
  show (Str.ofString (toString i)).length ≤ 600
  rw [PySem.ofString_length]
  omega
theorem int_log {i : Int} (h : i.natAbs < 2 ^ 1900) : i.natAbs.log2 < 1920 := Nat.lt_trans (PySem.Flt.log2_lt_of (by decide) h) (by decide)
structure GdF (k n : Nat) (d : PyData) : Prop where
  sh : d.showable = true
  nd : d.hasDict = false
  cl : d.canLay0 = true
  dp : d.depth ≤ k
  bk : d.bulk ≤ n
  ls : d.leavesShort 600 = true
structure GdFA (k n : Nat) (d : List PyData) : Prop where
  sh : PyData.showableAll d = true
  nd : PyData.hasDictAll d = false
  cl : PyData.canLayAll0 d = true
  dp : PyData.depthAll d ≤ k
  bk : PyData.bulkAll d ≤ n
  ls : PyData.leavesShortAll 600 d = true
mutual
theorem Gd.f : ∀ {k n : Nat} {d : PyData}, Gd k n d → GdF k n d
  | _, _, _, .non k n => ⟨rfl, by simp only [PyData.hasDict], by simp [PyData.canLay0], by simp [PyData.depth], by simp [PyData.bulk], by simp [PyData.leavesShort]⟩
  | _, _, _, .bl k n b => ⟨by simp [PyData.showable], by simp only [PyData.hasDict], by simp [PyData.canLay0], by simp [PyData.depth], by simp [PyData.bulk], by simp [PyData.leavesShort]⟩
  | _, _, _, .int k n h => ⟨by simp [PyData.showable, int_log h], by simp only [PyData.hasDict], by simp [PyData.canLay0], by simp [PyData.depth], by simp [PyData.bulk], by simp only [PyData.leavesShort]; exact decide_eq_true (int_short h)⟩
  | _, _, _, .tup h => by
    have q := GdA.f h
    exact ⟨by simpa [PyData.showable] using q.sh, by simpa [PyData.hasDict] using q.nd, by simpa [PyData.canLay0] using q.cl, by simpa [PyData.depth] using q.dp, by simpa [PyData.bulk] using q.bk, by simpa [PyData.leavesShort] using q.ls⟩
  | _, _, _, .lst h => by
    have q := GdA.f h
    exact ⟨by simpa [PyData.showable] using q.sh, by simpa [PyData.hasDict] using q.nd, by simpa [PyData.canLay0] using q.cl, by simpa [PyData.depth] using q.dp, by simpa [PyData.bulk] using q.bk, by simpa [PyData.leavesShort] using q.ls⟩
theorem GdA.f : ∀ {k n : Nat} {d : List PyData}, GdA k n d → GdFA k n d
  | _, _, _, .nil k n => ⟨by simp [PyData.showableAll], by simp [PyData.hasDictAll], by simp [PyData.canLayAll0], by simp [PyData.depthAll], by simp [PyData.bulkAll], by simp [PyData.leavesShortAll]⟩
  | _, _, _, .cons h t => by
    have a := Gd.f h
    have b := GdA.f t
    exact ⟨by simp [PyData.showableAll, a.sh, b.sh], by simp [PyData.hasDictAll, a.nd, b.nd], by simp [PyData.canLayAll0, a.cl, b.cl], by simp only [PyData.depthAll]; exact Nat.max_le.mpr ⟨a.dp, b.dp⟩, by
      simp only [PyData.bulkAll]
      have h1 := a.bk
      have h2 := b.bk
      omega, by simp [PyData.leavesShortAll, a.ls, b.ls]⟩
end
theorem Gd.fits {k n : Nat} {d : PyData} (h : Gd k n d) (hn : n ≤ 20000) : d.shown.length ≤ sizeLine := by
  have e := PyData.shown_le_bulk 600 (by decide) d h.f.ls
  have b := h.f.bk
  rw [sizeLine_eq]
  omega
theorem Gd.shaped {k n : Nat} {d : PyData} (h : Gd k n d) (hk : k ≤ 64) : SeqAt.shaped d = true := by
  unfold SeqAt.shaped
  rw [h.f.cl, decide_eq_true (Nat.le_trans h.f.dp hk)]
  rfl
theorem Gd.refl {k n : Nat} {d : PyData} (h : Gd k n d) : PyData.eqv d d = true := SeqAt.eqv_refl d h.f.cl
/-- repr of data, where no repr is under way -/
def rShow (K : PySem.W.Frag) : List V → Hp → VK → Prop := fun xs H Q => ∃ v d k n, xs = [v] ∧ Dp K H v d ∧ Gd k n d ∧ k ≤ 60 ∧ n ≤ 20000 ∧ (∃ a, v = .ref a) ∧ Q (.str d.shown) H
theorem cr_show {X : Cx} (hg : X.A.guards = some []) (hu : X.A.units + 64 < cLine) : CallR X (.builtin "repr") (rShow X.K) := by
  intro pins s σ H xs us Q I r h
  obtain ⟨v, d, k, n, rfl, hd, g, hk, hn, ⟨a, rfl⟩, q⟩ := h
  obtain ⟨u, rfl, ru⟩ := vals1 r
  obtain ⟨as, hr⟩ := Dp.reads I d _ u hd ru
  cases ru
  refine repr_of_reads' hr g.f.sh (PyData.noDict_hsm g.f.nd) hg (by have := g.f.dp; omega) (fun _ _ e => e) (fun h' u tk hk' => ?_) (g.fits hn)
  exact ⟨.str d.shown, H, I.kept hk', ⟨u, rfl⟩, q⟩
end Vq
namespace Vq
open PySem PySem.Spec PyProof.Rows L2

/-! ### xs.extend(t), t a tuple that stands in H -/
theorem ext_tup_meets (l : Addr) (items : Array Value) (n : Nat) (b : Addr) (items2 : Array Value) (n2 : Nat) (dd : Option Addr) (sl : Array (Option Value))
    (h0 : ¬(!items.isEmpty && Builtin.List.listTooLong (items.size + items2.size)) = true) (h1 : items.size ≤ sizeLine) (h2 : items.size + items2.size ≤ sizeLine + 1) :
    Meets (Builtin.«list.extend» ⟨[.ref l, .ref b], []⟩) (fun _ R s => s.heap.get? l = some { cls := .type "list", dict := none, data := .seq items n, slots := #[] } ∧
      s.heap.get? b = some { cls := .type "tuple", dict := dd, data := .seq items2 n2, slots := sl } ∧ R (.ok (.ret Value.none)) { s with heap := s.heap.update l (Obj.mapSeq fun x => x ++ items2), toks := s.toks }) := .of_wp fun prog w A R s h => by
  obtain ⟨hp, g, d, tk, os⟩ := s
  obtain ⟨hl, hb, h⟩ := h
  have f1 := AutoSeq1.idx_int
  have f2 := AutoSeq1.sub_tuple_tuple
  have f3 := AutoSeq1.sub_list_list
  have f4 := AutoSeq1.sub_tuple_list
  have f5 := AutoSeq1.sub_list_tuple
  have hz' : (items ++ items2).size ≤ sizeLine + 1 := by
    rw [Array.size_append]
    exact h2
  wp_walk using (wpAny_updateSeq hl rfl (hz := h1) (_hz' := hz')), wpAny_loadPart' hl, wpAny_loadPart' hb
  exact ⟨_, rfl, h⟩
def rExtT : V → List V → Hp → VK → Prop := fun x vs H Q => ∃ l b xs zs, x = .ref l ∧ vs = [.ref b] ∧ H l = some (.lst xs) ∧ H b = some (.tup zs) ∧ xs.length + zs.length ≤ sizeLine ∧ Q .non (upd H l (.lst (xs ++ zs)))
theorem mt_extT {X : Cx} : MtM X "list.extend" rExtT := by
  intro pins s σ H x vs v us Q I rx rv h
  obtain ⟨l, b, xs, zs, rfl, rfl, hH, hB, hz, q⟩ := h
  cases rx
  obtain ⟨u, rfl, ru⟩ := rv.one
  cases ru
  obtain ⟨z, its, n, r, hl, e⟩ := I.lstM hH
  obtain ⟨z2, its2, r2, ⟨⟨c2, d2, dt2, s2⟩, ho2, hc2, n2, hd2⟩⟩ := I.hok b _ hB
  cases hc2
  cases hd2
  have e1 := hl
  have e2 := r2.length
  have hsz : its.toArray.size + its2.toArray.size ≤ sizeLine := by
    rw [List.size_toArray, List.size_toArray]
    omega
  have hno : ¬ (!its.toArray.isEmpty && Builtin.List.listTooLong (its.toArray.size + its2.toArray.size)) = true := by
    rw [notLongL hsz, Bool.and_false]
    exact Bool.false_ne_true
  have hz1 : its.toArray.size ≤ sizeLine := by omega
  have hz2 : its.toArray.size + its2.toArray.size ≤ sizeLine + 1 := by omega
  refine call_meets F.slot_list_extend ⟨_, e, rfl⟩ F.entry_list_extend (F.args_list_extend_2 _ _) (ext_tup_meets l its.toArray n b its2.toArray n2 d2 s2 hno hz1 hz2) ⟨e, ho2, ?_⟩
  refine ⟨.non, _, I.lset (its' := its ++ its2) hH e (by simp) (r.append r2) ?_, rfl, q⟩
  rw [List.length_append]
  exact hz

/-! ### sorted(d), int keys, any number of them -/
def rSrtD : List V → Hp → VK → Prop := fun xs H Q => ∃ (a : Addr) (kvs : List (L2.Key × V)) (ks : List Int), xs = [.ref a] ∧ Rd H a (.dK kvs) ∧ kvs.map (·.1) = ks.map Sum.inl ∧
  ∀ (ys : List Int) (p : Addr), ys.Perm ks → ys.Pairwise (· ≤ ·) → H p = none → Q (.ref p) (upd H p (.lst (ys.map V.int)))
theorem cr_srtD {X : Cx} (hcalm : X.calm = true) : CallR X (.builtin "sorted") rSrtD := by
  intro pins s σ H xs us Q I r q
  obtain ⟨a, kvs, ks, rfl, hd, hks, q⟩ := q
  obtain ⟨u, rfl, rx⟩ := vals1 r
  cases rx
  obtain ⟨z, lo, vs, rel, dd⟩ := dk_rd I.hok hd
  obtain ⟨ep, hat⟩ := dd.dictAt
  have hkeys : vs.map (·.1) = ks.map Sum.inl := rel.keys.symm.trans hks
  have hl : vs.length = ks.length := by
    have e := congrArg List.length hkeys
    rwa [List.length_map, List.length_map] at e
  have h16 : vs.length ≤ sizeLine := by
    have e := congrArg List.length rel.keys
    rw [List.length_map, List.length_map] at e
    omega
  refine Calls.call_function_entry PyProof.Rows.kind_sorted PyProof.Rows.plain_sorted PyProof.Rows.entry_sorted (PyProof.Rows.args_sorted1 _) ?_
  unfold Builtin.«sorted»
  refine wpAny_bind (m := checkCount "sorted" 1 1 _) (wpAny_pure ?_)
  have hat' := PySem.W.kdl_dict (knd := mixKind X.prog X.w) (kvs := vs) (ep := ep) lo
  refine wpAny_bind (PySem.W.kdu_collect (A := X.A.in1) hat' (I.ok.hd hcalm) hat h16 fun h' tk acc hk hacc => ?_)
  have hal : acc.toList.length = ks.length := by
    rw [Array.length_toList]
    exact hacc.1.trans hl
  have hS : IntsAre acc.toList ks := ints_each hal fun j v e => by
    rw [Array.getElem?_toList] at e
    obtain ⟨k, x, e1, e2⟩ := hacc.2 j v e
    have e3 : (vs.map (·.1))[j]? = some k := by
      rw [List.getElem?_map, e1]
      rfl
    rw [hkeys, List.getElem?_map] at e3
    cases e4 : ks[j]? with
    | none =>
      rw [e4] at e3
      cases e3
    | some y =>
      rw [e4] at e3
      cases e3
      obtain ⟨t, ev⟩ := Value.isInt_shape (k := y) (v := v) e2
      exact ⟨y, t, rfl, ev⟩
  have I1 : Inv X pins σ H { s with heap := h', toks := tk } := I.kept hk
  have hz : acc.toList.length ≤ sizeLine := by
    rw [hal, ← hl]
    exact h16
  refine wpAny_bind (wpAny_newList ?_ hz)
  have hoL : (h'.push (seqObj "list" acc.toList.toArray 0)).get? h'.objs.size = some (seqObj "list" acc.toList.toArray 0) := Heap.get?_push_size _ rfl
  show wpAny _ _ _ _ _ { s with heap := h'.push (seqObj "list" acc.toList.toArray 0), toks := tk }
  refine wpAny_bind (wpAny_holding (wpAny_call_entry PyProof.Rows.slot_list_sort ⟨_, hoL, rfl⟩ PyProof.Rows.entry_list_sort
    (SrtO.list_sort_ord (s := { s with heap := h'.push (seqObj "list" acc.toList.toArray 0), toks := tk }) SrtO.swo_int hoL hz (fun h2 => SrtO.ints_sortable hS h2) fun out h1 h2 => ⟨_, rfl, ?_⟩) (PyProof.Rows.args_list_sort _)))
  obtain ⟨g1, g2, g3⟩ := SrtO.ints_out hS h1 h2
  obtain ⟨e', he'⟩ := PyProof.Rows.sortedHeap_at (vs := acc.toList) (out := out.toArray) hoL
  have hlen : ((out.map SrtO.iv).map V.int).length ≤ sizeLine := by
    rw [List.length_map, g2.length_eq, ← hal]
    exact hz
  have kp : ∀ b u, h'.get? b = some u → (sortedHeap (h'.push (seqObj "list" acc.toList.toArray 0)) h'.objs.size acc.toList out.toArray).get? b = some u := fun b u e => by
    have hb : b < h'.objs.size := Heap.lt_size e
    rw [PyProof.Rows.sortedHeap_old (Nat.ne_of_lt hb) (by rw [size_push']; exact Nat.lt_succ_of_lt hb)]
    exact Heap.get?_push_of_some _ e
  exact wpAny_pure ⟨_, rfl, .ref h'.objs.size, upd H h'.objs.size (.lst ((out.map SrtO.iv).map V.int)), I1.laid (t' := tk) kp (Nat.le_refl _) ⟨hlen, out, e', vals_of_ints g1, he'⟩, rfl, q _ _ g2 g3 (I1.hok.fresh (Nat.le_refl _))⟩
end Vq
namespace Vq
open PySem PySem.Spec PyProof.Rows L2
/-! ### min(xs, default=d) of a list of ints -/
theorem args_minD (a d : Value) : argsOk "min" ⟨[a], [(Str.ofString "default", d)]⟩ := by unfold argsOk; kernel_rfl
theorem min_name : (toString "min" ++ toString ".loop" : String) = "min.loop" := by decide
section
variable {prog : Program} {w : World} {A : Around} {R : Result → Shared → Prop} {I : Addr} {fp wr : List Addr} {n : Nat} {P : Nat → Value → Prop} {St : Nat → Heap → Prop} {dv : Value}
/-- the loop's box: a list of this -/
abbrev boxO (xs : Array Value) (c : Nat) : Obj := { cls := .type "list", dict := none, data := .seq xs c, slots := #[] }
abbrev minCode (I S : Addr) (dv : Value) : Code := .builtin "min.loop" ⟨[.ref I, .none, .ref S], [("default", dv)]⟩
theorem minD_rest (W : Walks prog w A.in1 I fp wr n P St) (bt : Nat → Nat → Bool) (hcmp : CmpOf prog w A.in1 .Lt P bt) (S : Addr) (hSf : S ∉ fp) :
    ∀ (k j : Nat) (s : Shared) (vb : Value) (c : Nat), n - (j + 1) = k → j + 1 ≤ n → St (j + 1) s.heap → P (argBest bt j) vb → s.heap.get? S = some (boxO #[vb, vb] c) →
    (∀ v h' tk, P (argBest bt (n - 1)) v → (∀ b o, b ∉ wr → b ≠ S → s.heap.get? b = some o → h'.get? b = some o) → R (.ok (.ret v)) { s with heap := h', toks := tk }) →
    codeAny (model prog w) A (minCode I S dv) R s := by
  have hSw : S ∉ wr := fun z => hSf (W.sub _ z)
  intro k
  induction k with
  | zero =>
    intro j s vb c hk hj hst hP hS hR
    have hin : j + 1 = n := by omega
    refine codeAny_builtin F.entry_min_loop ?_
    rw [Around.under_plainId F.plain_min_loop _]
    show wpAny _ A.in1 (seqItems? (.ref S) >>= _) _ _ s; refine wpAny_bind (wpAny_seqItems hS rfl ?_)
    show wpAny _ A.in1 (tryCatch (pyNext (.ref I)) _ >>= _) _ _ s; refine wpAny_bind (wpAny_tryCatch (W.done s _ _ (hin ▸ hst) fun h' tk kp => ?_))
    have hS2 := kp S _ hSw hS
    show wpAny _ A.in1 (updateSeq S (fun _ => #[]) >>= _) _ _ _; refine wpAny_bind ?_
    refine wpAny_updateSeq hS2 rfl (wpAny_bind (wpAny_letGo (wpAny_pure ?_)))
    refine hR vb _ tk (hin ▸ hP) fun b o h1 h2 e => ?_
    exact (Heap.get?_update_other _ _ h2.symm).trans (kp b o h1 e)
  | succ k ih =>
    intro j s vb c hk hj hst hP hS hR
    have hlt : j + 1 < n := by omega
    refine codeAny_builtin F.entry_min_loop ?_
    rw [Around.under_plainId F.plain_min_loop _]
    show wpAny _ A.in1 (seqItems? (.ref S) >>= _) _ _ s; refine wpAny_bind (wpAny_seqItems hS rfl ?_)
    show wpAny _ A.in1 (tryCatch (pyNext (.ref I)) _ >>= _) _ _ s; refine wpAny_bind (wpAny_tryCatch (W.item (j + 1) s _ _ hlt hst fun v h' tk hv hst2 kp => ?_))
    have hS2 := kp S _ hSw hS
    show wpAny _ A.in1 (tryCatch (holding [v, v] (richCompare .Lt v vb >>= _)) _ >>= _) _ _ _
    refine wpAny_bind (wpAny_tryCatch (wpAny_holding (wpAny_bind (hcmp (j + 1) (argBest bt j) v vb _ _ _ hv hP ?_)))); refine wpAny_bind (wpAny_holding (wpAny_truthy_bool ?_))
    refine wpAny_bind (wpAny_letGo (wpAny_pure ?_)); cases hb : bt (j + 1) (argBest bt j) with
    | true =>
      simp only [if_true]; refine wpAny_bind ?_; refine wpAny_updateSeq hS2 rfl (wpAny_bind (wpAny_letGo ?_))
      rw [min_name]
      have st3 := W.frame (j + 1 + 1) _ (h'.update S (Obj.mapSeq fun _ => #[v, v])) hst2 fun b hbf o e => (Heap.get?_update_other _ _ (fun z : S = b => hSf (z ▸ hbf))).trans e
      have pb : P (argBest bt (j + 1)) v := by
        simp only [argBest, hb, if_true]
        exact hv
      refine wpAny_pure ⟨plainId_quiet F.plain_min_loop _, ih (j + 1) _ v _ (by omega) hlt st3 pb (Heap.get?_update_self _ hS2 rfl) fun v2 h2 tk2 hv2 kp2 => ?_⟩
      exact hR v2 h2 tk2 hv2 fun b o h1 h3 e => kp2 b o h1 h3 ((Heap.get?_update_other _ _ h3.symm).trans (kp b o h1 e))
    | false =>
      simp only [Bool.false_eq_true, if_false]; refine wpAny_bind (wpAny_letGo ?_)
      rw [min_name]
      have pb : P (argBest bt (j + 1)) vb := by
        simp only [argBest, hb, Bool.false_eq_true, if_false]
        exact hP
      refine wpAny_pure ⟨plainId_quiet F.plain_min_loop _, ih (j + 1) _ vb c (by omega) hlt hst2 pb hS2 fun v2 h2 tk2 hv2 kp2 => ?_⟩
      exact hR v2 h2 tk2 hv2 fun b o h1 h3 e => kp2 b o h1 h3 (kp b o h1 e)
theorem minD_first (W : Walks prog w A.in1 I fp wr n P St) (bt : Nat → Nat → Bool) (hcmp : CmpOf prog w A.in1 .Lt P bt) (S : Addr) (hSf : S ∉ fp) {s : Shared} {c : Nat} (hst : St 0 s.heap) (hS : s.heap.get? S = some (boxO #[] c))
    (hR : ∀ v h' tk, (n = 0 → v = dv) → (0 < n → P (argBest bt (n - 1)) v) → (∀ b o, b ∉ wr → b ≠ S → s.heap.get? b = some o → h'.get? b = some o) → R (.ok (.ret v)) { s with heap := h', toks := tk }) :
    codeAny (model prog w) A (minCode I S dv) R s := by
  have hSw : S ∉ wr := fun z => hSf (W.sub _ z)
  refine codeAny_builtin F.entry_min_loop ?_
  rw [Around.under_plainId F.plain_min_loop _]
  show wpAny _ A.in1 (seqItems? (.ref S) >>= _) _ _ s; refine wpAny_bind (wpAny_seqItems hS rfl ?_)
  rcases Nat.eq_zero_or_pos n with h0 | hn
  · show wpAny _ A.in1 (tryCatch (pyNext (.ref I)) _ >>= _) _ _ s; refine wpAny_bind (wpAny_tryCatch (W.done s _ _ (h0 ▸ hst) fun h' tk kp => ?_))
    refine wpAny_bind (wpAny_rule ?_)
    exact wpAny_pure (hR dv h' tk (fun _ => rfl) (fun z => by omega) fun b o h1 _ e => kp b o h1 e)
  · show wpAny _ A.in1 (tryCatch (pyNext (.ref I)) _ >>= _) _ _ s; refine wpAny_bind (wpAny_tryCatch (W.item 0 s _ _ hn hst fun v h' tk hv hst2 kp => ?_))
    have hS2 := kp S _ hSw hS
    show wpAny _ A.in1 (updateSeq S (fun _ => #[v, v]) >>= _) _ _ _; refine wpAny_bind ?_
    refine wpAny_updateSeq hS2 rfl ?_
    rw [min_name]
    have st3 := W.frame (0 + 1) _ (h'.update S (Obj.mapSeq fun _ => #[v, v])) hst2 fun b hbf o e => (Heap.get?_update_other _ _ (fun z : S = b => hSf (z ▸ hbf))).trans e
    refine wpAny_pure ⟨plainId_quiet F.plain_min_loop _, minD_rest W bt hcmp S hSf _ 0 _ v _ rfl hn st3 hv (Heap.get?_update_self _ hS2 rfl) fun v2 h2 tk2 hv2 kp2 => ?_⟩
    exact hR v2 h2 tk2 (fun z => by omega) (fun _ => hv2) fun b o h1 h3 e => kp2 b o h1 h3 ((Heap.get?_update_other _ _ h3.symm).trans (kp b o h1 e))
end
section
variable {prog : Program} {w : World} {A : Around} {E : Value → Shared → Prop} {s : Shared}
theorem minD_list {l : Addr} {xs : Array (Int × Tok)} {dv : Value} {Q : Value → Shared → Prop} (hh : A.handled = none) (hl : s.heap.IsList l (intItems xs))
    (h : ∀ v h' tk, (xs.size = 0 → v = dv) → (0 < xs.size → (intItems xs)[argBest (fun i j => decide (numAt xs i < numAt xs j)) (xs.size - 1)]? = some v) → (∀ b o, s.heap.get? b = some o → h'.get? b = some o) → Q v { s with heap := h', toks := tk }) :
    wpAny (model prog w) A (call (.builtin "min") [.ref l] [("default", dv)]) Q E s := by
  refine wpAny_call (codeAny_call_builtin F.plain_min F.entry_min ?_)
  have hc : checkBuiltinCall "min" ⟨[.ref l], [("default", dv)]⟩ = pure () := by
    have ha := args_minD (.ref l) dv
    simp only [checkBuiltinCall, F.kind_min]
    cases hsig : Manifest.signature? "min" with
    | none => rfl
    | some sig =>
      simp only [argsOk, hsig] at ha
      exact ha
  rw [hc]
  refine wpAny_pure ?_
  show wpAny _ A.in1 (Builtin.Builtins.bindParams "min" ["key", "default"] 0 ⟨[], [("default", dv)]⟩ >>= _) _ _ s
  refine wpAny_bind (wpAny_of_eq (show Builtin.Builtins.bindParams "min" ["key", "default"] 0 ⟨[], [("default", dv)]⟩ = pure [none, some dv] from rfl) ?_)
  refine wpAny_bind (wpAny_pure ?_)
  refine wpAny_bind (iter_intList hl fun s₂ e st hfp hlI => ?_)
  subst e
  refine wpAny_bind (wpAny_newObj_type ?_)
  have W := Walks.list (prog := prog) (w := w) (A := A.in1) hh s.heap.objs.size l hlI (intItems xs)
  have hsz : (intItems xs).size = xs.size := by simp [intItems]
  rw [min_name]
  refine wpAny_pure ⟨plainId_quiet F.plain_min_loop _, minD_first W _ (CmpOf.ints_lt (numAt xs) fun _ _ => intItems_at) _ (fun hm => Nat.lt_irrefl _ (hfp _ hm)) (W.frame _ _ _ st fun b _ o e => Heap.get?_push_of_some _ e) (Heap.get?_push_size _ rfl) fun v h' tk h0 hv kp => ?_⟩
  rw [hsz] at h0 hv
  refine h v h' tk h0 hv fun b o e => ?_
  have hb := Heap.lt_size e
  refine kp b o (fun hm => ?_) (fun z => ?_) (Heap.get?_push_of_some _ (Heap.get?_push_of_some _ e))
  · rcases List.mem_cons.mp hm with e1 | hm
    · exact absurd (e1 ▸ hb) (Nat.lt_irrefl _)
    · cases hm
  · have q : (s.heap.push { cls := .type "list_iterator", data := .fields #[.ref l, .int 0 0] }).objs.size = s.heap.objs.size + 1 := Heap.size_push ..
    have z2 : b = s.heap.objs.size + 1 := Eq.trans z q
    rw [z2] at hb
    exact absurd hb (Nat.lt_asymm (Nat.lt_succ_self _))
end
/-- the least of ints, none of none -/
def minO : List Int → Option Int
  | [] => none
  | x :: r => some (r.foldl min x)
theorem foldl_min_spec : ∀ (l : List Int) (x : Int), (l.foldl min x = x ∨ l.foldl min x ∈ l) ∧ l.foldl min x ≤ x ∧ ∀ y ∈ l, l.foldl min x ≤ y
  | [], x => ⟨.inl rfl, Int.le_refl _, fun y h => by cases h⟩
  | a :: l, x => by
    obtain ⟨h1, h2, h3⟩ := foldl_min_spec l (min x a)
    show (l.foldl min (min x a) = x ∨ l.foldl min (min x a) ∈ a :: l) ∧ l.foldl min (min x a) ≤ x ∧ ∀ y ∈ a :: l, l.foldl min (min x a) ≤ y
    refine ⟨?_, by omega, fun y hy => ?_⟩
    · rcases h1 with h1 | h1
      · rcases Int.le_total x a with q | q
        · rw [Int.min_eq_left q] at h1 ⊢
          exact .inl h1
        · rw [Int.min_eq_right q] at h1 ⊢
          exact .inr (by rw [h1]; exact List.mem_cons_self)
      · exact .inr (List.mem_cons_of_mem _ h1)
    · rcases List.mem_cons.mp hy with rfl | hy
      · omega
      · exact h3 y hy
theorem minO_eq {l : List Int} {m : Int} (h1 : m ∈ l) (h2 : ∀ y ∈ l, m ≤ y) : minO l = some m := by
  cases l with
  | nil => cases h1
  | cons x r =>
    obtain ⟨a, b, c⟩ := foldl_min_spec r x
    show some (r.foldl min x) = some m
    have q1 : m ≤ r.foldl min x := by
      rcases a with a | a
      · rw [a]; exact h2 x List.mem_cons_self
      · exact h2 _ (List.mem_cons_of_mem _ a)
    have q2 : r.foldl min x ≤ m := by
      rcases List.mem_cons.mp h1 with rfl | h1
      · exact b
      · exact c m h1
    rw [show r.foldl min x = m by omega]
def ordV : Option Int → V
  | none => .non
  | some i => .int i
def rMinD (K : PySem.W.Frag) : List V → List V → Hp → VK → Prop := fun xs zs H Q => ∃ (a : Addr) (ns : List Int), xs = [.ref a] ∧ zs = [.non] ∧ SqL K H a (ns.map V.int) ∧ Q (ordV (minO ns)) H
theorem cr_minD {X : Cx} (hc : X.calm = true) : CallRK X (.builtin "min") [Str.ofString "default"] (rMinD X.K) := by
  intro pins s σ H xs zs us ws Q I r rz h
  obtain ⟨a, ns, rfl, rfl, hs, q⟩ := h
  obtain ⟨its, rv, hl, _⟩ := I.list hs
  obtain rfl := Vals.ref1 r
  obtain ⟨w1, rfl, e1⟩ := vals1 rz
  obtain rfl : w1 = Value.none := e1
  have hi := rv.ints
  obtain ⟨ys, e⟩ := hi.allInts.items
  have hn : numsOf (intItems ys).toList = ns := by rw [← e]; exact hi.numsOf
  rw [nums_intItems] at hn
  have hl2 := hl.isList
  rw [e] at hl2
  refine minD_list (I.ok.hd hc) hl2 fun v h' tk h0 hv kp => ?_
  cases hz : ys.size with
  | zero =>
    have e1 : ns = [] := by
      rw [← hn, List.map_eq_nil_iff]
      exact List.eq_nil_of_length_eq_zero (by rw [Array.length_toList]; exact hz)
    subst e1
    exact ⟨.non, H, I.kept kp, h0 hz, q⟩
  | succ k =>
    have hp : 0 < ys.size := by omega
    obtain ⟨t, rfl⟩ := intItems_at (hv hp)
    obtain ⟨g1, g2⟩ := argBest_lt (numAt ys) (ys.size - 1)
    refine ⟨ordV (minO ns), H, I.kept kp, ?_, q⟩
    have e2 : minO ns = some (numAt ys (argBest (fun i j => decide (numAt ys i < numAt ys j)) (ys.size - 1))) := by
      refine minO_eq ?_ fun y hy => ?_
      · rw [← hn, numAt_eq]
        exact PySem.getD_mem (by rw [List.length_map, Array.length_toList]; omega)
      · rw [← hn] at hy
        obtain ⟨j, hj, rfl⟩ := mem_getD hy
        rw [List.length_map, Array.length_toList] at hj
        rw [← numAt_eq]
        exact g2 j (by omega)
    rw [e2]
    exact ⟨t, rfl⟩
end Vq
set_option maxHeartbeats 1000000
namespace Vq
open PySem PySem.Spec PyProof.Rows L2
/-! ### defs that are called where no repr is under way -/
/-- as FnOk, where the callers' guards are none -/
structure GFn (P : Program) (w : World) (K : PySem.W.Frag) (mg : Str → Option Value) (base : Heap) (k : Nat) (f : Addr) (fd : FuncData) (ps : List Str) (sp : Sp) : Prop where
  len : ∀ vs H Q E, sp vs H Q E → vs.length = ps.length
  run : ∀ (A : Around), A.guards = some [] → Room k A → ∀ (outer : List Env) (s : Shared) (H : Hp), Env0 P w K mg base A outer s H → ∀ (args : Args) (us : List Value), BindsTo s fd args (ps.zip us) →
    ∀ (vs : List V) (Q : VK) (E : XK), Vals vs us → sp vs H Q E → codeAny (model P w) A (.call (.ref f) args) (CR CX0 outer P w H s Q E) s
section
variable {X : Cx} {k : Nat} {f : Addr} {fd : FuncData} {ps : List Str} {sp : Sp} {x : Str} {p pos : Pos} {e : Expr} {es : List Expr} {t : TA}
theorem pe_gcall (hG : X.A.guards = some []) (F : GFn X.prog X.w X.K X.mg X.base k f fd ps sp) (hr : Room k X.A) (hg : Gl X x) (hm : X.mg x = some (.ref f)) (hk : PySem.W.keepIn X.K (.ref f) = true) (hb : Binds X.K fd ps []) (ha : PA X (e :: es) t)
    (hdb : (x == ("__debug__" : Str)) = false := by decide) (he : starEach (e :: es) X.env = (false, eval e X.env) :: starEach es X.env := by rfl) (hpl : (backTo pos (starEach es X.env)).any (·.1) = false := by rfl) :
    PE X (.Call (.Name x p) (e :: es) [] pos) (tCall sp [] E0 t) := by
  constructor
  intro pins s σ H Q I h
  refine wpAny_Call_Name_kw (ld_glob I hg hm ?_ hdb)
  refine PySem.W.callWith_K (h₀ := X.base) I.ok.mod.kin hk (thn (ha.run pos pins s σ H _ I h) ?_) he hpl
  rintro us s1 ⟨vs, H1, I1, r, q⟩
  have q' : sp vs H1 Q E0 := by
    have z : sp (vs ++ []) H1 Q E0 := q
    rwa [List.append_nil] at z
  have hl : (us ++ []).length = ps.length := by
    rw [List.append_nil, ← r.length]
    exact F.len _ _ _ _ q'
  have b := hb s1 us I1.kIn hl
  rw [List.append_nil] at b
  refine ⟨I1.kIn, wpAny_call (codeAny_mono (F.run X.A hG hr X.stack s1 H1 I1.env0 _ us b vs Q E0 r q') fun rr s2 hq => ?_)⟩
  cases rr with
  | error z => exact hq.elim
  | ok fl =>
    cases fl with
    | ret u => exact I1.after hq
    | next => exact hq.elim
    | brk => exact hq.elim
    | cont => exact hq.elim
end
section
variable {P : Program} {w : World} {K : PySem.W.Frag} {mg : Str → Option Value} {base : Heap}
theorem gfn_of {x qual : Str} {st : Stmt} {f : Addr} {fd : FuncData} {N ps : List Str} {k : Nat} {sp : Sp} (F : Fun K x qual st f fd) (S : FnScope N ps (defScope st)) (len : ∀ vs H Q E, sp vs H Q E → vs.length = ps.length)
    (hbody : ∀ (cdv : Value) (A : Around) (outer : List Env) (s : Shared) (H : Hp) (vs : List V) (Q : VK) (E : XK), A.guards = some [] → Room k (A.deeper (envOfC qual (defScope st) s.heap.objs.size f cdv)) → sp vs H Q E →
      ∃ t, PSs (cxOf CX0 P w K mg base N qual (defScope st) f cdv A outer s H E).nox (defBody st) t ∧ t { nx := fun _ H' => Q .non H', rt := Q } (start N vs) H) : GFn P w K mg base (k + 1) f fd ps sp := by
  obtain ⟨oc, od, kV, doc, pm, an, cdv, ct, osl, rfl, lk, hcd⟩ := F.ex
  refine ⟨len, fun A hG hr outer s H e0 args us hb vs Q E r hsp => ?_⟩
  have hl := len _ _ _ _ hsp
  have KX : K.In s.heap := e0.mod.kin.keeps fun b o e => (e0.bs b o e).1
  have kinds : ∀ y ∈ ps.zip us, (defScope st).names.lookup y.1 = some .local ∨ ((defScope st).names.lookup y.1 = some .cell ∧ ((cellsFrom (s.heap.objs.size + 1) (defScope st).names []).lookup y.1).isSome = true) := by
    rintro ⟨n, v⟩ hy
    have hn := (List.of_mem_zip hy).1
    rcases S.par n hn with q | q
    · exact .inl q
    · exact .inr ⟨q, PySem.W.cellsFrom_some _ _ _ (.inl q)⟩
  refine codeAny_call_function hr.depth (KX _ _ lk) rfl S.co S.gen rfl (PySem.W.codeRec_of KX hcd) (hb _ _ _ _ ?_)
  refine wpAny_newFunctionEnv_cells S.kind kinds ?_
  rintro env rfl s1 x
  have lim : s.heap.NoLimit := e0.mod.nolimit.keeps fun b o e => (e0.bs b o e).1
  refine ⟨lim.keeps x.toInCall.keep, codeAny_func ?_⟩
  obtain ⟨t, ht, hq⟩ := hbody cdv A outer s H vs Q E hG (hr.deeper _) hsp
  have I := inv_start (CX := CX0) (E := E) S hr.hd e0 hl r x
  have W := ht.nox.run [] s1 (start N vs) H { nx := fun _ H' => Q .non H', rt := Q } I hq
  refine wpAny_mono W (fun fl s' hs => ?_) fun e s' hs => hs
  cases fl with
  | ret u => obtain ⟨v, σ', H', J, rv, q⟩ := hs; exact ⟨v, H', J.os, J.bare, J.base, J.hok, rv, q⟩
  | next => obtain ⟨σ', H', J, q⟩ := hs; exact ⟨V.non, H', J.os, J.bare, J.base, J.hok, rfl, q⟩
  | brk => obtain ⟨_, _, _, q⟩ := hs; cases q
  | cont => obtain ⟨_, _, _, q⟩ := hs; cases q
end
end Vq
set_option maxHeartbeats 1000000
namespace Vq
open PySem PySem.Spec PyProof.Rows L2
/-! ### the law's own call -/
/-- at the start the script alone is tracked, or nothing if it is an object of the module -/
def scH (K : PySem.W.Frag) (a : Addr) (o : Obj) (xs : List V) : Hp := fun b => if b = a ∧ (K.lookup a).isNone = true then some (.frz o (.lst xs)) else none
theorem scH_some {K : PySem.W.Frag} {a b : Addr} {o : Obj} {xs : List V} {u : HO} (h : scH K a o xs b = some u) : b = a ∧ K.lookup a = none ∧ u = .frz o (.lst xs) := by
  unfold scH at h
  by_cases c : b = a ∧ (K.lookup a).isNone = true
  · rw [if_pos c] at h
    cases h
    exact ⟨c.1, Option.isNone_iff_eq_none.mp c.2, rfl⟩
  · rw [if_neg c] at h
    cases h
theorem gcall {P : Program} {w : World} {K : PySem.W.Frag} {mg mb : Str → Option Value} {k : Nat} {fa a : Addr} {fd : FuncData} {x : Str} {sp : Sp} {s₁ : Shared} {vs : List Value} {ns : List Int}
    (KX : K.In s₁.heap) (hns : s₁.heap.Ns mainGlobals mg) (hb : s₁.heap.Ns builtinsNs mb) (hbb : ∀ x : Str, x ≠ "__name__" → mb x = bootBuiltins x) (hlim : s₁.heap.NoLimit) (hg : s₁.gens = #[])
    (ha : s₁.heap.get? a = some { cls := .type "list", data := .seq vs.toArray }) (hi : IntsAre vs ns) (hl : ns.length ≤ sizeLine) (hr : Room k callerA)
    (F : ∀ base : Heap, K.In base → base.Ns mainGlobals mg → GFn P w K mg base k fa fd [x] sp) (hbind : ∀ (s : Shared) (u : Value), BindsTo s fd ⟨[u], []⟩ [(x, u)])
    (hsp : ∀ H : Hp, SqL K H a (ns.map V.int) → (∀ b u, H b = some u → b = a) → sp [.ref a] H (fun v _ => v = .bl true) fun _ _ _ => False) :
    codeAny (model P w) callerA (.call (.ref fa) ⟨[.ref a], []⟩) (fun r s' => r = .ok (.ret (.bool true)) ∧ OldK s₁.heap s'.heap ∧ s'.os = s₁.os ∧ AllBare s'.gens) s₁ := by
  have rv := vals_ints hi
  have lv : vs.length = ns.length := hi.length
  let ob : Obj := { cls := .type "list", data := .seq vs.toArray }
  let H : Hp := scH K a ob (ns.map V.int)
  have hz : (ns.map V.int).length ≤ sizeLine := by rw [List.length_map]; exact hl
  have atA : ∀ b u, H b = some u → b = a := fun b u z => (scH_some z).1
  have hS : SqL K H a (ns.map V.int) := by
    cases hk : K.lookup a with
    | none => exact .inl (.inr ⟨ob, if_pos ⟨rfl, by rw [hk]; rfl⟩⟩)
    | some o =>
      have e := (KX a o hk).symm.trans ha
      cases e
      exact .inr ⟨_, vs.toArray, _, hk, rfl, rfl, rfl, by rw [List.size_toArray, lv]; exact hl, rv⟩
  have hok : HOk P w H s₁.heap := fun b u z => by
    obtain ⟨rfl, _, rfl⟩ := scH_some z
    exact ⟨ha, hz, vs, _, rv, ha⟩
  have free : ∀ {b : Addr} {o : Obj}, s₁.heap.get? b = some o → (∀ v, o.data ≠ .seq vs.toArray v) → H b = none := fun {b o} e d => by
    cases q : H b with
    | none => rfl
    | some u =>
      have e1 := atA b u q
      rw [e1, ha] at e
      cases e
      exact absurd rfl (d _)
  have ns2 : ∀ {b : Addr} {m : Str → Option Value}, s₁.heap.Ns b m → (hidT s₁.heap H).Ns b m := fun {b m} z => by
    obtain ⟨o, es, ep, e, d, r⟩ := z
    exact ⟨o, es, ep, hidT_get e (free e fun v q => by rw [d] at q; cases q), d, r⟩
  have KB : K.In (hidT s₁.heap H) := fun b o e => hidT_get (KX b o e) (by
    cases q : H b with
    | none => rfl
    | some u =>
      obtain ⟨e1, e2, _⟩ := scH_some q
      rw [e1, e2] at e
      cases e)
  obtain ⟨mc, c1, c2⟩ := hlim
  have e0 : Env0 P w K mg (hidT s₁.heap H) callerA [] s₁ H :=
    { frames := rfl, mod := ⟨KB, ns2 hns, ⟨mb, ns2 hb, hbb⟩, ⟨mc, ns2 c1, c2⟩⟩, bs := fun b o e => of_hidT e, bsz := Nat.le_of_eq (hidT_size _ _), funs := trivial, frf := (fun b z => by cases z), hok := hok, bare := .of_eq hg }
  have run := (F _ KB (ns2 hns)).run callerA rfl hr [] s₁ H e0 ⟨[.ref a], []⟩ [.ref a] (hbind s₁ (.ref a)) [.ref a] _ _ (.cons rfl .nil) (hsp H hS atA)
  refine codeAny_mono run fun r s2 q => ?_
  cases r with
  | error e => exact q.elim
  | ok fl =>
    cases fl with
    | next => exact q.elim
    | brk => exact q.elim
    | cont => exact q.elim
    | ret u =>
      obtain ⟨v, H', os, bare, un, hok', r', rfl⟩ := q
      cases r'
      refine ⟨rfl, OldK.of_keep fun b o e => ?_, os, bare⟩
      cases q : H b with
      | none => exact un.keep b o e q (fun z => by cases z) (fun z => by cases z)
      | some u =>
        obtain ⟨rfl, _, rfl⟩ := scH_some q
        have z3 := (hok' _ _ (un.frzs _ _ _ q)).1
        rw [ha] at e
        cases e
        exact z3
/-- the goal that k_head leaves -/
theorem gwalk {l : PySem.W.OpenLaw} {n k : Nat} {q : Program} {loose : List Str} {XP : (Str → Option Value) → Heap → Prop} {YP : World → Heap → Prop} {d : DefRec} {K : Params → PySem.W.Frag} {sp : World → Sp} {x : Str}
    (hn : l.most = some n) (hn2 : n ≤ sizeLine) (hdf : d.params.defaults = []) (hr : Room k callerA) (hY : ∀ (w : World) (h : Heap), YP w h → (K w.params).In h)
    (F : ∀ (w : World) (mg : Str → Option Value) (fa : Addr) (h : Heap), (K w.params).In h → h.Ns mainGlobals mg → mg d.name = some (.ref fa) →
      ∃ fd : FuncData, (∀ (s : Shared) (u : Value), BindsTo s fd ⟨[u], []⟩ [(x, u)]) ∧ ∀ base : Heap, (K w.params).In base → base.Ns mainGlobals mg → GFn l.prog w (K w.params) mg base k fa fd [x] (sp w))
    (hsp : ∀ (w : World) (H : Hp) (a : Addr) (ns : List Int), ns.length ≤ n → SqL (K w.params) H a (ns.map V.int) → (∀ b u, H b = some u → b = a) → sp w [.ref a] H (fun v _ => v = .bl true) fun _ _ _ => False) :
    PySem.W.WalkO q loose XP YP l.row.toRowW d [] (fun f vs => PySem.call f vs) := by
  refine Att.attach_call hn hdf ?_
  intro w s₀ s₁ mg mb fa o pm cd doc a vs ns G Y ho hd hcd hmg hobj hints hlen hg
  obtain ⟨fd, hb, hF⟩ := F w mg fa _ (hY w _ Y) G.T.g hmg
  exact gcall (hY w _ Y) G.T.g G.T.b G.T.builtins G.T.nolimit hg hobj hints (Nat.le_trans hlen hn2) hr hF hb fun H h1 h2 => hsp w H a ns hlen h1 h2
end Vq
set_option maxHeartbeats 1000000
/-! zip of two tuples, walked by one name: the tuple that it hands out may be held, or not any more -/
namespace Vq
open PySem PySem.Spec PyProof.Rows L2 RZ
abbrev ZO (h : Heap) (z TI TO : Addr) (own : Value) (f : Bool) : Prop := h.get? z = some { cls := .type "zip", dict := none, data := .fields #[own, .bool f, .bool false, .ref TI, .ref TO], slots := #[] }
def OwnOk (v : Value) : Prop := v = .none ∨ ∃ T : Addr, v = rawInt T
section
variable {prog : Program} {w : World} {A : Around} {E : Value → Shared → Prop} {s : Shared}
theorem own_any {z TI TO : Addr} {own : Value} {f : Bool} {Q : Bool → Shared → Prop} (hz : ZO s.heap z TI TO own f) (ho : OwnOk own) (h1 : Q true s)
    (h2 : ∀ h', ZO h' z TI TO own true → Heap.SameBut z s.heap h' → Q false { s with heap := h' }) : wpAny (model prog w) A (Builtin.SmallTypes.ownedTupleIsFree (.ref z)) Q E s := by
  rcases ho with rfl | ⟨T, rfl⟩
  · unfold Builtin.SmallTypes.ownedTupleIsFree; exact wpAny_bind (wpAny_field hz rfl (x := .none) rfl (wpAny_pure h1))
  · cases hT : s.heap.get? T with
    | some oT => exact wpAny_tupleHeld_zip hz hT h2
    | none =>
      unfold Builtin.SmallTypes.ownedTupleIsFree; refine wpAny_bind (wpAny_field hz rfl (x := rawInt T) rfl ?_)
      show wpAny _ _ (loadIfAlive ((T : Int).toNat) >>= _) _ _ _; rw [Int.toNat_natCast]
      have al : wpAny (model prog w) A (loadIfAlive T) (fun o s' => o = none ∧ s' = s) E s := fun Γ p hΓ => by
        show Sem.wp _ _ (loadIfAlive T) _ _ _ _
        unfold loadIfAlive
        rw [Sem.wp_loadIfAlive, hT]
        exact ⟨rfl, rfl⟩
      refine wpAny_bind (wpAny_mono al (fun o s' q => ?_) fun _ _ q => q)
      obtain ⟨rfl, rfl⟩ := q
      simp only [Option.isNone_none, if_true]
      exact wpAny_pure h1
/-- what a turn leaves -/
structure ZSt (h : Heap) (z TI TO i1 i2 l1 l2 : Addr) (k1 k2 : Nat) : Prop where
  zo : ∃ own f, OwnOk own ∧ ZO h z TI TO own f
  ti : IsPair h TI (.ref i1) (.ref i2)
  to : ∃ a b, IsPair h TO a b
  n1 : h.IsTupleIter i1 l1 k1
  n2 : h.IsTupleIter i2 l2 k2
theorem zipN_item {z TI TO i1 i2 l1 l2 : Addr} {k1 k2 : Nat} {xs ys : Array Value} {x y : Value} {Q : Value → Shared → Prop} (D : ZipApart z TI TO i1 i2 l1 l2)
    (S : ZSt s.heap z TI TO i1 i2 l1 l2 k1 k2) (hl1 : s.heap.IsTuple l1 xs) (hl2 : s.heap.IsTuple l2 ys) (hx : xs[k1]? = some x) (hy : ys[k2]? = some y)
    (hQ : ∀ h', ZSt h' z TI TO i1 i2 l1 l2 (k1 + 1) (k2 + 1) → IsPair h' s.heap.objs.size x y → h'.objs.size = s.heap.objs.size + 1 →
      (∀ c o, c ≠ z → c ≠ TO → c ≠ i1 → c ≠ i2 → s.heap.get? c = some o → h'.get? c = some o) → Q (.ref s.heap.objs.size) { s with heap := h' }) :
    wpAny (model prog w) A (Builtin.«zip.__next__» ⟨[.ref z], []⟩) (fun fin s' => ∃ v, fin = .done (.ret v) ∧ Q v s') E s := by
  obtain ⟨⟨own, f, ho, hz⟩, hTI, ⟨a, b, hTO⟩, h1, h2⟩ := S
  show wpAny _ _ (field (.ref z) 2 >>= _) _ _ _; refine wpAny_bind (wpAny_field hz rfl (x := .bool false) rfl ?_)
  show wpAny _ _ (field (.ref z) 3 >>= _) _ _ _; refine wpAny_bind (wpAny_field hz rfl (x := .ref TI) rfl ?_)
  refine wpAny_bind (wpAny_seqItems hTI rfl ?_); show wpAny _ _ (Builtin.SmallTypes.ownedTupleIsFree (.ref z) >>= _) _ _ _
  refine wpAny_bind (own_any hz ho ?_ fun g1 z1 b1 => ?_)
  · -- the tuple is free
    simp only [if_true]; refine wpAny_bind (wpAny_rule ?_); refine wpAny_bind (wpAny_field hz rfl (x := .ref TO) rfl ?_)
    refine wpAny_bind (wpAny_setField_rec hz (by simp) fun g1 z1 b1 => ?_); replace z1 : ZO g1 z TI TO .ellipsis f := z1
    refine wpAny_bind ?_; simp only [List.zipIdx_cons, List.zipIdx_nil, List.forIn_cons, List.forIn_nil]
    refine wpAny_bind (wpAny_bind (wpAny_onRaise ?_)); show wpAny _ _ (Builtin.SmallTypes.nextOf (.ref i1) >>= _) _ _ _
    refine wpAny_bind (nextOf_tuple_item (h1.extBut b1.extBut D.i1z) (hl1.extBut b1.extBut D.l1z) hx fun g2 n1 b2 => wpAny_pure ?_)
    have t2 : IsPair g2 TO a b := b2.extBut _ _ D.TOi1 (b1.extBut _ _ D.TOz hTO)
    refine wpAny_bind (wpAny_seqItems t2 rfl ?_); refine wpAny_bind (wpAny_updateSeq_pair t2 fun g3 t3 b3 => ?_); replace t3 : IsPair g3 TO x b := t3
    refine wpAny_bind (wpAny_letGo (wpAny_pure ?_)); refine wpAny_bind (wpAny_bind (wpAny_onRaise ?_)); show wpAny _ _ (Builtin.SmallTypes.nextOf (.ref i2) >>= _) _ _ _
    have n2' := ((h2.extBut b1.extBut D.i2z).extBut b2.extBut D.i12.symm).extBut b3.extBut D.TOi2.symm
    have l2' := ((hl2.extBut b1.extBut D.l2z).extBut b2.extBut D.l2i1).extBut b3.extBut D.l2TO
    refine wpAny_bind (nextOf_tuple_item n2' l2' hy fun g4 n2 b4 => wpAny_pure ?_)
    have t4 : IsPair g4 TO x b := b4.extBut _ _ D.TOi2 t3
    refine wpAny_bind (wpAny_seqItems t4 rfl ?_); refine wpAny_bind (wpAny_updateSeq_pair t4 fun g5 t5 b5 => ?_); replace t5 : IsPair g5 TO x y := t5
    refine wpAny_bind (wpAny_letGo (wpAny_pure (wpAny_pure ?_))); refine wpAny_bind (wpAny_seqItems t5 rfl ?_); refine wpAny_bind (wpAny_newTuple ?_)
    have sz : g5.objs.size = s.heap.objs.size := by rw [b5.1, b4.1, b3.1, b2.1, b1.1]
    have z5 : ZO g5 z TI TO .ellipsis f := b5.extBut _ _ D.TOz.symm (b4.extBut _ _ D.i2z.symm (b3.extBut _ _ D.TOz.symm (b2.extBut _ _ D.i1z.symm z1)))
    have k5 : ∀ c o, c ≠ z → c ≠ TO → c ≠ i1 → c ≠ i2 → s.heap.get? c = some o → g5.get? c = some o := fun c o c1 c2 c3 c4 e =>
      b5.extBut _ _ c2 (b4.extBut _ _ c4 (b3.extBut _ _ c2 (b2.extBut _ _ c3 (b1.extBut _ _ c1 e))))
    have m1 : g5.IsTupleIter i1 l1 (k1 + 1) := ((n1.extBut b3.extBut D.TOi1.symm).extBut b4.extBut D.i12).extBut b5.extBut D.TOi1.symm
    have m2 : g5.IsTupleIter i2 l2 (k2 + 1) := n2.extBut b5.extBut D.TOi2.symm
    have zl : z < g5.objs.size := Heap.lt_size z5
    show wpAny _ _ (Builtin.SmallTypes.ownedTupleHandOut (.ref z) (.ref g5.objs.size) >>= _) _ _ _; refine wpAny_bind ?_; unfold Builtin.SmallTypes.ownedTupleHandOut
    have z6 : ZO (g5.push { cls := .type "tuple", data := .seq #[x, y] }) z TI TO .ellipsis f := Heap.get?_push_of_some _ z5
    refine wpAny_bind (wpAny_setField_rec z6 (by simp) fun g7 z7 b7 => ?_); replace z7 : ZO g7 z TI TO (rawInt g5.objs.size) f := z7
    refine wpAny_setField_rec z7 (by simp) fun g8 z8 b8 => ?_; replace z8 : ZO g8 z TI TO (rawInt g5.objs.size) false := z8
    have up : ∀ c o, c ≠ z → g5.get? c = some o → g8.get? c = some o := fun c o c1 e => b8.extBut _ _ c1 (b7.extBut _ _ c1 (Heap.get?_push_of_some _ e))
    have p8 : IsPair g8 g5.objs.size x y := b8.extBut _ _ (Nat.ne_of_gt zl) (b7.extBut _ _ (Nat.ne_of_gt zl) (Heap.get?_push_size _ rfl))
    have s8 : g8.objs.size = g5.objs.size + 1 := by rw [b8.1, b7.1, Heap.size_push]
    rw [sz] at p8 s8; refine wpAny_pure ⟨_, rfl, ?_⟩; show Q (.ref g5.objs.size) _; rw [sz]
    refine hQ g8 ⟨⟨_, _, .inr ⟨_, rfl⟩, z8⟩, up _ _ D.TIz (k5 _ _ D.TIz D.TITO D.TIi1 D.TIi2 hTI), ⟨_, _, up _ _ D.TOz t5⟩, m1.at fun o e => up _ o D.i1z e, m2.at fun o e => up _ o D.i2z e⟩ p8 s8 fun c o c1 c2 c3 c4 e => ?_
    exact up c o c1 (k5 c o c1 c2 c3 c4 e)
  · -- it is held
    simp only [Bool.false_eq_true, if_false]; refine wpAny_bind ?_; rw [← Array.forIn_toList]; simp only [List.forIn_cons, List.forIn_nil]
    refine wpAny_bind (wpAny_bind (wpAny_holding ?_)); show wpAny _ _ (Builtin.SmallTypes.nextOf (.ref i1) >>= _) _ _ _
    refine wpAny_bind (nextOf_tuple_item (s := { s with heap := g1 }) (h1.extBut b1.extBut D.i1z) (hl1.extBut b1.extBut D.l1z) hx fun g2 n1 b2 => wpAny_pure ?_)
    refine wpAny_pure ?_; refine wpAny_bind (wpAny_bind (wpAny_holding ?_)); show wpAny _ _ (Builtin.SmallTypes.nextOf (.ref i2) >>= _) _ _ _
    refine wpAny_bind (nextOf_tuple_item (s := { s with heap := g2 }) ((h2.extBut b1.extBut D.i2z).extBut b2.extBut D.i12.symm) ((hl2.extBut b1.extBut D.l2z).extBut b2.extBut D.l2i1) hy fun g3 n2 b3 => wpAny_pure ?_)
    refine wpAny_pure (wpAny_pure ?_); show wpAny _ _ (newTuple [x, y] >>= _) _ _ _; refine wpAny_bind (wpAny_newTuple ?_)
    have sz : g3.objs.size = s.heap.objs.size := by rw [b3.1, b2.1, b1.1]
    have z3 : ZO g3 z TI TO own true := b3.extBut _ _ D.i2z.symm (b2.extBut _ _ D.i1z.symm z1)
    have k3 : ∀ c o, c ≠ z → c ≠ i1 → c ≠ i2 → s.heap.get? c = some o → g3.get? c = some o := fun c o c1 c2 c3 e => b3.extBut _ _ c3 (b2.extBut _ _ c2 (b1.extBut _ _ c1 e))
    have m1 : g3.IsTupleIter i1 l1 (k1 + 1) := n1.extBut b3.extBut D.i12
    refine wpAny_pure ⟨_, rfl, ?_⟩; show Q (.ref g3.objs.size) _
    have hp : IsPair (g3.push { cls := .type "tuple", data := .seq #[x, y] }) g3.objs.size x y := Heap.get?_push_size _ rfl
    have s4 : (g3.push { cls := .type "tuple", data := .seq #[x, y] }).objs.size = g3.objs.size + 1 := Heap.size_push ..
    rw [sz] at hp s4 ⊢
    have pu : ∀ c o, g3.get? c = some o → (g3.push { cls := .type "tuple", data := .seq #[x, y] }).get? c = some o := fun c o e => Heap.get?_push_of_some _ e
    refine hQ _ ⟨⟨_, _, ho, pu _ _ z3⟩, pu _ _ (k3 _ _ D.TIz D.TIi1 D.TIi2 hTI), ⟨_, _, pu _ _ (k3 _ _ D.TOz D.TOi1 D.TOi2 hTO)⟩, m1.at fun o e => pu _ o e, n2.at fun o e => pu _ o e⟩ hp s4 fun c o c1 c2 c3 c4 e => ?_
    exact pu c o (k3 c o c1 c3 c4 e)
theorem zipN_end {z TI TO i1 i2 l1 l2 : Addr} {k1 k2 : Nat} {xs ys : Array Value} {Q : Fin → Shared → Prop} (hh : A.handled = none) (D : ZipApart z TI TO i1 i2 l1 l2)
    (S : ZSt s.heap z TI TO i1 i2 l1 l2 k1 k2) (hl1 : s.heap.IsTuple l1 xs) (hl2 : s.heap.IsTuple l2 ys) (hend : xs[k1]? = none ∨ ys[k2]? = none)
    (hE : ∀ h' e, (∀ c o, c ≠ z → c ≠ TO → c ≠ i1 → c ≠ i2 → s.heap.get? c = some o → h'.get? c = some o) → (∃ o, h'.get? e = some o ∧ o.cls = .type "StopIteration") → E (.ref e) { s with heap := h' }) :
    wpAny (model prog w) A (Builtin.«zip.__next__» ⟨[.ref z], []⟩) Q E s := by
  obtain ⟨⟨own, f, ho, hz⟩, hTI, ⟨a, b, hTO⟩, h1, h2⟩ := S
  show wpAny _ _ (field (.ref z) 2 >>= _) _ _ _; refine wpAny_bind (wpAny_field hz rfl (x := .bool false) rfl ?_)
  show wpAny _ _ (field (.ref z) 3 >>= _) _ _ _; refine wpAny_bind (wpAny_field hz rfl (x := .ref TI) rfl ?_)
  refine wpAny_bind (wpAny_seqItems hTI rfl ?_); show wpAny _ _ (Builtin.SmallTypes.ownedTupleIsFree (.ref z) >>= _) _ _ _
  refine wpAny_bind (own_any hz ho ?_ fun g1 z1 b1 => ?_)
  · simp only [if_true]; refine wpAny_bind (wpAny_rule ?_); refine wpAny_bind (wpAny_field hz rfl (x := .ref TO) rfl ?_)
    refine wpAny_bind (wpAny_setField_rec hz (by simp) fun g1 z1 b1 => ?_); replace z1 : ZO g1 z TI TO .ellipsis f := z1
    refine wpAny_bind ?_; simp only [List.zipIdx_cons, List.zipIdx_nil, List.forIn_cons, List.forIn_nil]
    refine wpAny_bind (wpAny_bind (wpAny_onRaise ?_)); show wpAny _ _ (Builtin.SmallTypes.nextOf (.ref i1) >>= _) _ _ _
    cases hx : xs[k1]? with
    | none =>
      refine wpAny_bind (nextOf_tuple_end hh (h1.extBut b1.extBut D.i1z) (hl1.extBut b1.extBut D.l1z) hx fun g2 e b2 he => ?_)
      obtain ⟨oe, hoe, hce⟩ := he
      have z2 : ZO g2 z TI TO .ellipsis f := b2 _ _ D.i1z.symm z1
      have ne : e ≠ z := fun q => by
        rw [q, z2] at hoe
        cases hoe
        simp at hce
      exact wpAny_setField_rec z2 (by simp) fun g3 _ b3 => hE g3 e (fun c o c1 _ c3 _ q => b3.extBut _ _ c1 (b2 _ _ c3 (b1.extBut _ _ c1 q))) ⟨oe, b3.extBut _ _ ne hoe, hce⟩
    | some x =>
      have hy : ys[k2]? = none := by
        rcases hend with h | h
        · rw [hx] at h; cases h
        · exact h
      refine wpAny_bind (nextOf_tuple_item (h1.extBut b1.extBut D.i1z) (hl1.extBut b1.extBut D.l1z) hx fun g2 n1 b2 => wpAny_pure ?_)
      have t2 : IsPair g2 TO a b := b2.extBut _ _ D.TOi1 (b1.extBut _ _ D.TOz hTO)
      refine wpAny_bind (wpAny_seqItems t2 rfl ?_); refine wpAny_bind (wpAny_updateSeq_pair t2 fun g3 t3 b3 => ?_)
      refine wpAny_bind (wpAny_letGo (wpAny_pure ?_)); refine wpAny_bind (wpAny_bind (wpAny_onRaise ?_)); show wpAny _ _ (Builtin.SmallTypes.nextOf (.ref i2) >>= _) _ _ _
      have n2' := ((h2.extBut b1.extBut D.i2z).extBut b2.extBut D.i12.symm).extBut b3.extBut D.TOi2.symm
      have l2' := ((hl2.extBut b1.extBut D.l2z).extBut b2.extBut D.l2i1).extBut b3.extBut D.l2TO
      refine wpAny_bind (nextOf_tuple_end hh n2' l2' hy fun g4 e b4 he => ?_)
      obtain ⟨oe, hoe, hce⟩ := he
      have z4 : ZO g4 z TI TO .ellipsis f := b4 _ _ D.i2z.symm (b3.extBut _ _ D.TOz.symm (b2.extBut _ _ D.i1z.symm z1))
      have ne : e ≠ z := fun q => by
        rw [q, z4] at hoe
        cases hoe
        simp at hce
      exact wpAny_setField_rec z4 (by simp) fun g5 _ b5 => hE g5 e (fun c o c1 c2 c3 c4 q => b5.extBut _ _ c1 (b4 _ _ c4 (b3.extBut _ _ c2 (b2.extBut _ _ c3 (b1.extBut _ _ c1 q))))) ⟨oe, b5.extBut _ _ ne hoe, hce⟩
  · simp only [Bool.false_eq_true, if_false]; refine wpAny_bind ?_; rw [← Array.forIn_toList]; simp only [List.forIn_cons, List.forIn_nil]
    refine wpAny_bind (wpAny_bind (wpAny_holding ?_)); show wpAny _ _ (Builtin.SmallTypes.nextOf (.ref i1) >>= _) _ _ _
    cases hx : xs[k1]? with
    | none =>
      refine wpAny_bind (nextOf_tuple_end (s := { s with heap := g1 }) hh (h1.extBut b1.extBut D.i1z) (hl1.extBut b1.extBut D.l1z) hx fun g2 e b2 he => ?_)
      exact hE g2 e (fun c o c1 _ c3 _ q => b2 _ _ c3 (b1.extBut _ _ c1 q)) he
    | some x =>
      have hy : ys[k2]? = none := by
        rcases hend with h | h
        · rw [hx] at h; cases h
        · exact h
      refine wpAny_bind (nextOf_tuple_item (s := { s with heap := g1 }) (h1.extBut b1.extBut D.i1z) (hl1.extBut b1.extBut D.l1z) hx fun g2 n1 b2 => wpAny_pure ?_)
      refine wpAny_pure ?_; refine wpAny_bind (wpAny_bind (wpAny_holding ?_)); show wpAny _ _ (Builtin.SmallTypes.nextOf (.ref i2) >>= _) _ _ _
      refine wpAny_bind (nextOf_tuple_end (s := { s with heap := g2 }) hh ((h2.extBut b1.extBut D.i2z).extBut b2.extBut D.i12.symm) ((hl2.extBut b1.extBut D.l2z).extBut b2.extBut D.l2i1) hy fun g3 e b3 he => ?_)
      exact hE g3 e (fun c o c1 _ c3 c4 q => b3 _ _ c4 (b2.extBut _ _ c3 (b1.extBut _ _ c1 q))) he
theorem zipN_nextI {z TI TO i1 i2 l1 l2 : Addr} {k1 k2 : Nat} {xs ys : Array Value} {x y : Value} {Q : Option Value → Shared → Prop} (D : ZipApart z TI TO i1 i2 l1 l2)
    (S : ZSt s.heap z TI TO i1 i2 l1 l2 k1 k2) (hl1 : s.heap.IsTuple l1 xs) (hl2 : s.heap.IsTuple l2 ys) (hx : xs[k1]? = some x) (hy : ys[k2]? = some y)
    (hQ : ∀ h', ZSt h' z TI TO i1 i2 l1 l2 (k1 + 1) (k2 + 1) → IsPair h' s.heap.objs.size x y → h'.objs.size = s.heap.objs.size + 1 →
      (∀ c o, c ≠ z → c ≠ TO → c ≠ i1 → c ≠ i2 → s.heap.get? c = some o → h'.get? c = some o) → Q (some (.ref s.heap.objs.size)) { s with heap := h' }) : wpAny (model prog w) A (pyNext (.ref z)) Q E s := by
  obtain ⟨own, f, _, hz⟩ := S.zo
  have hT : s.TypeIs (.ref z) "zip" := ⟨_, hz, rfl⟩
  unfold pyNext
  refine wpAny_bind (wpAny_attempt (wpAny_callSpecial?_slot (name := Str.ofString "__next__") hT F.slot_zip_next (wpAny_call_entry F.slot_zip_next hT F.entry_zip_next ?_ (F.args_zip_next_1 _))))
  exact zipN_item D S hl1 hl2 hx hy fun h' a b c d => wpAny_pure (hQ h' a b c d)
theorem zipN_nextE {z TI TO i1 i2 l1 l2 : Addr} {k1 k2 : Nat} {xs ys : Array Value} {Q : Option Value → Shared → Prop} (hh : A.handled = none) (D : ZipApart z TI TO i1 i2 l1 l2)
    (S : ZSt s.heap z TI TO i1 i2 l1 l2 k1 k2) (hl1 : s.heap.IsTuple l1 xs) (hl2 : s.heap.IsTuple l2 ys) (hend : xs[k1]? = none ∨ ys[k2]? = none)
    (hQ : ∀ h', (∀ c o, c ≠ z → c ≠ TO → c ≠ i1 → c ≠ i2 → s.heap.get? c = some o → h'.get? c = some o) → Q none { s with heap := h' }) : wpAny (model prog w) A (pyNext (.ref z)) Q E s := by
  obtain ⟨own, f, _, hz⟩ := S.zo
  have hT : s.TypeIs (.ref z) "zip" := ⟨_, hz, rfl⟩
  unfold pyNext
  refine wpAny_bind (wpAny_attempt (wpAny_callSpecial?_slot (name := Str.ofString "__next__") hT F.slot_zip_next (wpAny_call_entry F.slot_zip_next hT F.entry_zip_next (zipN_end hh D S hl1 hl2 hend fun h' e hk he => ?_) (F.args_zip_next_1 _))))
  obtain ⟨o, ho, hc⟩ := he
  exact wpAny_bind (wpAny_isInstance (T := "StopIteration") (b := true) ⟨o, ho, hc⟩ isSubtype_stop (wpAny_pure (hQ _ hk)))
theorem zipN_self {z TI TO : Addr} {own : Value} {f : Bool} {Q : Value → Shared → Prop} (hz : ZO s.heap z TI TO own f) (h : Q (.ref z) s) : wpAny (model prog w) A (pyIter (.ref z)) Q E s := by
  have hT : s.TypeIs (.ref z) "zip" := ⟨_, hz, rfl⟩
  refine wpAny_pyIter_slot hT F.slot_zip_iter (wpAny_call_entry F.slot_zip_iter hT F.entry_zip_iter ?_ (F.args_zip_iter_1 _))
  exact wpAny_pure ⟨_, rfl, "zip", _, hT, F.slot_zip_next.lookup, h⟩
end
theorem turn_zipN {P : Program} {w : World} {K : PySem.W.Frag} {nm : Str} {tpos : Pos} {a b z TI TO i1 i2 : Addr} (D : ZipApart z TI TO i1 i2 a b) :
    Turn P w K (.Name nm tpos) (ItzT K a b) [z, TI, TO, i1, i2] z (fun i h => ZSt h z TI TO i1 i2 a b i i) where
  mem := by simp
  obj := fun i h S c hc => by
    obtain ⟨⟨own, f, _, hz⟩, hTI, ⟨x, y, hTO⟩, ⟨o1, e1, _, d1⟩, ⟨o2, e2, _, d2⟩⟩ := S
    simp only [List.mem_cons, List.not_mem_nil, or_false] at hc
    rcases hc with q | q | q | q | q <;> rw [q]
    · exact ⟨_, hz, fun v q => nomatch q⟩
    · exact ⟨_, hTI, fun v q => nomatch q⟩
    · exact ⟨_, hTO, fun v q => nomatch q⟩
    · exact ⟨o1, e1, fun v q => by rw [d1] at q; cases q⟩
    · exact ⟨o2, e2, fun v q => by rw [d2] at q; cases q⟩
  keep := fun i h h' S k => by
    obtain ⟨⟨own, f, ho, hz⟩, hTI, ⟨x, y, hTO⟩, h1, h2⟩ := S
    exact ⟨⟨own, f, ho, k z (by simp) _ hz⟩, k TI (by simp) _ hTI, ⟨x, y, k TO (by simp) _ hTO⟩, h1.at fun o q => k i1 (by simp) o q, h2.at fun o q => k i2 (by simp) o q⟩
  item := by
    intro X hP hw hK hc i pins s σ H E I hf S hg
    subst hP hw hK
    obtain ⟨xs, ys, x, y, hqx, hqy, hx, hy⟩ := hg
    obtain ⟨its, rv, p, _⟩ := I.tuple hqx
    obtain ⟨its2, rv2, p2, _⟩ := I.tuple hqy
    obtain ⟨u, hu, ru⟩ := rv.get hx
    obtain ⟨u2, hu2, ru2⟩ := rv2.get hy
    refine zipN_nextI D S p p2 (x := u) (y := u2) (by simpa using hu) (by simpa using hu2) fun h' S' hT hsz hk => ⟨_, rfl, ?_⟩
    show wpAny _ _ (pure ()) _ _ _
    have new : ObjOk X.prog X.w (upd H s.heap.objs.size (.tup [x, y])) h' s.heap.objs.size (.tup [x, y]) := ⟨by show 2 ≤ sizeLine; decide, [u, u2], .cons ru (.cons ru2 .nil), ⟨_, hT, rfl, _, rfl⟩⟩
    have I1 : Inv X pins σ (upd H s.heap.objs.size (.tup [x, y])) { s with heap := h' } :=
      I.turnedNew (t' := s.toks) (ch := [z, TI, TO, i1, i2]) (fun c o hb q => by
        simp only [List.mem_cons, List.not_mem_nil, or_false, not_or] at hb
        exact hk c o hb.1 hb.2.2.1 hb.2.2.2.1 hb.2.2.2.2 q) hf (Nat.le_refl _) new
    refine wpAny_pure ⟨.ref s.heap.objs.size, _, I1, rfl, ⟨_, x, y, rfl, I.hok.fresh (Nat.le_refl _), rfl, fun l hl => by rw [I.tuple_inj hl hqx]; exact hx, fun l hl => by rw [I.tuple_inj hl hqy]; exact hy⟩, S', fun c hcm => ?_⟩
    have hlt : c < s.heap.objs.size := by
      obtain ⟨⟨own, f, _, hz⟩, hTI, ⟨x, y, hTO⟩, ⟨o1, e1, _, d1⟩, ⟨o2, e2, _, d2⟩⟩ := S
      have hc2 := hcm
      simp only [List.mem_cons, List.not_mem_nil, or_false] at hc2
      rcases hc2 with q | q | q | q | q <;> rw [q]
      · exact Heap.lt_size hz
      · exact Heap.lt_size hTI
      · exact Heap.lt_size hTO
      · exact Heap.lt_size e1
      · exact Heap.lt_size e2
    rw [upd_ne (Nat.ne_of_lt hlt)]
    exact (hf c hcm).1
  done := by
    intro X hP hw hK hc i pins s σ H E I hf S hg
    subst hP hw hK
    obtain ⟨xs, ys, hqx, hqy, hend⟩ := hg
    obtain ⟨its, rv, p, _⟩ := I.tuple hqx
    obtain ⟨its2, rv2, p2, _⟩ := I.tuple hqy
    have l1 := rv.length
    have l2 := rv2.length
    have he : its.toArray[i]? = none ∨ its2.toArray[i]? = none := by
      rcases hend with q | q
      · exact .inl (by simp; omega)
      · exact .inr (by simp; omega)
    refine zipN_nextE (I.ok.hd hc) D S p p2 he fun h' hk => ⟨rfl, I.turnedL (t' := s.toks) (ch := [z, TI, TO, i1, i2]) (fun c o hb q => ?_) hf⟩
    simp only [List.mem_cons, List.not_mem_nil, or_false, not_or] at hb
    exact hk c o hb.1 hb.2.2.1 hb.2.2.2.1 hb.2.2.2.2 q
  self := fun A i s Q E S h => by
    obtain ⟨own, f, _, hz⟩ := S.zo
    exact zipN_self hz h
def iZipN (K : PySem.W.Frag) (ta : TA) : TI := fun σ H R => ta σ H fun vs H1 => ∃ a b xs ys, vs = [.ref a, .ref b] ∧ SqT K H1 a xs ∧ SqT K H1 b ys ∧ R (ItzT K a b) H1
theorem pi_zipN {X : Cx} {e e2 : Expr} {ta : TA} {p pos tpos : Pos} {nm : Str} (hg : Gl X "zip") (hm : X.mg "zip" = none) (ha : PA X [e, e2] ta)
    (hs : starEach [e, e2] X.env = (false, eval e X.env) :: starEach [e2] X.env := by rfl) (hpl : (backTo pos (starEach [e2] X.env)).any (·.1) = false := by rfl) :
    PI X (.Name nm tpos) (.Call (.Name "zip" p) [e, e2] [] pos) (iZipN X.K ta) := by
  constructor
  intro pins s σ H R I h
  refine Call_ (ld_blt I hg hm PyProof.Rows.boot_zip (PyProof.Rows.callWith_type1 (thn (ha.run pos pins s σ H _ I h) ?_) hs hpl))
  rintro us s1 ⟨vs, H1, I1, r1, a, b, xs, ys, rfl, hqx, hqy, q⟩
  obtain ⟨u, u', rfl, ra, rb⟩ := vals2 r1
  cases ra
  cases rb
  have fr5 : ∀ c, c ∈ [s1.heap.objs.size + 4, s1.heap.objs.size + 2, s1.heap.objs.size + 3, s1.heap.objs.size, s1.heap.objs.size + 1] → FpOk X pins H1 c := fun c hc => by
    have hle : s1.heap.objs.size ≤ c := by
      simp only [List.mem_cons, List.not_mem_nil, or_false] at hc
      rcases hc with q | q | q | q | q <;> rw [q] <;> first | exact Nat.le_add_right _ _ | exact Nat.le_refl _
    exact I1.fpOk hle (I1.hok.fresh hle)
  obtain ⟨its, rv, p1, _⟩ := I1.tuple hqx
  obtain ⟨its2, rv2, p2, _⟩ := I1.tuple hqy
  obtain ⟨o1, ho1, _⟩ := id p1
  obtain ⟨o2, ho2, _⟩ := id p2
  refine call_zipT p1 p2 fun h' hz hTI hTO h1 h2 hsz hk => wpAny_pyIter_zip hz ?_
  have I2 : Inv X pins σ H1 { s1 with heap := h' } := I1.kept (t' := s1.toks) hk
  exact ⟨_, [s1.heap.objs.size + 4, s1.heap.objs.size + 2, s1.heap.objs.size + 3, s1.heap.objs.size, s1.heap.objs.size + 1], _, _, H1, rfl, I2, turn_zipN (PySem.W.ktu_apart s1.heap.objs.size a b (Heap.lt_size ho1) (Heap.lt_size ho2)), ⟨⟨_, _, .inl rfl, hz⟩, hTI, ⟨_, _, hTO⟩, h1, h2⟩, fr5, q⟩
/-- the reading of a comprehension over such a zip -/
theorem lc_zipT {K : PySem.W.Frag} {a b : Addr} {xs ys : List V} {g : TG} {tt : TT} {te : TE} {vs : List Nat} {σ : L2.St} {H1 : Hp} {D : Addr} {Qd : Hp → Prop} (hl : xs.length = ys.length) (Pv : Nat → Hp → Prop) (h0 : Pv 0 (upd H1 D (.lst []))) (hq : ∀ i H, Pv i H → SqT K H a xs ∧ SqT K H b ys)
    (hs : ∀ i x y T H, xs[i]? = some x → ys[i]? = some y → Pv i H → H T = none → g (.ref T) (wipe σ vs) (upd H T (.tup [x, y])) fun σ2 H2 => wipe σ2 vs = wipe σ vs ∧ tt σ2 H2 fun c H3 =>
      if c = true then te σ2 H3 fun z H4 => ∃ acc, H4 D = some (.lst acc) ∧ acc.length < sizeLine ∧ Pv (i + 1) (upd H4 D (.lst (acc ++ [z]))) else Pv (i + 1) H3) (hd : ∀ H, Pv xs.length H → Qd H) :
    ∃ W : Nat → Nat → Hp → Prop, (∃ m, W 0 m (upd H1 D (.lst []))) ∧ ∀ i m H, W i m H →
      ((ItzT K a b).stop i H ∧ Qd H) ∨ ((ItzT K a b).go i H ∧ ∃ Nx : Hp → Prop, (∀ H', Nx H' → ∃ m', m' < m ∧ W (i + 1) m' H') ∧ ∀ x H', (ItzT K a b).yld i H x H' → g x (wipe σ vs) H' fun σ2 H2 => wipe σ2 vs = wipe σ vs ∧ tt σ2 H2 fun c H3 =>
        if c = true then te σ2 H3 fun z H4 => ∃ acc, H4 D = some (.lst acc) ∧ acc.length < sizeLine ∧ Nx (upd H4 D (.lst (acc ++ [z]))) else Nx H3) := by
  refine ⟨fun i m H => m = xs.length - i ∧ i ≤ xs.length ∧ Pv i H, ⟨xs.length, rfl, Nat.zero_le _, h0⟩, ?_⟩
  rintro i m H ⟨rfl, hi, p⟩
  obtain ⟨qx, qy⟩ := hq i H p
  by_cases hlt : i < xs.length
  · have hlt2 : i < ys.length := by omega
    refine .inr ⟨⟨xs, ys, xs[i], ys[i], qx, qy, List.getElem?_eq_getElem hlt, List.getElem?_eq_getElem hlt2⟩, Pv (i + 1), fun H' p' => ⟨xs.length - (i + 1), by omega, rfl, hlt, p'⟩, fun x H' yl => ?_⟩
    obtain ⟨T, x, y, rfl, hT, rfl, f1, f2⟩ := yl
    exact hs i x y T H (f1 _ qx) (f2 _ qy) p hT
  · have e : i = xs.length := by omega
    subst e
    exact .inl ⟨⟨xs, ys, qx, qy, .inl (Nat.le_refl _)⟩, hd H p⟩
end Vq
set_option maxHeartbeats 1000000
namespace Vq
open PySem PySem.Spec PyProof.Rows L2
/-! ### rules in short -/
theorem get_lst {X : Cx} : PGet X (rIxL X.K) := by
  intro pins s σ H o i ov iv Q I ro ri h
  obtain ⟨p, xs, k, z, rfl, rfl, hq, he, q⟩ := h
  cases ro
  obtain ⟨t, rfl⟩ := ri
  obtain ⟨its, r, pl, hz⟩ := I.list hq
  obtain ⟨j, h1, h2, h3, h4, h5⟩ := atI_get he
  obtain ⟨w, ew, rw'⟩ := r.get h2
  have hl := r.length
  have hn := line63
  have fin : EP X pins σ Q w s := ⟨z, H, I, rw', q⟩
  have hs : its.toArray.size = xs.length := by rw [List.size_toArray]; exact hl.symm
  by_cases h0 : 0 ≤ k
  · have hj : k.toNat = j := Option.some.inj ((seqIndex_of h0 h5).symm.trans h1)
    exact wpAny_getItem_list pl.isList h0 (by omega) (by rw [hj]; simpa using ew) fin
  · have hj : (k + (its.toArray.size : Int)).toNat = j := by
      rw [hs]
      exact Option.some.inj ((seqIndex_neg (by omega) h4).symm.trans h1)
    exact wpAny_getItem_list_neg pl.isList (by omega) (by omega) (by omega) (by rw [hj]; simpa using ew) fin
theorem pt_bool {X : Cx} {e : Expr} {t : TT} (h : PW X e t) : PT X e t := h.pt
structure D1 (K : PySem.W.Frag) (mg : Str → Option Value) (x : Str) (st : Stmt) (ps : List Str) : Prop where
  ex : ∃ f fd, L2.Fun K x x st f fd ∧ mg x = some (.ref f) ∧ Binds K fd ps []
structure GCal (P : Program) (w : World) (K : PySem.W.Frag) (mg : Str → Option Value) (base : Heap) (k : Nat) (x : Str) (sp : Sp) : Prop where
  ex : ∃ f fd ps, GFn P w K mg base k f fd ps sp ∧ mg x = some (.ref f) ∧ PySem.W.keepIn K (.ref f) = true ∧ Binds K fd ps []
section
variable {P : Program} {w : World} {K : PySem.W.Frag} {mg : Str → Option Value} {base : Heap}
theorem GFn.mono {j k : Nat} {f : Addr} {fd : FuncData} {ps : List Str} {sp : Sp} (F : GFn P w K mg base j f fd ps sp) (h : j ≤ k) : GFn P w K mg base k f fd ps sp :=
  ⟨F.len, fun A hG hr => F.run A hG (hr.mono h)⟩
theorem cal_of {x : Str} {st : Stmt} {N ps : List Str} {k : Nat} {sp : Sp} (D : D1 K mg x st ps) (S : FnScope N ps (defScope st)) (len : ∀ vs H Q E, sp vs H Q E → vs.length = ps.length)
    (hbody : ∀ (f : Addr) (cdv : Value) (A : Around) (outer : List Env) (s : Shared) (H : Hp) (vs : List V) (Q : VK) (E : XK), Room k (A.deeper (envOfC x (defScope st) s.heap.objs.size f cdv)) → sp vs H Q E →
      ∃ t, PSs (cxOf CX0 P w K mg base N x (defScope st) f cdv A outer s H E).nox (defBody st) t ∧ t { nx := fun _ H' => Q .non H', rt := Q } (start N vs) H) : C8.Cal P w K mg base (k + 1) x sp [] := by
  obtain ⟨f, fd, F, m, b⟩ := D.ex
  exact ⟨f, fd, ps, [], F.ok S len fun cdv A outer s H vs Q E hr h => hbody f cdv A outer s H vs Q E hr h, m, F.kp, b, .nil⟩
theorem gcal_of {x : Str} {st : Stmt} {N ps : List Str} {k : Nat} {sp : Sp} (D : D1 K mg x st ps) (S : FnScope N ps (defScope st)) (len : ∀ vs H Q E, sp vs H Q E → vs.length = ps.length)
    (hbody : ∀ (f : Addr) (cdv : Value) (A : Around) (outer : List Env) (s : Shared) (H : Hp) (vs : List V) (Q : VK) (E : XK), A.guards = some [] → Room k (A.deeper (envOfC x (defScope st) s.heap.objs.size f cdv)) → sp vs H Q E →
      ∃ t, PSs (cxOf CX0 P w K mg base N x (defScope st) f cdv A outer s H E).nox (defBody st) t ∧ t { nx := fun _ H' => Q .non H', rt := Q } (start N vs) H) : GCal P w K mg base (k + 1) x sp := by
  obtain ⟨f, fd, F, m, b⟩ := D.ex
  exact ⟨f, fd, ps, gfn_of F S len fun cdv A outer s H vs Q E hg hr h => hbody f cdv A outer s H vs Q E hg hr h, m, F.kp, b⟩
end
theorem pe_gc {X : Cx} {j k : Nat} {sp : Sp} {x : Str} {p pos : Pos} {e : Expr} {es : List Expr} {t : TA} (hG : X.A.guards = some []) (c : GCal X.prog X.w X.K X.mg X.base k x sp) (hr : Room j X.A) (hk : k ≤ j) (hg : Gl X x) (ha : PA X (e :: es) t)
    (hdb : (x == ("__debug__" : Str)) = false := by decide) (he : starEach (e :: es) X.env = (false, eval e X.env) :: starEach es X.env := by rfl) (hpl : (backTo pos (starEach es X.env)).any (·.1) = false := by rfl) :
    PE X (.Call (.Name x p) (e :: es) [] pos) (tCall sp [] E0 t) := by
  obtain ⟨f, fd, ps, F, hm, kp, b⟩ := c.ex
  exact pe_gcall hG (F.mono hk) hr hg hm kp b ha hdb he hpl
structure Mg (mg : Str → Option Value) : Prop where
  gcd : mg "gcd" = some (.builtin "math.gcd")
  abs : mg "abs" = none
  int : mg "int" = none
  len : mg "len" = none
  min : mg "min" = none
  sorted : mg "sorted" = none
  tuple : mg "tuple" = none
  range : mg "range" = none
  zip : mg "zip" = none
  repr : mg "repr" = none

/-! ### heaps: all but g stays -/
def Stay (g : Addr) (H H' : Hp) : Prop := ∀ b o, H b = some o → b ≠ g → H' b = some o
section
variable {g p a : Addr} {H H1 H2 : Hp} {o : HO} {K : PySem.W.Frag} {xs : List V}
theorem Stay.refl (g : Addr) (H : Hp) : Stay g H H := fun _ _ e _ => e
theorem Stay.trans (s : Stay g H H1) (t : Stay g H1 H2) : Stay g H H2 := fun b o e n => t b o (s b o e n) n
theorem Stay.of (s : Same H H1) : Stay g H H1 := fun b o e _ => s b o e
theorem Stay.at : Stay g H (upd H g o) := fun b u e n => by rw [upd_ne n]; exact e
theorem same_new (h : H p = none) : Same H (upd H p o) := fun b x e => by rw [upd_ne (ne_of_none e h)]; exact e
theorem stay_new (h : H p = none) : Stay g H (upd H p o) := .of (same_new h)
theorem Stay.free (s : Stay g H H1) (n : a ≠ g) (h : H1 a = none) : H a = none := by
  cases q : H a with
  | none => rfl
  | some u => rw [s a u q n] at h; cases h
theorem Rd.stay {u : HO} (s : Stay g H H1) (n : a ≠ g) (h : Rd H a u) : Rd H1 a u := by
  rcases h with h | ⟨o, h⟩
  · exact .inl (s _ _ h n)
  · exact .inr ⟨o, s _ _ h n⟩
theorem stL (s : Stay g H H1) (n : a ≠ g) (h : SqL K H a xs) : SqL K H1 a xs := h.imp (Rd.stay s n) id
theorem stT (s : Stay g H H1) (n : a ≠ g) (h : SqT K H a xs) : SqT K H1 a xs := h.imp (Rd.stay s n) id
theorem saT (s : Same H H1) (h : SqT K H a xs) : SqT K H1 a xs := by
  rcases h with (h | ⟨o, h⟩) | h
  · exact .inl (.inl (s _ _ h))
  · exact .inl (.inr ⟨o, s _ _ h⟩)
  · exact .inr h
end
/-! ### data of ints, truths, None and tuples, all of it tracked -/
mutual
inductive Dt (H : Hp) : V → PyData → Prop
  | non : Dt H .non .none
  | bl (b : Bool) : Dt H (.bl b) (.bool b)
  | int (i : Int) : Dt H (.int i) (.int i)
  | tup {a : Addr} {xs : List V} {ds : List PyData} : H a = some (.tup xs) → DtA H xs ds → Dt H (.ref a) (.tuple ds)
inductive DtA (H : Hp) : List V → List PyData → Prop
  | nil : DtA H [] []
  | cons {v : V} {vs : List V} {d : PyData} {ds : List PyData} : Dt H v d → DtA H vs ds → DtA H (v :: vs) (d :: ds)
end
mutual
theorem Dt.dp {K : PySem.W.Frag} {H : Hp} : ∀ {v : V} {d : PyData}, Dt H v d → Dp K H v d
  | _, _, .non => .non
  | _, _, .bl b => .bl b
  | _, _, .int i => .int i
  | _, _, .tup h t => .tup (SqT.of h) (DtA.dp t)
theorem DtA.dp {K : PySem.W.Frag} {H : Hp} : ∀ {v : List V} {d : List PyData}, DtA H v d → DpAll K H v d
  | _, _, .nil => .nil
  | _, _, .cons h t => .cons (Dt.dp h) (DtA.dp t)
end
/-- what changes is no tuple -/
def Soft (H H' : Hp) : Prop := ∀ b xs, H b = some (.tup xs) → H' b = some (.tup xs)
theorem Soft.refl (H : Hp) : Soft H H := fun _ _ h => h
theorem Soft.trans {H H1 H2 : Hp} (a : Soft H H1) (b : Soft H1 H2) : Soft H H2 := fun c x h => b c x (a c x h)
theorem Same.soft {H H' : Hp} (s : Same H H') : Soft H H' := fun b xs h => s b _ h
theorem Stay.soft {g : Addr} {H H' : Hp} (s : Stay g H H') {ys : List V} (hg : H g = some (.lst ys)) : Soft H H' := fun b xs h => s b _ h fun e => by
  rw [e, hg] at h
  cases h
theorem soft_lst {H : Hp} {p : Addr} {ys zs : List V} (h : H p = some (.lst ys)) : Soft H (upd H p (.lst zs)) := fun b xs e => by
  rw [upd_ne (ne_of e h (fun z => nomatch z))]
  exact e
theorem soft_dK {H : Hp} {p : Addr} {ys zs : List (L2.Key × V)} (h : H p = some (.dK ys)) : Soft H (upd H p (.dK zs)) := fun b xs e => by
  rw [upd_ne (ne_of e h (fun z => nomatch z))]
  exact e
theorem soft_new {H : Hp} {p : Addr} {o : HO} (h : H p = none) : Soft H (upd H p o) := Same.soft (same_new h)
mutual
theorem Dt.soft {H H' : Hp} (s : Soft H H') : ∀ {v : V} {d : PyData}, Dt H v d → Dt H' v d
  | _, _, .non => .non
  | _, _, .bl b => .bl b
  | _, _, .int i => .int i
  | _, _, .tup h t => .tup (s _ _ h) (DtA.soft s t)
theorem DtA.soft {H H' : Hp} (s : Soft H H') : ∀ {v : List V} {d : List PyData}, DtA H v d → DtA H' v d
  | _, _, .nil => .nil
  | _, _, .cons h t => .cons (Dt.soft s h) (DtA.soft s t)
end
theorem DtA.len {H : Hp} : ∀ {v : List V} {d : List PyData}, DtA H v d → v.length = d.length
  | _, _, .nil => rfl
  | _, _, .cons _ t => congrArg (· + 1) (DtA.len t)
theorem DtA.get {H : Hp} : ∀ {v : List V} {d : List PyData} {i : Nat} {x : V}, DtA H v d → v[i]? = some x → ∃ y, d[i]? = some y ∧ Dt H x y
  | _, _, _, _, .nil, e => by simp at e
  | _, _, 0, _, .cons h t, e => by
    cases e
    exact ⟨_, rfl, h⟩
  | _, _, i + 1, x, .cons h t, e => DtA.get (i := i) t (by simpa using e)
theorem DtA.append {H : Hp} : ∀ {v w : List V} {d e : List PyData}, DtA H v d → DtA H w e → DtA H (v ++ w) (d ++ e)
  | _, _, _, _, .nil, q => q
  | _, _, _, _, .cons h t, q => .cons h (DtA.append t q)
theorem DtA.one {H : Hp} {v : V} {d : PyData} (h : Dt H v d) : DtA H [v] [d] := .cons h .nil

/-! ### fractions, terms, numbers -/
abbrev Fr := Int × Int
abbrev Tm := Int × Fr
def frD (f : Fr) : PyData := .tuple [.int f.1, .int f.2]
def tmD (t : Tm) : PyData := .tuple [.int t.1, frD t.2]
def nmD (l : List Tm) : PyData := .tuple (l.map tmD)
def orD : Option Int → PyData
  | none => .none
  | some i => .int i
theorem Dt.ord {H : Hp} : ∀ o : Option Int, Dt H (ordV o) (orD o)
  | none => .non
  | some i => .int i
theorem Dt.fr {H : Hp} {v : V} {f : Fr} (h : Dt H v (frD f)) : ∃ a, v = .ref a ∧ H a = some (.tup [.int f.1, .int f.2]) := by
  obtain ⟨n, d⟩ := f
  cases h with
  | tup h t =>
    cases t with
    | cons h1 t =>
      cases t with
      | cons h2 t =>
        cases t
        cases h1
        cases h2
        exact ⟨_, rfl, h⟩
theorem Dt.mkFr {H : Hp} {a : Addr} {n d : Int} (h : H a = some (.tup [.int n, .int d])) : Dt H (.ref a) (frD (n, d)) := .tup h (.cons (.int n) (.one (.int d)))
theorem Dt.tm {H : Hp} {v : V} {t : Tm} (h : Dt H v (tmD t)) : ∃ a u, v = .ref a ∧ H a = some (.tup [.int t.1, u]) ∧ Dt H u (frD t.2) := by
  obtain ⟨n, f⟩ := t
  cases h with
  | tup h t =>
    cases t with
    | cons h1 t =>
      cases t with
      | cons h2 t =>
        cases t
        cases h1
        exact ⟨_, _, rfl, h, h2⟩
theorem Dt.mkTm {H : Hp} {a : Addr} {n : Int} {u : V} {f : Fr} (h : H a = some (.tup [.int n, u])) (hu : Dt H u (frD f)) : Dt H (.ref a) (tmD (n, f)) := .tup h (.cons (.int n) (.one hu))
theorem Dt.nm {H : Hp} {v : V} {l : List Tm} (h : Dt H v (nmD l)) : ∃ a xs, v = .ref a ∧ H a = some (.tup xs) ∧ DtA H xs (l.map tmD) := by
  cases h with
  | tup h t => exact ⟨_, _, rfl, h, t⟩
theorem DtA.at {H : Hp} {xs : List V} {l : List Tm} {i : Nat} {x : V} (h : DtA H xs (l.map tmD)) (e : xs[i]? = some x) : ∃ t, l[i]? = some t ∧ Dt H x (tmD t) := by
  obtain ⟨y, h1, h2⟩ := h.get e
  rw [List.getElem?_map] at h1
  cases q : l[i]? with
  | none => rw [q] at h1; cases h1
  | some t =>
    rw [q] at h1
    cases h1
    exact ⟨t, rfl, h2⟩
/-- what a body ends with: data, all else as it was -/
abbrev Gives (H : Hp) (d : PyData) (Q : VK) : Prop := ∀ v H', Same H H' → Dt H' v d → Q v H'
end Vq
set_option maxHeartbeats 1000000
namespace Vq
open PySem PySem.Spec PyProof.Rows L2
def topS (i : Nat) : Stmt := PySem.Challenge.pw_leastpowers_k02_numbers_by_sums.main.body.getD i (.Pass ⟨0, 0, 0, 0⟩)
abbrev s_fraction_of : Stmt := topS 2
abbrev n_fraction_of : List Str := ["num", "den", "common"]
theorem sc_fraction_of : FnScope n_fraction_of ["num", "den"] (defScope s_fraction_of) := ⟨rfl, rfl, rfl, by decide +kernel, rfl, by decide +kernel, by decide +kernel⟩
abbrev s_fraction_total : Stmt := topS 3
abbrev n_fraction_total : List Str := ["one", "other"]
theorem sc_fraction_total : FnScope n_fraction_total ["one", "other"] (defScope s_fraction_total) := ⟨rfl, rfl, rfl, by decide +kernel, rfl, by decide +kernel, by decide +kernel⟩
abbrev s_fraction_times : Stmt := topS 4
abbrev n_fraction_times : List Str := ["one", "other"]
theorem sc_fraction_times : FnScope n_fraction_times ["one", "other"] (defScope s_fraction_times) := ⟨rfl, rfl, rfl, by decide +kernel, rfl, by decide +kernel, by decide +kernel⟩
abbrev s_number_of : Stmt := topS 5
abbrev n_number_of : List Str := ["factors", "power"]
theorem sc_number_of : FnScope n_number_of ["factors"] (defScope s_number_of) := ⟨rfl, rfl, rfl, by decide +kernel, rfl, by decide +kernel, by decide +kernel⟩
abbrev s_term : Stmt := topS 6
abbrev n_term : List Str := ["power", "factor"]
theorem sc_term : FnScope n_term ["power", "factor"] (defScope s_term) := ⟨rfl, rfl, rfl, by decide +kernel, rfl, by decide +kernel, by decide +kernel⟩
abbrev s_order_of : Stmt := topS 7
abbrev n_order_of : List Str := ["number"]
theorem sc_order_of : FnScope n_order_of ["number"] (defScope s_order_of) := ⟨rfl, rfl, rfl, by decide +kernel, rfl, by decide +kernel, by decide +kernel⟩
abbrev s_leading_of : Stmt := topS 8
abbrev n_leading_of : List Str := ["number"]
theorem sc_leading_of : FnScope n_leading_of ["number"] (defScope s_leading_of) := ⟨rfl, rfl, rfl, by decide +kernel, rfl, by decide +kernel, by decide +kernel⟩
abbrev s_total : Stmt := topS 9
abbrev n_total : List Str := ["numbers", "factors", "number", "power", "factor"]
theorem sc_total : FnScope n_total ["numbers"] (defScope s_total) := ⟨rfl, rfl, rfl, by decide +kernel, rfl, by decide +kernel, by decide +kernel⟩
abbrev s_less : Stmt := topS 10
abbrev n_less : List Str := ["one", "other"]
theorem sc_less : FnScope n_less ["one", "other"] (defScope s_less) := ⟨rfl, rfl, rfl, by decide +kernel, rfl, by decide +kernel, by decide +kernel⟩
abbrev s_times : Stmt := topS 11
abbrev n_times : List Str := ["one", "other", "factors", "power", "factor", "by", "share", "part"]
theorem sc_times : FnScope n_times ["one", "other"] (defScope s_times) := ⟨rfl, rfl, rfl, by decide +kernel, rfl, by decide +kernel, by decide +kernel⟩
abbrev s_later : Stmt := topS 12
abbrev n_later : List Str := ["order", "delay"]
theorem sc_later : FnScope n_later ["order", "delay"] (defScope s_later) := ⟨rfl, rfl, rfl, by decide +kernel, rfl, by decide +kernel, by decide +kernel⟩
abbrev s_not_above : Stmt := topS 13
abbrev n_not_above : List Str := ["one", "other"]
theorem sc_not_above : FnScope n_not_above ["one", "other"] (defScope s_not_above) := ⟨rfl, rfl, rfl, by decide +kernel, rfl, by decide +kernel, by decide +kernel⟩
abbrev s_least_order : Stmt := topS 14
abbrev n_least_order : List Str := ["orders", "order"]
theorem sc_least_order : FnScope n_least_order ["orders"] (defScope s_least_order) := ⟨rfl, rfl, rfl, by decide +kernel, rfl, by decide +kernel, by decide +kernel⟩
abbrev s_least_items : Stmt := topS 15
abbrev n_least_items : List Str := ["one", "other", "pair"]
theorem sc_least_items : FnScope n_least_items ["one", "other"] (defScope s_least_items) := ⟨rfl, rfl, rfl, by decide +kernel, rfl, by decide +kernel, by decide +kernel⟩
abbrev s_l_bag : Stmt := topS 17
abbrev n_l_bag : List Str := ["_law_script", "_law_cell"]
theorem sc_l_bag : FnScope n_l_bag ["_law_script"] (defScope s_l_bag) := ⟨rfl, rfl, rfl, by decide +kernel, rfl, by decide +kernel, by decide +kernel⟩
abbrev s_l_take : Stmt := topS 18
abbrev n_l_take : List Str := ["_law_bag_here", "_law_many", "_law_cell", "_law_stirred", "_law_value", "_law_begin", "_law_second"]
theorem sc_l_take : FnScope n_l_take ["_law_bag_here", "_law_many"] (defScope s_l_take) := ⟨rfl, rfl, rfl, by decide +kernel, rfl, by decide +kernel, by decide +kernel⟩
abbrev s_l_some : Stmt := topS 19
abbrev n_l_some : List Str := ["_law_bag_here", "_law_things"]
theorem sc_l_some : FnScope n_l_some ["_law_bag_here", "_law_things"] (defScope s_l_some) := ⟨rfl, rfl, rfl, by decide +kernel, rfl, by decide +kernel, by decide +kernel⟩
abbrev s_l_alike : Stmt := topS 20
abbrev n_l_alike : List Str := ["_law_found", "_law_due"]
theorem sc_l_alike : FnScope n_l_alike ["_law_found", "_law_due"] (defScope s_l_alike) := ⟨rfl, rfl, rfl, by decide +kernel, rfl, by decide +kernel, by decide +kernel⟩
abbrev s_l_later : Stmt := topS 21
abbrev n_l_later : List Str := ["_law_order", "_law_delay_here"]
theorem sc_l_later : FnScope n_l_later ["_law_order", "_law_delay_here"] (defScope s_l_later) := ⟨rfl, rfl, rfl, by decide +kernel, rfl, by decide +kernel, by decide +kernel⟩
abbrev s_l_not_above : Stmt := topS 22
abbrev n_l_not_above : List Str := ["_law_one", "_law_other"]
theorem sc_l_not_above : FnScope n_l_not_above ["_law_one", "_law_other"] (defScope s_l_not_above) := ⟨rfl, rfl, rfl, by decide +kernel, rfl, by decide +kernel, by decide +kernel⟩
abbrev s_l_lesser : Stmt := topS 23
abbrev n_l_lesser : List Str := ["_law_one", "_law_other"]
theorem sc_l_lesser : FnScope n_l_lesser ["_law_one", "_law_other"] (defScope s_l_lesser) := ⟨rfl, rfl, rfl, by decide +kernel, rfl, by decide +kernel, by decide +kernel⟩
abbrev s_l_least_order : Stmt := topS 24
abbrev n_l_least_order : List Str := ["_law_orders", "_law_found", "_law_order"]
theorem sc_l_least_order : FnScope n_l_least_order ["_law_orders"] (defScope s_l_least_order) := ⟨rfl, rfl, rfl, by decide +kernel, rfl, by decide +kernel, by decide +kernel⟩
abbrev s_l_delay : Stmt := topS 25
abbrev n_l_delay : List Str := ["_law_bag_here"]
theorem sc_l_delay : FnScope n_l_delay ["_law_bag_here"] (defScope s_l_delay) := ⟨rfl, rfl, rfl, by decide +kernel, rfl, by decide +kernel, by decide +kernel⟩
abbrev s_l_greatest_divisor : Stmt := topS 26
abbrev n_l_greatest_divisor : List Str := ["_law_one", "_law_other"]
theorem sc_l_greatest_divisor : FnScope n_l_greatest_divisor ["_law_one", "_law_other"] (defScope s_l_greatest_divisor) := ⟨rfl, rfl, rfl, by decide +kernel, rfl, by decide +kernel, by decide +kernel⟩
abbrev s_l_fraction : Stmt := topS 27
abbrev n_l_fraction : List Str := ["_law_num", "_law_den", "_law_by"]
theorem sc_l_fraction : FnScope n_l_fraction ["_law_num", "_law_den"] (defScope s_l_fraction) := ⟨rfl, rfl, rfl, by decide +kernel, rfl, by decide +kernel, by decide +kernel⟩
abbrev s_l_factor : Stmt := topS 28
abbrev n_l_factor : List Str := ["_law_bag_here"]
theorem sc_l_factor : FnScope n_l_factor ["_law_bag_here"] (defScope s_l_factor) := ⟨rfl, rfl, rfl, by decide +kernel, rfl, by decide +kernel, by decide +kernel⟩
abbrev s_l_summed : Stmt := topS 29
abbrev n_l_summed : List Str := ["_law_terms", "_law_found", "_law_power", "_law_num", "_law_den", "_law_one"]
theorem sc_l_summed : FnScope n_l_summed ["_law_terms"] (defScope s_l_summed) := ⟨rfl, rfl, rfl, by decide +kernel, rfl, by decide +kernel, by decide +kernel⟩
abbrev s_l_total : Stmt := topS 30
abbrev n_l_total : List Str := ["_law_numbers", "_law_found", "_law_number_here"]
theorem sc_l_total : FnScope n_l_total ["_law_numbers"] (defScope s_l_total) := ⟨rfl, rfl, rfl, by decide +kernel, rfl, by decide +kernel, by decide +kernel⟩
abbrev s_l_times : Stmt := topS 31
abbrev n_l_times : List Str := ["_law_one", "_law_other", "_law_found", "_law_power", "_law_factor_here", "_law_more", "_law_by"]
theorem sc_l_times : FnScope n_l_times ["_law_one", "_law_other"] (defScope s_l_times) := ⟨rfl, rfl, rfl, by decide +kernel, rfl, by decide +kernel, by decide +kernel⟩
abbrev s_l_minus : Stmt := topS 32
abbrev n_l_minus : List Str := ["_law_number_here", "_law_power", "_law_factor_here"]
theorem sc_l_minus : FnScope n_l_minus ["_law_number_here"] (defScope s_l_minus) := ⟨rfl, rfl, rfl, by decide +kernel, rfl, by decide +kernel, by decide +kernel⟩
abbrev s_l_order_of : Stmt := topS 33
abbrev n_l_order_of : List Str := ["_law_number_here"]
theorem sc_l_order_of : FnScope n_l_order_of ["_law_number_here"] (defScope s_l_order_of) := ⟨rfl, rfl, rfl, by decide +kernel, rfl, by decide +kernel, by decide +kernel⟩
abbrev s_l_number : Stmt := topS 34
abbrev n_l_number : List Str := ["_law_bag_here", "_law_order", "_law_most", "_law_terms", "_law_power", "_law_turn"]
theorem sc_l_number : FnScope n_l_number ["_law_bag_here", "_law_order", "_law_most"] (defScope s_l_number) := ⟨rfl, rfl, rfl, by decide +kernel, rfl, by decide +kernel, by decide +kernel⟩
abbrev s_l_less : Stmt := topS 35
abbrev n_l_less : List Str := ["_law_one", "_law_other"]
theorem sc_l_less : FnScope n_l_less ["_law_one", "_law_other"] (defScope s_l_less) := ⟨rfl, rfl, rfl, by decide +kernel, rfl, by decide +kernel, by decide +kernel⟩
abbrev s_l_any_number : Stmt := topS 36
abbrev n_l_any_number : List Str := ["_law_bag_here"]
theorem sc_l_any_number : FnScope n_l_any_number ["_law_bag_here"] (defScope s_l_any_number) := ⟨rfl, rfl, rfl, by decide +kernel, rfl, by decide +kernel, by decide +kernel⟩
abbrev s_l_are_orders_right : Stmt := topS 37
abbrev n_l_are_orders_right : List Str := ["_law_bag_here", "_law_some_here", "_law_one", "_law_other", "_law_delay_here", "_law_told", "_law_due", "_law_left", "_law_right", "_law_k", "_law_a", "_law_b"]
theorem sc_l_are_orders_right : FnScope n_l_are_orders_right ["_law_bag_here"] (defScope s_l_are_orders_right) := ⟨rfl, rfl, rfl, by decide +kernel, rfl, by decide +kernel, by decide +kernel⟩
abbrev s_l_great_number : Stmt := topS 38
abbrev n_l_great_number : List Str := ["_law_bag_here", "_law_terms", "_law_power", "_law_turn", "_law_num", "_law_den"]
theorem sc_l_great_number : FnScope n_l_great_number ["_law_bag_here"] (defScope s_l_great_number) := ⟨rfl, rfl, rfl, by decide +kernel, rfl, by decide +kernel, by decide +kernel⟩
abbrev s_l_are_sums_right : Stmt := topS 39
abbrev n_l_are_sums_right : List Str := ["_law_bag_here", "_law_some_here", "_law_one", "_law_other", "_law_shown", "_law_told", "_law_due", "_law_power", "_law_factor_here", "_law_k"]
theorem sc_l_are_sums_right : FnScope n_l_are_sums_right ["_law_bag_here"] (defScope s_l_are_sums_right) := ⟨rfl, rfl, rfl, by decide +kernel, rfl, by decide +kernel, by decide +kernel⟩
abbrev s_law : Stmt := topS 40
abbrev n_law : List Str := ["_law_script", "_law_bag_here", "_law_turn"]
theorem sc_law : FnScope n_law ["_law_script"] (defScope s_law) := ⟨rfl, rfl, rfl, by decide +kernel, rfl, by decide +kernel, by decide +kernel⟩
end Vq
set_option maxHeartbeats 1000000
namespace Vq
open PySem PySem.Spec PyProof.Rows L2
/-- the greatest common divisor -/
def gcI (n d : Int) : Int := ((Nat.gcd n.natAbs d.natAbs : Nat) : Int)
/-- in lowest terms -/
def redF (n d : Int) : Fr := (n / gcI n d, d / gcI n d)
def addF (a b : Fr) : Fr := redF (a.1 * b.2 + b.1 * a.2) (a.2 * b.2)
def mulF (a b : Fr) : Fr := redF (a.1 * b.1) (a.2 * b.2)
/-- of so many bits, above 0 below -/
structure FB (b : Nat) (f : Fr) : Prop where
  n : f.1.natAbs < 2 ^ b
  d : f.2.natAbs < 2 ^ b
  p : 0 < f.2
theorem FB.mono {a b : Nat} {f : Fr} (h : FB a f) (e : a ≤ b) : FB b f :=
  ⟨Nat.lt_of_lt_of_le h.n (Nat.pow_le_pow_right (by decide) e), Nat.lt_of_lt_of_le h.d (Nat.pow_le_pow_right (by decide) e), h.p⟩
theorem gcI_pos {n d : Int} (h : 0 < d) : 0 < gcI n d := by
  have q : 0 < Nat.gcd n.natAbs d.natAbs := Nat.gcd_pos_of_pos_right _ (by omega)
  unfold gcI
  omega
theorem gcI_le {n d : Int} (h : 0 < d) : (gcI n d).natAbs ≤ d.natAbs := by
  have q : Nat.gcd n.natAbs d.natAbs ≤ d.natAbs := Nat.gcd_le_right _ (by omega)
  unfold gcI
  omega
section
variable {P : Program} {w : World} {K : PySem.W.Frag} {mg : Str → Option Value} {base : Heap}
def sp_fraction_of : Sp := fun vs H Q _ => ∃ n d : Int, vs = [.int n, .int d] ∧ 0 < d ∧ d.natAbs < 2 ^ 9000 ∧ Gives H (frD (redF n d)) Q
theorem ok_fraction_of (M : Mg mg) (D : D1 K mg "fraction_of" s_fraction_of ["num", "den"]) : C8.Cal P w K mg base (1) "fraction_of" sp_fraction_of [] := by
  refine cal_of D sc_fraction_of (fun vs H Q E h => ?_) fun f cdv A outer s H vs Q E hr h => ?_
  · obtain ⟨n, d, rfl, _⟩ := h
    rfl
  · obtain ⟨n, d, rfl, hd, hb, q⟩ := h
    refine ⟨_, (pss_cons (ps_set (i := 2) sc_fraction_of.nd rfl (.inl rfl) (pe_callBfun cr_gcd (by rfl) M.gcd (pa_cons (pv 0) (pa_cons (pv 1) pa_nil))))
      (pss_one (ps_ret (pe_tup (pa_cons (pe_op op_fdivW (pv 0) (pv 2)) (pa_cons (pe_op op_fdivW (pv 1) (pv 2)) pa_nil)))))), ?_⟩
    have hc : CDivW n (gcI n d) := wide_div (gcI_pos hd) (Nat.lt_of_le_of_lt (gcI_le hd) hb) (by decide) (Nat.le_refl _)
    have hc2 : CDivW d (gcI n d) := hc
    refine ⟨_, rfl, _, rfl, n, d, rfl, ?_⟩
    refine ⟨_, rfl, _, rfl, n, _, rfl, rfl, hc, _, rfl, _, rfl, d, _, rfl, rfl, hc2, by show 2 ≤ sizeLine; decide, fun p hp => ?_⟩
    exact q _ _ (same_new hp) (Dt.mkFr upd_same)
end
end Vq
set_option maxHeartbeats 1000000
namespace Vq
open PySem PySem.Spec PyProof.Rows L2
/-! ### the mirror: sums by powers -/
def lookM : List Tm → Int → Option Fr
  | [], _ => none
  | (k, f) :: r, n => if k = n then some f else lookM r n
def putM (m : List Tm) (n : Int) (f : Fr) : List Tm := if (lookM m n).isSome = true then m.map (fun t => if t.1 = n then (t.1, f) else t) else m ++ [(n, f)]
/-- one term more -/
def addM (m : List Tm) (t : Tm) : List Tm := putM m t.1 (addF ((lookM m t.1).getD (0, 1)) t.2)
def sumT (ts : List Tm) : List Tm := ts.foldl addM []
def sortI (l : List Int) : List Int := l.mergeSort fun a b => decide (a ≤ b)
def pickM (m : List Tm) (p : Int) : Option Tm :=
  match lookM m p with
  | some f => if f.1 = 0 then none else some (p, f)
  | none => none
/-- the number with these factors -/
def numOf (m : List Tm) : List Tm := (sortI (m.map (·.1))).filterMap (pickM m)
def totM (ns : List (List Tm)) : List Tm := numOf (sumT ns.flatten)
def mulT (a b : List Tm) : List Tm := a.flatMap fun s => b.map fun t => (s.1 + t.1, mulF s.2 t.2)
def timM (a b : List Tm) : List Tm := numOf (sumT (mulT a b))
def minM (a : List Tm) : List Tm := a.map fun t => (t.1, (-t.2.1, t.2.2))
theorem sortI_eq {ys ks : List Int} (h : ys.Perm ks) (s : ys.Pairwise (· ≤ ·)) : ys = sortI ks := by
  have q : (sortI ks).Pairwise (· ≤ ·) := by
    have z := List.pairwise_mergeSort (le := fun a b : Int => decide (a ≤ b)) (fun a b c h1 h2 => by
      have := of_decide_eq_true h1
      have := of_decide_eq_true h2
      exact decide_eq_true (by omega)) (fun a b => by
      rcases Int.le_total a b with h | h
      · simp [h]
      · simp [h]) ks
    exact z.imp fun h => of_decide_eq_true h
  exact List.Perm.eq_of_pairwise (fun x y _ _ h1 h2 => Int.le_antisymm h1 h2) s q (h.trans (List.mergeSort_perm ks _).symm)
theorem sortI_perm (ks : List Int) : (sortI ks).Perm ks := List.mergeSort_perm ks _

/-! ### a dict of them in the heap -/
def DcR (H : Hp) (kvs : List (L2.Key × V)) (m : List Tm) : Prop := Paired (fun (p : L2.Key × V) (q : Tm) => p.1 = Sum.inl q.1 ∧ Dt H p.2 (frD q.2)) kvs m
theorem DcR.soft {H H' : Hp} {kvs : List (L2.Key × V)} {m : List Tm} (s : Soft H H') (h : DcR H kvs m) : DcR H' kvs m := Paired.mapP h fun a b z => ⟨z.1, z.2.soft s⟩
theorem DcR.keys {H : Hp} {kvs : List (L2.Key × V)} {m : List Tm} (h : DcR H kvs m) : kvs.map (·.1) = (m.map (·.1)).map Sum.inl := by
  unfold DcR at h
  induction h with
  | nil => rfl
  | cons a t ih => rw [List.map_cons, List.map_cons, List.map_cons, ih, a.1]
theorem DcR.get {H : Hp} {kvs : List (L2.Key × V)} {m : List Tm} (h : DcR H kvs m) (n : Int) :
    (lookM m n = none ∧ valV kvs (Sum.inl n) = none) ∨ ∃ f v, lookM m n = some f ∧ valV kvs (Sum.inl n) = some v ∧ Dt H v (frD f) := by
  unfold DcR at h
  induction h with
  | nil => exact .inl ⟨rfl, rfl⟩
  | @cons p q ps qs a t ih =>
    obtain ⟨k, f⟩ := q
    by_cases e : k = n
    · refine .inr ⟨f, p.2, if_pos e, valV_pos (by rw [a.1]; exact congrArg Sum.inl e), a.2⟩
    · have e2 : ¬ p.1 = Sum.inl n := by
        rw [a.1]
        exact fun z => e (Sum.inl.inj z)
      have e3 : lookM ((k, f) :: qs) n = lookM qs n := if_neg e
      rw [e3, valV_neg e2]
      exact ih
theorem paired_map {α β γ δ : Type} {F : α → β → Prop} {G : γ → δ → Prop} {f : α → γ} {g : β → δ} : ∀ {l : List α} {k : List β}, Paired F l k → (∀ a b, F a b → G (f a) (g b)) → Paired G (l.map f) (k.map g)
  | _, _, .nil, _ => .nil
  | _, _, .cons a t, h => .cons (h _ _ a) (paired_map t h)
theorem DcR.put {H : Hp} {kvs : List (L2.Key × V)} {m : List Tm} {n : Int} {v : V} {f : Fr} (h : DcR H kvs m) (hv : Dt H v (frD f)) : DcR H (putK kvs (Sum.inl n) v) (putM m n f) := by
  have q := h.get n
  unfold putK putM
  rw [valV_any]
  rcases q with ⟨q1, q2⟩ | ⟨f0, v0, q1, q2, _⟩
  · rw [q1, q2]
    exact Paired.snoc h ⟨rfl, hv⟩
  · rw [q1, q2]
    show DcR H (kvs.map _) (m.map _)
    refine paired_map h fun a b z => ?_
    by_cases e : b.1 = n
    · rw [if_pos (show a.1 = Sum.inl n by rw [z.1, e]), if_pos e]
      exact ⟨z.1, hv⟩
    · rw [if_neg (fun y => e (Sum.inl.inj (z.1.symm.trans y))), if_neg e]
      exact z
theorem DcR.len {H : Hp} {kvs : List (L2.Key × V)} {m : List Tm} (h : DcR H kvs m) : kvs.length = m.length := Paired.length h
theorem putM_len (m : List Tm) (n : Int) (f : Fr) : (putM m n f).length ≤ m.length + 1 := by
  unfold putM
  split
  · rw [List.length_map]; omega
  · rw [List.length_append]; exact Nat.le_refl _
theorem lookM_keys {m : List Tm} {n : Int} (h : n ∈ m.map (·.1)) : ∃ f, lookM m n = some f := by
  induction m with
  | nil => cases h
  | cons t r ih =>
    obtain ⟨k, f⟩ := t
    by_cases e : k = n
    · exact ⟨f, if_pos e⟩
    · rcases List.mem_cons.mp h with z | z
      · exact absurd z.symm e
      · obtain ⟨g, hg⟩ := ih z
        exact ⟨g, (if_neg e).trans hg⟩
/-- what a sum needs at each step -/
def OkT (B : Nat) (ts : List Tm) : Prop := ∀ i t, ts[i]? = some t → FB B t.2 ∧ FB B ((lookM (sumT (ts.take i)) t.1).getD (0, 1))
theorem sumT_snoc (ts : List Tm) (t : Tm) : sumT (ts ++ [t]) = addM (sumT ts) t := List.foldl_append ..
theorem sumT_len (ts : List Tm) : (sumT ts).length ≤ ts.length := by
  suffices h : ∀ (l m : List Tm), (l.foldl addM m).length ≤ m.length + l.length by
    have := h ts []
    simpa [sumT] using this
  intro l
  induction l with
  | nil => intro m; exact Nat.le_refl _
  | cons t r ih =>
    intro m
    have h1 := ih (addM m t)
    have h2 : (addM m t).length ≤ m.length + 1 := putM_len ..
    show (r.foldl addM (addM m t)).length ≤ m.length + (r.length + 1)
    omega
theorem addF_ok {a b : Fr} {p q : Nat} (x : FB p a) (y : FB q b) (h0 : 0 < p) (h1 : 0 < q) : FB (p + q + 1) (addF a b) := by
  have hd : 0 < a.2 * b.2 := Int.mul_pos x.p y.p
  have g := gcI_pos (n := a.1 * b.2 + b.1 * a.2) hd
  have e1 := wide_lt x.n y.d
  have e2 := wide_lt y.n x.d
  have e3 := wide_lt x.d y.d
  have ep : (2 : Nat) ^ (p + q + 1) = 2 ^ (p + q) + 2 ^ (p + q) := by rw [Nat.pow_succ]; omega
  rw [Nat.add_comm q p] at e2
  have hn : (a.1 * b.2 + b.1 * a.2).natAbs < 2 ^ (p + q + 1) := by
    have := Int.natAbs_add_le (a.1 * b.2) (b.1 * a.2)
    omega
  have dl : ∀ z : Int, (z / gcI (a.1 * b.2 + b.1 * a.2) (a.2 * b.2)).natAbs ≤ z.natAbs := fun z => Int.natAbs_ediv_le_natAbs _ _
  refine ⟨Nat.lt_of_le_of_lt (dl _) hn, Nat.lt_of_le_of_lt (dl _) (by omega), ?_⟩
  have dv : gcI (a.1 * b.2 + b.1 * a.2) (a.2 * b.2) ∣ a.2 * b.2 := by
    unfold gcI
    exact Int.ofNat_dvd_left.mpr (Nat.gcd_dvd_right _ _)
  exact Int.ediv_pos_of_pos_of_dvd hd (by omega) dv
theorem mulF_ok {a b : Fr} {p q : Nat} (x : FB p a) (y : FB q b) : FB (p + q) (mulF a b) := by
  have hd : 0 < a.2 * b.2 := Int.mul_pos x.p y.p
  have g := gcI_pos (n := a.1 * b.1) hd
  have e1 := wide_lt x.n y.n
  have e3 := wide_lt x.d y.d
  have dl : ∀ z : Int, (z / gcI (a.1 * b.1) (a.2 * b.2)).natAbs ≤ z.natAbs := fun z => Int.natAbs_ediv_le_natAbs _ _
  refine ⟨Nat.lt_of_le_of_lt (dl _) e1, Nat.lt_of_le_of_lt (dl _) e3, ?_⟩
  have dv : gcI (a.1 * b.1) (a.2 * b.2) ∣ a.2 * b.2 := by
    unfold gcI
    exact Int.ofNat_dvd_left.mpr (Nat.gcd_dvd_right _ _)
  exact Int.ediv_pos_of_pos_of_dvd hd (by omega) dv
end Vq
set_option maxHeartbeats 1000000
namespace Vq
open PySem PySem.Spec PyProof.Rows L2
theorem ixt {X : Cx} (K : PySem.W.Frag) (h : X.K = K) : IxR X (rIxT K) := h ▸ ix_tup
theorem ixl {X : Cx} (K : PySem.W.Frag) (h : X.K = K) : IxR X (rIxL K) := h ▸ ix_list
set_option exponentiation.threshold 20000
theorem wm {f g : Int} (ha : f.natAbs < 2 ^ 4000) (hb : g.natAbs < 2 ^ 4000) : CMulW f g := wide_mul ha hb (by decide) (by decide) (by decide)
section
variable {P : Program} {w : World} {K : PySem.W.Frag} {mg : Str → Option Value} {base : Heap}
/-! ### fractions -/
def sp_fr2 (g : Fr → Fr → Fr) : Sp := fun vs H Q _ => ∃ (u v : V) (a b : Fr), vs = [u, v] ∧ Dt H u (frD a) ∧ Dt H v (frD b) ∧ FB 4000 a ∧ FB 4000 b ∧ Gives H (frD (g a b)) Q
theorem ok_fraction_total (M : Mg mg) (D : D1 K mg "fraction_total" s_fraction_total ["one", "other"]) (c_fraction_of : C8.Cal P w K mg base (1) "fraction_of" sp_fraction_of []) :
    C8.Cal P w K mg base (2) "fraction_total" (sp_fr2 addF) [] := by
  refine cal_of D sc_fraction_total (fun vs H Q E h => ?_) fun f cdv A outer s H vs Q E hr h => ?_
  · obtain ⟨u, v, a, b, rfl, _⟩ := h
    rfl
  · obtain ⟨u, v, a, b, rfl, hu, hv, xa, xb, q⟩ := h
    obtain ⟨p, rfl, hp⟩ := hu.fr
    obtain ⟨r, rfl, hr'⟩ := hv.fr
    refine ⟨_, (pss_one (ps_ret (C8.pe_c c_fraction_of hr (by decide) rfl (pa_cons (pe_op op_add (pe_op op_mulW (pe_ix (ixt K rfl) (pv 0) pe_int (fun _ _ => rfl)) (pe_ix (ixt K rfl) (pv 1) pe_int (fun _ _ => rfl))) (pe_op op_mulW (pe_ix (ixt K rfl) (pv 1) pe_int (fun _ _ => rfl)) (pe_ix (ixt K rfl) (pv 0) pe_int (fun _ _ => rfl)))) (pa_cons (pe_op op_mulW (pe_ix (ixt K rfl) (pv 0) pe_int (fun _ _ => rfl)) (pe_ix (ixt K rfl) (pv 1) pe_int (fun _ _ => rfl))) pa_nil))))), ?_⟩
    exact ⟨_, rfl, _, _, _, _, rfl, rfl, SqT.of hp, rfl, _, rfl, _, _, _, _, rfl, rfl, SqT.of hr', rfl, _, _, rfl, rfl, wm xa.n xb.d, _, rfl, _, _, _, _, rfl, rfl, SqT.of hr', rfl, _, rfl, _, _, _, _, rfl, rfl, SqT.of hp, rfl, _, _, rfl, rfl, wm xb.n xa.d, _, _, rfl, rfl, _, rfl, _, _, _, _, rfl, rfl, SqT.of hp, rfl, _, rfl, _, _, _, _, rfl, rfl, SqT.of hr', rfl, _, _, rfl, rfl, wm xa.d xb.d, _, _, rfl, Int.mul_pos xa.p xb.p, Nat.lt_of_lt_of_le (wide_lt xa.d xb.d) (Nat.pow_le_pow_right (by decide) (by decide)), q⟩
theorem ok_fraction_times (M : Mg mg) (D : D1 K mg "fraction_times" s_fraction_times ["one", "other"]) (c_fraction_of : C8.Cal P w K mg base (1) "fraction_of" sp_fraction_of []) :
    C8.Cal P w K mg base (2) "fraction_times" (sp_fr2 mulF) [] := by
  refine cal_of D sc_fraction_times (fun vs H Q E h => ?_) fun f cdv A outer s H vs Q E hr h => ?_
  · obtain ⟨u, v, a, b, rfl, _⟩ := h
    rfl
  · obtain ⟨u, v, a, b, rfl, hu, hv, xa, xb, q⟩ := h
    obtain ⟨p, rfl, hp⟩ := hu.fr
    obtain ⟨r, rfl, hr'⟩ := hv.fr
    refine ⟨_, (pss_one (ps_ret (C8.pe_c c_fraction_of hr (by decide) rfl (pa_cons (pe_op op_mulW (pe_ix (ixt K rfl) (pv 0) pe_int (fun _ _ => rfl)) (pe_ix (ixt K rfl) (pv 1) pe_int (fun _ _ => rfl))) (pa_cons (pe_op op_mulW (pe_ix (ixt K rfl) (pv 0) pe_int (fun _ _ => rfl)) (pe_ix (ixt K rfl) (pv 1) pe_int (fun _ _ => rfl))) pa_nil))))), ?_⟩
    exact ⟨_, rfl, _, _, _, _, rfl, rfl, SqT.of hp, rfl, _, rfl, _, _, _, _, rfl, rfl, SqT.of hr', rfl, _, _, rfl, rfl, wm xa.n xb.n, _, rfl, _, _, _, _, rfl, rfl, SqT.of hp, rfl, _, rfl, _, _, _, _, rfl, rfl, SqT.of hr', rfl, _, _, rfl, rfl, wm xa.d xb.d, _, _, rfl, Int.mul_pos xa.p xb.p, Nat.lt_of_lt_of_le (wide_lt xa.d xb.d) (Nat.pow_le_pow_right (by decide) (by decide)), q⟩
/-! ### orders -/
def laterM (o : Option Int) (d : Int) : Option Int := o.map (· + d)
def sp_later : Sp := fun vs H Q _ => ∃ (o : Option Int) (d : Int), vs = [ordV o, .int d] ∧ Q (ordV (laterM o d)) H
theorem ordV_non (o : Option Int) : decide (ordV o = .non) = o.isNone := by
  cases o with
  | none => rfl
  | some i => exact decide_eq_false (fun z => nomatch z)
theorem ok_later (D : D1 K mg "later" s_later ["order", "delay"]) : C8.Cal P w K mg base (1) "later" sp_later [] := by
  refine cal_of D sc_later (fun vs H Q E h => ?_) fun f cdv A outer s H vs Q E hr h => ?_
  · obtain ⟨o, d, rfl, _⟩ := h
    rfl
  · obtain ⟨o, d, rfl, q⟩ := h
    refine ⟨_, (pss_one (ps_ret (pe_ifExp (pt_cmpR op_isN (pv 0) pe_non (nomark _)) pe_non (pe_op op_add (pv 0) (pv 1))))), ?_⟩
    refine ⟨_, rfl, rfl, _, rfl, ?_⟩
    rw [ordV_non]
    cases o with
    | none => exact q
    | some i => exact ⟨_, rfl, _, rfl, _, _, rfl, rfl, q⟩
theorem ok_l_later (D : D1 K mg "_law_later" s_l_later ["_law_order", "_law_delay_here"]) : C8.Cal P w K mg base (1) "_law_later" sp_later [] := by
  refine cal_of D sc_l_later (fun vs H Q E h => ?_) fun f cdv A outer s H vs Q E hr h => ?_
  · obtain ⟨o, d, rfl, _⟩ := h
    rfl
  · obtain ⟨o, d, rfl, q⟩ := h
    refine ⟨_, (pss_one (ps_ret (pe_ifExp (pt_cmpR op_isN (pv 0) pe_non (nomark _)) pe_non (pe_op op_add (pv 0) (pv 1))))), ?_⟩
    refine ⟨_, rfl, rfl, _, rfl, ?_⟩
    rw [ordV_non]
    cases o with
    | none => exact q
    | some i => exact ⟨_, rfl, _, rfl, _, _, rfl, rfl, q⟩
/-- an order is not greater than another one -/
def naM : Option Int → Option Int → Bool
  | _, none => true
  | none, some _ => false
  | some i, some j => decide (i ≤ j)
def sp_na : Sp := fun vs H Q _ => ∃ (a b : Option Int), vs = [ordV a, ordV b] ∧ Q (.bl (naM a b)) H
theorem ok_not_above (D : D1 K mg "not_above" s_not_above ["one", "other"]) : C8.Cal P w K mg base (1) "not_above" sp_na [] := by
  refine cal_of D sc_not_above (fun vs H Q E h => ?_) fun f cdv A outer s H vs Q E hr h => ?_
  · obtain ⟨a, b, rfl, _⟩ := h
    rfl
  · obtain ⟨a, b, rfl, q⟩ := h
    refine ⟨_, (pss_cons (ps_if (pt_cmpR op_isN (pv 1) pe_non (nomark _)) (pss_one (ps_ret pe_bl)) pss_nil)
      (pss_one (ps_ret (pe_and (pe_cmpR op_notN (pv 0) pe_non (nomark _)) (pe_one (pe_cmpR op_le (pv 0) (pv 1) (nomark _))))))), ?_⟩
    refine ⟨_, rfl, rfl, _, rfl, ?_⟩
    rw [ordV_non]
    cases b with
    | none => cases a <;> exact q
    | some j =>
      refine ⟨_, rfl, rfl, _, rfl, ?_⟩
      rw [ordV_non]
      cases a with
      | none => exact q
      | some i => exact ⟨_, rfl, _, rfl, _, _, rfl, rfl, q⟩
theorem ok_l_not_above (D : D1 K mg "_law_not_above" s_l_not_above ["_law_one", "_law_other"]) : C8.Cal P w K mg base (1) "_law_not_above" sp_na [] := by
  refine cal_of D sc_l_not_above (fun vs H Q E h => ?_) fun f cdv A outer s H vs Q E hr h => ?_
  · obtain ⟨a, b, rfl, _⟩ := h
    rfl
  · obtain ⟨a, b, rfl, q⟩ := h
    refine ⟨_, (pss_one (ps_ret (pe_or (pe_cmpR op_isN (pv 1) pe_non (nomark _)) (pe_one (pe_and (pe_cmpR op_notN (pv 0) pe_non (nomark _)) (pe_one (pe_cmpR op_le (pv 0) (pv 1) (nomark _)))))))), ?_⟩
    refine ⟨_, rfl, rfl, _, rfl, ?_⟩
    rw [ordV_non]
    cases b with
    | none => cases a <;> exact q
    | some j =>
      refine ⟨_, rfl, rfl, _, rfl, ?_⟩
      rw [ordV_non]
      cases a with
      | none => exact q
      | some i => exact ⟨_, rfl, _, rfl, _, _, rfl, rfl, q⟩
def lesM (a b : Option Int) : Option Int := if naM a b = true then a else b
def sp_les : Sp := fun vs H Q _ => ∃ (a b : Option Int), vs = [ordV a, ordV b] ∧ Q (ordV (lesM a b)) H
theorem ok_l_lesser (D : D1 K mg "_law_lesser" s_l_lesser ["_law_one", "_law_other"]) (c_l_not_above : C8.Cal P w K mg base (1) "_law_not_above" sp_na []) : C8.Cal P w K mg base (2) "_law_lesser" sp_les [] := by
  refine cal_of D sc_l_lesser (fun vs H Q E h => ?_) fun f cdv A outer s H vs Q E hr h => ?_
  · obtain ⟨a, b, rfl, _⟩ := h
    rfl
  · obtain ⟨a, b, rfl, q⟩ := h
    refine ⟨_, (pss_one (ps_ret (pe_ifExp (pt_val (C8.pe_c c_l_not_above hr (by decide) rfl (pa_cons (pv 0) (pa_cons (pv 1) pa_nil)))) (pv 0) (pv 1)))), ?_⟩
    refine ⟨_, rfl, _, rfl, a, b, rfl, _, rfl, ?_⟩
    unfold lesM at q
    cases e : naM a b with
    | true =>
      rw [e] at q
      exact ⟨_, rfl, q⟩
    | false =>
      rw [e] at q
      exact ⟨_, rfl, q⟩
/-! ### order_of, leading_of -/
def ordM : List Tm → Option Int
  | [] => none
  | t :: _ => some t.1
def ledD : List Tm → PyData
  | [] => .none
  | t :: _ => frD t.2
def sp_ord : Sp := fun vs H Q _ => ∃ (u : V) (l : List Tm), vs = [u] ∧ Dt H u (nmD l) ∧ Q (ordV (ordM l)) H
def sp_led : Sp := fun vs H Q _ => ∃ (u : V) (l : List Tm), vs = [u] ∧ Dt H u (nmD l) ∧ Gives H (ledD l) Q
theorem ok_order_of (D : D1 K mg "order_of" s_order_of ["number"]) : C8.Cal P w K mg base (1) "order_of" sp_ord [] := by
  refine cal_of D sc_order_of (fun vs H Q E h => ?_) fun f cdv A outer s H vs Q E hr h => ?_
  · obtain ⟨u, l, rfl, _⟩ := h
    rfl
  · obtain ⟨u, l, rfl, hu, q⟩ := h
    obtain ⟨a, xs, rfl, ha, hx⟩ := hu.nm
    refine ⟨_, (pss_one (ps_ret (pe_ifExp (pt_truth (pv 0) (by intro _; rfl)) (pe_ix (ixt K rfl) (pe_ix (ixt K rfl) (pv 0) pe_int (fun _ _ => rfl)) pe_int (fun _ _ => rfl)) pe_non))), ?_⟩
    refine ⟨_, rfl, _, .inr (.inl ⟨_, SqT.of ha, rfl⟩), ?_⟩
    cases l with
    | nil =>
      cases hx
      exact q
    | cons t r =>
      cases hx with
      | cons h1 h2 =>
        obtain ⟨b, u, rfl, hb, _⟩ := h1.tm
        exact ⟨_, rfl, _, _, _, _, rfl, rfl, SqT.of ha, atI_nat (j := 0) rfl, _, _, _, _, rfl, rfl, SqT.of hb, rfl, q⟩
theorem ok_leading_of (D : D1 K mg "leading_of" s_leading_of ["number"]) : C8.Cal P w K mg base (1) "leading_of" sp_led [] := by
  refine cal_of D sc_leading_of (fun vs H Q E h => ?_) fun f cdv A outer s H vs Q E hr h => ?_
  · obtain ⟨u, l, rfl, _⟩ := h
    rfl
  · obtain ⟨u, l, rfl, hu, q⟩ := h
    obtain ⟨a, xs, rfl, ha, hx⟩ := hu.nm
    refine ⟨_, (pss_one (ps_ret (pe_ifExp (pt_truth (pv 0) (by intro _; rfl)) (pe_ix (ixt K rfl) (pe_ix (ixt K rfl) (pv 0) pe_int (fun _ _ => rfl)) pe_int (fun _ _ => rfl)) pe_non))), ?_⟩
    refine ⟨_, rfl, _, .inr (.inl ⟨_, SqT.of ha, rfl⟩), ?_⟩
    cases l with
    | nil =>
      cases hx
      exact q _ _ (Same.refl _) .non
    | cons t r =>
      cases hx with
      | cons h1 h2 =>
        obtain ⟨b, u, rfl, hb, hu⟩ := h1.tm
        exact ⟨_, rfl, _, _, _, _, rfl, rfl, SqT.of ha, atI_nat (j := 0) rfl, _, _, _, _, rfl, rfl, SqT.of hb, rfl, q _ _ (Same.refl _) hu⟩
end
end Vq
set_option maxHeartbeats 1000000
set_option exponentiation.threshold 20000
namespace Vq
open PySem PySem.Spec PyProof.Rows L2
theorem mapI {l : List Int} {i : Nat} {x : V} (h : (l.map V.int)[i]? = some x) : ∃ y, l[i]? = some y ∧ x = .int y := by
  rw [List.getElem?_map] at h
  cases e : l[i]? with
  | none => rw [e] at h; cases h
  | some y =>
    rw [e] at h
    exact ⟨y, rfl, (Option.some.inj h).symm⟩
theorem small5 {n : Nat} (h : n ≤ 5000) : n < sizeLine := by rw [sizeLine_eq]; omega
section
variable {P : Program} {w : World} {K : PySem.W.Frag} {mg : Str → Option Value} {base : Heap}
/-! ### number_of -/
def sp_nof : Sp := fun vs H Q _ => ∃ (a : Addr) (kvs : List (L2.Key × V)) (m : List Tm), vs = [.ref a] ∧ H a = some (.dK kvs) ∧ DcR H kvs m ∧ m.length ≤ 5000 ∧ Gives H (nmD (numOf m)) Q
theorem ok_number_of (M : Mg mg) (D : D1 K mg "number_of" s_number_of ["factors"]) : C8.Cal P w K mg base (1) "number_of" sp_nof [] := by
  refine cal_of D sc_number_of (fun vs H Q E h => ?_) fun f cdv A outer s H vs Q E hr h => ?_
  · obtain ⟨a, kvs, m, rfl, _⟩ := h
    rfl
  · obtain ⟨a, kvs, m, rfl, ha, hx, hl, q⟩ := h
    have hu := hu_of hr
    refine ⟨_, (pss_one (ps_ret (pe_callTy call_tuple_of (by rfl) M.tuple (by decide +kernel) (pa_cons (pe_lc (own := [("power", 1)]) rfl sc_number_of.nd (pi_list (pe_callB (cr_srtD rfl) (by rfl) M.sorted (by decide +kernel) (pa_cons (pv 0) pa_nil))) (blkOk_by (own := [("power", 1)]) (N := n_number_of) (sc := defScope s_number_of) (by decide +kernel)) (fun _ _ _ _ _ => (pg_name (i := 1) sc_number_of.nd rfl (.inl rfl))) (fun _ _ _ _ _ => (pts_one (pt_cmpR op_ne (pe_ix (ixt K rfl) (pe_dget hu (pv 0) (pv 1) (fun _ _ => rfl)) pe_int (fun _ _ => rfl)) pe_int (nomark _)))) (fun _ _ _ _ _ => (pe_tup (pa_cons (pv 1) (pa_cons (pe_dget hu (pv 0) (pv 1) (fun _ _ => rfl)) pa_nil))))) pa_nil)))), ?_⟩
    refine ⟨_, rfl, a, kvs, _, rfl, .inl ha, hx.keys, fun ys p hp srt np => ?_⟩
    have ey := sortI_eq hp srt
    refine ⟨p, rfl, ⟨_, SqL.of upd_same⟩, fun L nL => ?_⟩
    have nLp : p ≠ L := fun e => by rw [← e, upd_same] at nL; cases nL
    have s1 : Same H (upd H p (.lst (ys.map V.int))) := same_new np
    refine lc_list (K := K) (a := p) (xs := ys.map V.int) (fun i H' => ∃ acc, Same H H' ∧ H' p = some (.lst (ys.map V.int)) ∧ H' L = some (.lst acc) ∧ DtA H' acc (((ys.take i).filterMap (pickM m)).map tmD) ∧ acc.length ≤ i)
      ⟨[], s1.trans (same_new nL), by rw [upd_ne nLp, upd_same], upd_same, .nil, Nat.le_refl _⟩ (fun i H' _ ⟨_, _, h, _⟩ => SqL.of h) (fun i x H' hi ⟨acc, sm, hp', hL, hA, hz⟩ => ?_) fun H' ⟨acc, sm, hp', hL, hA, hz⟩ => ?_
    · obtain ⟨y, hy, rfl⟩ := mapI hi
      have ym : y ∈ m.map (·.1) := hp.mem_iff.mp (List.mem_of_getElem? hy)
      obtain ⟨fr, hfr⟩ := lookM_keys ym
      have hx' := hx.soft (Same.soft sm)
      rcases hx'.get y with ⟨z, _⟩ | ⟨f', v, z1, z2, z3⟩
      · rw [hfr] at z; cases z
      · rw [hfr] at z1
        cases z1
        have dg : DGet H' a (V.int y) (some v) := z2 ▸ DGet.k (k := Sum.inl y) (sm _ _ ha)
        obtain ⟨b, rfl, hb⟩ := z3.fr
        have et : (ys.take (i + 1)).filterMap (pickM m) = (ys.take i).filterMap (pickM m) ++ (pickM m y).toList := by
          rw [List.take_add_one, hy, List.filterMap_append]
          show _ ++ List.filterMap (pickM m) [y] = _
          cases e : pickM m y <;> simp [e]
        refine ⟨rfl, ?_⟩
        refine ⟨_, rfl, _, rfl, a, _, rfl, dg, _, _, _, _, rfl, rfl, SqT.of hb, rfl, rfl, _, rfl, ?_⟩
        by_cases e0 : fr.1 = 0
        · have ep : pickM m y = none := by
            unfold pickM
            rw [hfr]
            exact if_pos e0
          have eb : (!decide (V.int fr.1 = V.int 0)) = false := by simp [e0]
          rw [eb]
          refine ⟨acc, sm, hp', hL, ?_, by omega⟩
          rw [et, ep]
          simpa using hA
        · have ep : pickM m y = some (y, fr) := by
            unfold pickM
            rw [hfr]
            exact if_neg e0
          have eb : (!decide (V.int fr.1 = V.int 0)) = true := by simp [e0]
          rw [eb]
          refine ⟨_, rfl, _, rfl, _, rfl, a, _, rfl, dg, by show 2 ≤ sizeLine; decide, fun t ht => ?_⟩
          have nt : L ≠ t := ne_of_none hL ht
          have npt : p ≠ t := ne_of_none hp' ht
          have hil : i < ys.length := (List.getElem?_eq_some_iff.mp hy).1
          have hyl : ys.length ≤ 5000 := by rw [hp.length_eq, List.length_map]; exact hl
          refine ⟨acc, by rw [upd_ne nt]; exact hL, small5 (by omega), _, fun c o e => ?_, ?_, upd_same, ?_, ?_⟩
          · have e2 := (sm.trans (same_new (o := .tup [.int y, .ref b]) ht)) c o e
            rw [upd_ne (fun z => ?_)]
            · exact e2
            · rw [z] at e
              have := s1 L o e
              rw [nL] at this
              cases this
          · rw [upd_ne nLp, upd_ne npt]; exact hp'
          · have sf : Soft H' (upd (upd H' t (.tup [.int y, .ref b])) L (.lst (acc ++ [.ref t]))) := (soft_new ht).trans (soft_lst (ys := acc) (by rw [upd_ne nt]; exact hL))
            rw [et, ep, List.map_append]
            refine (hA.soft sf).append (.one (Dt.mkTm (u := .ref b) ?_ (z3.soft sf)))
            rw [upd_ne nt.symm, upd_same]
          · rw [List.length_append]
            show acc.length + 1 ≤ i + 1
            omega
    · refine ⟨L, acc, rfl, .inl ⟨SqL.of hL, fun l hl => ?_⟩⟩
      refine q _ _ (sm.trans (same_new hl)) (.tup upd_same ?_)
      have := hA.soft (soft_new (o := .tup acc) hl)
      rw [List.length_map, List.take_length, ey] at this
      exact this
end
end Vq
set_option maxHeartbeats 1000000
set_option exponentiation.threshold 20000
namespace Vq
open PySem PySem.Spec PyProof.Rows L2
theorem same_mut {H H' : Hp} {d : Addr} {o : HO} (s : Same H H') (n : H d = none) : Same H (upd H' d o) := fun b x e => by
  rw [upd_ne (ne_of_none e n)]
  exact s b x e
theorem nums_at {H : Hp} {xs : List V} {ns : List (List Tm)} {i : Nat} {x : V} (h : DtA H xs (ns.map nmD)) (e : xs[i]? = some x) : ∃ l, ns[i]? = some l ∧ Dt H x (nmD l) := by
  obtain ⟨y, h1, h2⟩ := h.get e
  rw [List.getElem?_map] at h1
  cases q : ns[i]? with
  | none => rw [q] at h1; cases h1
  | some t =>
    rw [q] at h1
    cases h1
    exact ⟨t, rfl, h2⟩
theorem split_at {α : Type} {l : List α} {i : Nat} {x : α} (h : l[i]? = some x) : l = l.take i ++ x :: l.drop (i + 1) := by
  obtain ⟨hi, e⟩ := List.getElem?_eq_some_iff.mp h
  have h1 : (l.take i).length = i := by rw [List.length_take]; omega
  have h2 := List.take_append_drop i l
  rw [List.drop_eq_getElem_cons hi, e] at h2
  exact h2.symm
theorem flat_split {ns : List (List Tm)} {i j : Nat} {l : List Tm} {t : Tm} (h1 : ns[i]? = some l) (h2 : l[j]? = some t) : ns.flatten = ((ns.take i).flatten ++ l.take j) ++ t :: (l.drop (j + 1) ++ (ns.drop (i + 1)).flatten) := by
  have e1 : ns.flatten = (ns.take i).flatten ++ (l ++ (ns.drop (i + 1)).flatten) := by
    conv => lhs; rw [split_at h1]
    rw [List.flatten_append, List.flatten_cons]
  rw [e1]
  conv => lhs; rw [split_at h2]
  simp
theorem flat_at {ns : List (List Tm)} {i j : Nat} {l : List Tm} {t : Tm} (h1 : ns[i]? = some l) (h2 : l[j]? = some t) : ns.flatten[((ns.take i).flatten ++ l.take j).length]? = some t := by
  rw [flat_split h1 h2, List.getElem?_append_right (Nat.le_refl _), Nat.sub_self]
  rfl
theorem flat_take {ns : List (List Tm)} {i j : Nat} {l : List Tm} {t : Tm} (h1 : ns[i]? = some l) (h2 : l[j]? = some t) : ns.flatten.take ((ns.take i).flatten ++ l.take j).length = (ns.take i).flatten ++ l.take j := by
  rw [flat_split h1 h2, List.take_left]
theorem DcR.getD {H : Hp} {kvs : List (L2.Key × V)} {m : List Tm} {d p : Addr} (h : DcR H kvs m) (h0 : Dt H (.ref p) (frD (0, 1))) (n : Int) (hd : H d = some (.dK kvs)) :
    ∃ o : Option V, Dt H (o.getD (.ref p)) (frD ((lookM m n).getD (0, 1))) ∧ DGet H d (.int n) o := by
  have dg := DGet.k (k := Sum.inl n) hd
  rcases h.get n with ⟨e1, e2⟩ | ⟨f, v, e1, e2, hv⟩
  · rw [e1]
    exact ⟨_, by rw [e2]; exact h0, dg⟩
  · rw [e1]
    exact ⟨_, by rw [e2]; exact hv, dg⟩
section
variable {P : Program} {w : World} {K : PySem.W.Frag} {mg : Str → Option Value} {base : Heap}
def sp_term : Sp := fun vs H Q _ => ∃ (n : Int) (u : V) (f : Fr), vs = [.int n, u] ∧ Dt H u (frD f) ∧ Gives H (nmD (numOf [(n, f)])) Q
theorem ok_term (D : D1 K mg "term" s_term ["power", "factor"]) (c_number_of : C8.Cal P w K mg base (1) "number_of" sp_nof []) : C8.Cal P w K mg base (2) "term" sp_term [] := by
  refine cal_of D sc_term (fun vs H Q E h => ?_) fun f cdv A outer s H vs Q E hr h => ?_
  · obtain ⟨n, u, f, rfl, _⟩ := h
    rfl
  · obtain ⟨n, u, f, rfl, hu, q⟩ := h
    refine ⟨_, (pss_one (ps_ret (C8.pe_c c_number_of hr (by decide) rfl (pa_cons (pe_disp (pps_cons (pv 0) (pv 1) pps_nil) (by rfl) (by rfl) (fun z => by cases z) (by decide)) pa_nil)))), ?_⟩
    intro p hp
    refine ⟨_, rfl, _, rfl, upd_same, [(Sum.inl n, u)], rfl, by show 1 ≤ 15; decide, ?_⟩
    refine ⟨p, _, [(n, f)], rfl, upd_same, .cons ⟨rfl, hu.soft ?_⟩ .nil, by show 1 ≤ 5000; decide, fun v H2 s2 hv => q _ _ ?_ hv⟩
    · exact (soft_new hp).trans (soft_dK upd_same)
    · exact (same_mut (same_new hp) hp).trans s2
/-! ### total -/
def sp_tot : Sp := fun vs H Q _ => ∃ (a : Addr) (xs : List V) (ns : List (List Tm)), vs = [.ref a] ∧ (H a = some (.lst xs) ∨ H a = some (.tup xs)) ∧ DtA H xs (ns.map nmD) ∧ OkT 4000 ns.flatten ∧ ns.flatten.length ≤ 5000 ∧ Gives H (nmD (totM ns)) Q
theorem ok_total (D : D1 K mg "total" s_total ["numbers"]) (c_fraction_total : C8.Cal P w K mg base (2) "fraction_total" (sp_fr2 addF) []) (c_number_of : C8.Cal P w K mg base (1) "number_of" sp_nof []) :
    C8.Cal P w K mg base (3) "total" sp_tot [] := by
  refine cal_of D sc_total (fun vs H Q E h => ?_) fun f cdv A outer s H vs Q E hr h => ?_
  · obtain ⟨a, xs, ns, rfl, _⟩ := h
    rfl
  · obtain ⟨a, xs, ns, rfl, hk, hns, ok, hlen, q⟩ := h
    have hu := hu_of hr
    rcases hk with ha | ha
    · skip
      refine ⟨_, (pss_cons (ps_set (i := 1) sc_total.nd rfl (.inl rfl) pe_dnewK)
      (pss_cons (ps_for PassesOwn.never rfl (pi_list (pv 0)) (pg_name (i := 2) sc_total.nd rfl (.inl rfl)) (pss_one (ps_for PassesOwn.never rfl (pi_tup (pv 2)) (pg_tup rfl (pgs_cons (pg_name (i := 3) sc_total.nd rfl (.inl rfl)) (pgs_cons (pg_name (i := 4) sc_total.nd rfl (.inl rfl)) pgs_nil))) (pss_one (ps_dput hu (pv 1) (pv 3) (C8.pe_c c_fraction_total hr (by decide) rfl (pa_cons (pe_dget2 hu (pv 1) (pv 3) (pe_tup (pa_cons pe_int (pa_cons pe_int pa_nil))) ⟨by rfl, by rfl, by rfl, by rfl⟩) (pa_cons (pv 4) pa_nil))) rfl)))))
      (pss_one (ps_ret (C8.pe_c c_number_of hr (by decide) rfl (pa_cons (pv 1) pa_nil)))))), ?_⟩
      intro d nd
      have s1 : Same H (upd H d (.dK [])) := same_new nd
      refine ⟨_, rfl, a, rfl, ⟨_, SqL.of (s1 _ _ ha)⟩, for_list (K := K) (a := a) (xs := xs) (fun i σ H' => ∃ kvs y2 y3 y4, σ = [some (.ref a), some (.ref d), y2, y3, y4] ∧ Same H H' ∧ H' d = some (.dK kvs) ∧ DcR H' kvs (sumT (ns.take i).flatten))
        ⟨[], none, none, none, rfl, s1, upd_same, .nil⟩ (fun i σ H' _ ⟨_, _, _, _, _, sm, _⟩ => SqL.of (sm _ _ ha)) ?_ ?_⟩
      · rintro i x σ H' hi ⟨kvs, y2, y3, y4, rfl, sm, hd, hx⟩
        obtain ⟨l, hl, hxl⟩ := nums_at hns hi
        obtain ⟨b, zs, rfl, hb, hz⟩ := hxl.nm
        refine ⟨_, rfl, b, rfl, ⟨_, SqT.of (sm _ _ hb)⟩, for_tup (K := K) (a := b) (xs := zs) (fun j σ H'' => ∃ kvs y3 y4, σ = [some (.ref a), some (.ref d), some (.ref b), y3, y4] ∧ Same H H'' ∧ H'' d = some (.dK kvs) ∧ DcR H'' kvs (sumT ((ns.take i).flatten ++ l.take j)))
          ⟨kvs, y3, y4, rfl, sm, hd, by simpa using hx⟩ (fun i σ H' _ ⟨_, _, _, _, sm, _⟩ => SqT.of (sm _ _ hb)) ?_ ?_⟩
        · rintro j z σ H2 hj ⟨kvs, y3, y4, rfl, sm2, hd2, hx2⟩
          obtain ⟨t, ht, hzt⟩ := hz.at hj
          obtain ⟨q1, u, rfl, hq1, hu1⟩ := (hzt.soft (Same.soft sm2)).tm
          refine ⟨q1, _, rfl, SqT.of hq1, rfl, _, _, rfl, _, _, rfl, rfl, ?_⟩
          have hat : ns.flatten[((ns.take i).flatten ++ l.take j).length]? = some t := flat_at hl ht
          have htk : ns.flatten.take ((ns.take i).flatten ++ l.take j).length = (ns.take i).flatten ++ l.take j := flat_take hl ht
          obtain ⟨f1, f2⟩ := ok _ _ hat
          rw [htk] at f2
          have lt : ((ns.take i).flatten ++ l.take j).length ≤ 5000 := by
            have := (List.getElem?_eq_some_iff.mp hat).1
            omega
          refine ⟨_, rfl, d, rfl, .inl ⟨kvs, .inl hd2⟩, _, rfl, by show 2 ≤ sizeLine; decide, fun p hp => ?_⟩
          have nd2 : d ≠ p := ne_of_none hd2 hp
          have hd3 : (upd H2 p (.tup [.int 0, .int 1])) d = some (.dK kvs) := by rw [upd_ne nd2]; exact hd2
          have sf : Soft H2 (upd H2 p (.tup [.int 0, .int 1])) := soft_new hp
          obtain ⟨v, hv, hg⟩ := DcR.getD (hx2.soft sf) (Dt.mkFr upd_same) t.1 hd3
          refine ⟨_, hg, _, rfl, _, _, _, _, rfl, hv, hu1.soft sf, f2, f1, fun v' H4 sm4 hv' => ?_⟩
          have hd4 : H4 d = some (.dK kvs) := sm4 _ _ hd3
          refine ⟨_, rfl, _, rfl, d, _, rfl, DPut.k (k := Sum.inl t.1) hd4 (small5 ?_), ?_⟩
          · rw [hx2.len]
            exact Nat.le_trans (sumT_len _) lt
          · have sf4 : Soft H2 (upd H4 d (.dK (putK kvs (Sum.inl t.1) v'))) := (sf.trans (Same.soft sm4)).trans (soft_dK hd4)
            refine ⟨_, _, _, rfl, same_mut ((sm2.trans (same_new hp)).trans sm4) nd, upd_same, ?_⟩
            have e3 : (ns.take i).flatten ++ l.take (j + 1) = ((ns.take i).flatten ++ l.take j) ++ [t] := by rw [List.take_add_one, ht, ← List.append_assoc]; rfl
            rw [e3, sumT_snoc]
            exact ((hx2.soft (sf.trans (Same.soft sm4))).put hv').soft (soft_dK hd4)
        · rintro σ H2 ⟨kvs, y3, y4, rfl, sm2, hd2, hx2⟩
          refine ⟨kvs, _, y3, y4, rfl, sm2, hd2, ?_⟩
          have e4 : zs.length = l.length := by rw [hz.len, List.length_map]
          rw [List.take_add_one, hl, List.flatten_append]
          rw [e4, List.take_length] at hx2
          simpa using hx2
      · rintro σ H' ⟨kvs, y2, y3, y4, rfl, sm, hd, hx⟩
        have e5 : xs.length = ns.length := by rw [hns.len, List.length_map]
        rw [e5, List.take_length] at hx
        refine ⟨_, rfl, d, kvs, _, rfl, hd, hx, Nat.le_trans (sumT_len _) (by omega), fun v H2 s2 hv => ?_⟩
        exact q _ _ (sm.trans s2) hv
    · skip
      refine ⟨_, (pss_cons (ps_set (i := 1) sc_total.nd rfl (.inl rfl) pe_dnewK)
      (pss_cons (ps_for PassesOwn.never rfl (pi_tup (pv 0)) (pg_name (i := 2) sc_total.nd rfl (.inl rfl)) (pss_one (ps_for PassesOwn.never rfl (pi_tup (pv 2)) (pg_tup rfl (pgs_cons (pg_name (i := 3) sc_total.nd rfl (.inl rfl)) (pgs_cons (pg_name (i := 4) sc_total.nd rfl (.inl rfl)) pgs_nil))) (pss_one (ps_dput hu (pv 1) (pv 3) (C8.pe_c c_fraction_total hr (by decide) rfl (pa_cons (pe_dget2 hu (pv 1) (pv 3) (pe_tup (pa_cons pe_int (pa_cons pe_int pa_nil))) ⟨by rfl, by rfl, by rfl, by rfl⟩) (pa_cons (pv 4) pa_nil))) rfl)))))
      (pss_one (ps_ret (C8.pe_c c_number_of hr (by decide) rfl (pa_cons (pv 1) pa_nil)))))), ?_⟩
      intro d nd
      have s1 : Same H (upd H d (.dK [])) := same_new nd
      refine ⟨_, rfl, a, rfl, ⟨_, SqT.of (s1 _ _ ha)⟩, for_tup (K := K) (a := a) (xs := xs) (fun i σ H' => ∃ kvs y2 y3 y4, σ = [some (.ref a), some (.ref d), y2, y3, y4] ∧ Same H H' ∧ H' d = some (.dK kvs) ∧ DcR H' kvs (sumT (ns.take i).flatten))
        ⟨[], none, none, none, rfl, s1, upd_same, .nil⟩ (fun i σ H' _ ⟨_, _, _, _, _, sm, _⟩ => SqT.of (sm _ _ ha)) ?_ ?_⟩
      · rintro i x σ H' hi ⟨kvs, y2, y3, y4, rfl, sm, hd, hx⟩
        obtain ⟨l, hl, hxl⟩ := nums_at hns hi
        obtain ⟨b, zs, rfl, hb, hz⟩ := hxl.nm
        refine ⟨_, rfl, b, rfl, ⟨_, SqT.of (sm _ _ hb)⟩, for_tup (K := K) (a := b) (xs := zs) (fun j σ H'' => ∃ kvs y3 y4, σ = [some (.ref a), some (.ref d), some (.ref b), y3, y4] ∧ Same H H'' ∧ H'' d = some (.dK kvs) ∧ DcR H'' kvs (sumT ((ns.take i).flatten ++ l.take j)))
          ⟨kvs, y3, y4, rfl, sm, hd, by simpa using hx⟩ (fun i σ H' _ ⟨_, _, _, _, sm, _⟩ => SqT.of (sm _ _ hb)) ?_ ?_⟩
        · rintro j z σ H2 hj ⟨kvs, y3, y4, rfl, sm2, hd2, hx2⟩
          obtain ⟨t, ht, hzt⟩ := hz.at hj
          obtain ⟨q1, u, rfl, hq1, hu1⟩ := (hzt.soft (Same.soft sm2)).tm
          refine ⟨q1, _, rfl, SqT.of hq1, rfl, _, _, rfl, _, _, rfl, rfl, ?_⟩
          have hat : ns.flatten[((ns.take i).flatten ++ l.take j).length]? = some t := flat_at hl ht
          have htk : ns.flatten.take ((ns.take i).flatten ++ l.take j).length = (ns.take i).flatten ++ l.take j := flat_take hl ht
          obtain ⟨f1, f2⟩ := ok _ _ hat
          rw [htk] at f2
          have lt : ((ns.take i).flatten ++ l.take j).length ≤ 5000 := by
            have := (List.getElem?_eq_some_iff.mp hat).1
            omega
          refine ⟨_, rfl, d, rfl, .inl ⟨kvs, .inl hd2⟩, _, rfl, by show 2 ≤ sizeLine; decide, fun p hp => ?_⟩
          have nd2 : d ≠ p := ne_of_none hd2 hp
          have hd3 : (upd H2 p (.tup [.int 0, .int 1])) d = some (.dK kvs) := by rw [upd_ne nd2]; exact hd2
          have sf : Soft H2 (upd H2 p (.tup [.int 0, .int 1])) := soft_new hp
          obtain ⟨v, hv, hg⟩ := DcR.getD (hx2.soft sf) (Dt.mkFr upd_same) t.1 hd3
          refine ⟨_, hg, _, rfl, _, _, _, _, rfl, hv, hu1.soft sf, f2, f1, fun v' H4 sm4 hv' => ?_⟩
          have hd4 : H4 d = some (.dK kvs) := sm4 _ _ hd3
          refine ⟨_, rfl, _, rfl, d, _, rfl, DPut.k (k := Sum.inl t.1) hd4 (small5 ?_), ?_⟩
          · rw [hx2.len]
            exact Nat.le_trans (sumT_len _) lt
          · have sf4 : Soft H2 (upd H4 d (.dK (putK kvs (Sum.inl t.1) v'))) := (sf.trans (Same.soft sm4)).trans (soft_dK hd4)
            refine ⟨_, _, _, rfl, same_mut ((sm2.trans (same_new hp)).trans sm4) nd, upd_same, ?_⟩
            have e3 : (ns.take i).flatten ++ l.take (j + 1) = ((ns.take i).flatten ++ l.take j) ++ [t] := by rw [List.take_add_one, ht, ← List.append_assoc]; rfl
            rw [e3, sumT_snoc]
            exact ((hx2.soft (sf.trans (Same.soft sm4))).put hv').soft (soft_dK hd4)
        · rintro σ H2 ⟨kvs, y3, y4, rfl, sm2, hd2, hx2⟩
          refine ⟨kvs, _, y3, y4, rfl, sm2, hd2, ?_⟩
          have e4 : zs.length = l.length := by rw [hz.len, List.length_map]
          rw [List.take_add_one, hl, List.flatten_append]
          rw [e4, List.take_length] at hx2
          simpa using hx2
      · rintro σ H' ⟨kvs, y2, y3, y4, rfl, sm, hd, hx⟩
        have e5 : xs.length = ns.length := by rw [hns.len, List.length_map]
        rw [e5, List.take_length] at hx
        refine ⟨_, rfl, d, kvs, _, rfl, hd, hx, Nat.le_trans (sumT_len _) (by omega), fun v H2 s2 hv => ?_⟩
        exact q _ _ (sm.trans s2) hv
end
end Vq
set_option maxHeartbeats 1000000
set_option exponentiation.threshold 20000
namespace Vq
open PySem PySem.Spec PyProof.Rows L2
def mulRow (s : Tm) (b : List Tm) : List Tm := b.map fun t => (s.1 + t.1, mulF s.2 t.2)
theorem mulT_eq (a b : List Tm) : mulT a b = (a.map fun s => mulRow s b).flatten := by
  unfold mulT mulRow
  rw [List.flatMap_def]
theorem mulRow_at {s t : Tm} {b : List Tm} {j : Nat} (h : b[j]? = some t) : (mulRow s b)[j]? = some (s.1 + t.1, mulF s.2 t.2) := by
  unfold mulRow
  rw [List.getElem?_map, h]
  rfl
theorem mulRow_take (s : Tm) (b : List Tm) (j : Nat) : (mulRow s b).take j = mulRow s (b.take j) := List.map_take.symm
section
variable {P : Program} {w : World} {K : PySem.W.Frag} {mg : Str → Option Value} {base : Heap}
def sp_tim : Sp := fun vs H Q _ => ∃ (u v : V) (a b : List Tm), vs = [u, v] ∧ Dt H u (nmD a) ∧ Dt H v (nmD b) ∧ (∀ s ∈ a, FB 4000 s.2) ∧ (∀ s ∈ b, FB 4000 s.2) ∧ OkT 4000 (mulT a b) ∧ (mulT a b).length ≤ 5000 ∧ Gives H (nmD (timM a b)) Q
theorem ok_times (D : D1 K mg "times" s_times ["one", "other"]) (c_fraction_times : C8.Cal P w K mg base (2) "fraction_times" (sp_fr2 mulF) []) (c_fraction_total : C8.Cal P w K mg base (2) "fraction_total" (sp_fr2 addF) [])
    (c_number_of : C8.Cal P w K mg base (1) "number_of" sp_nof []) : C8.Cal P w K mg base (3) "times" sp_tim [] := by
  refine cal_of D sc_times (fun vs H Q E h => ?_) fun f cdv A outer s H vs Q E hr h => ?_
  · obtain ⟨u, v, a, b, rfl, _⟩ := h
    rfl
  · obtain ⟨u, v, a, b, rfl, hu0, hv0, fa, fb, ok, hlen, q⟩ := h
    have hu := hu_of hr
    obtain ⟨pa, xs, rfl, ha, hxs⟩ := hu0.nm
    obtain ⟨pb, ys, rfl, hb, hys⟩ := hv0.nm
    refine ⟨_, (pss_cons (ps_set (i := 2) sc_times.nd rfl (.inl rfl) pe_dnewK)
      (pss_cons (ps_for PassesOwn.never rfl (pi_tup (pv 0)) (pg_tup rfl (pgs_cons (pg_name (i := 3) sc_times.nd rfl (.inl rfl)) (pgs_cons (pg_name (i := 4) sc_times.nd rfl (.inl rfl)) pgs_nil))) (pss_one (ps_for PassesOwn.never rfl (pi_tup (pv 1)) (pg_tup rfl (pgs_cons (pg_name (i := 5) sc_times.nd rfl (.inl rfl)) (pgs_cons (pg_name (i := 6) sc_times.nd rfl (.inl rfl)) pgs_nil))) (pss_cons (ps_set (i := 7) sc_times.nd rfl (.inl rfl) (C8.pe_c c_fraction_times hr (by decide) rfl (pa_cons (pv 4) (pa_cons (pv 6) pa_nil))))
      (pss_one (ps_dput hu (pv 2) (pe_op op_add (pv 3) (pv 5)) (C8.pe_c c_fraction_total hr (by decide) rfl (pa_cons (pe_dget2 hu (pv 2) (pe_op op_add (pv 3) (pv 5)) (pe_tup (pa_cons pe_int (pa_cons pe_int pa_nil))) ⟨by rfl, by rfl, by rfl, by rfl⟩) (pa_cons (pv 7) pa_nil))) rfl))))))
      (pss_one (ps_ret (C8.pe_c c_number_of hr (by decide) rfl (pa_cons (pv 2) pa_nil)))))), ?_⟩
    intro d nd
    have s1 : Same H (upd H d (.dK [])) := same_new nd
    rw [mulT_eq] at ok hlen
    refine ⟨_, rfl, pa, rfl, ⟨_, SqT.of (s1 _ _ ha)⟩, for_tup (K := K) (a := pa) (xs := xs) (fun i σ H' => ∃ kvs y3 y4 y5 y6 y7, σ = [some (.ref pa), some (.ref pb), some (.ref d), y3, y4, y5, y6, y7] ∧ Same H H' ∧ H' d = some (.dK kvs) ∧ DcR H' kvs (sumT ((a.map fun s => mulRow s b).take i).flatten))
      ⟨[], none, none, none, none, none, rfl, s1, upd_same, .nil⟩ (fun i σ H' _ ⟨_, _, _, _, _, _, _, sm, _⟩ => SqT.of (sm _ _ ha)) ?_ ?_⟩
    · rintro i x σ H' hi ⟨kvs, y3, y4, y5, y6, y7, rfl, sm, hd, hx⟩
      obtain ⟨t0, ht0, hxt⟩ := hxs.at hi
      have hrow : (a.map fun s => mulRow s b)[i]? = some (mulRow t0 b) := by rw [List.getElem?_map, ht0]; rfl
      obtain ⟨q0, u0, rfl, hq0, hu0'⟩ := hxt.tm
      refine ⟨q0, _, rfl, SqT.of (sm _ _ hq0), rfl, _, _, rfl, _, _, rfl, rfl, ?_⟩
      refine ⟨_, rfl, pb, rfl, ⟨_, SqT.of (sm _ _ hb)⟩, for_tup (K := K) (a := pb) (xs := ys) (fun j σ H'' => ∃ kvs y5 y6 y7, σ = [some (.ref pa), some (.ref pb), some (.ref d), some (.int t0.1), some u0, y5, y6, y7] ∧ Same H H'' ∧ H'' d = some (.dK kvs) ∧ DcR H'' kvs (sumT (((a.map fun s => mulRow s b).take i).flatten ++ (mulRow t0 b).take j)))
        ⟨kvs, y5, y6, y7, rfl, sm, hd, by simpa using hx⟩ (fun i σ H' _ ⟨_, _, _, _, _, sm, _⟩ => SqT.of (sm _ _ hb)) ?_ ?_⟩
      · rintro j z σ H2 hj ⟨kvs, y5, y6, y7, rfl, sm2, hd2, hx2⟩
        obtain ⟨t, ht, hzt⟩ := hys.at hj
        obtain ⟨q1, u, rfl, hq1, hu1⟩ := (hzt.soft (Same.soft sm2)).tm
        refine ⟨q1, _, rfl, SqT.of hq1, rfl, _, _, rfl, _, _, rfl, rfl, ?_⟩
        have hat := flat_at hrow (mulRow_at (s := t0) ht)
        have htk := flat_take hrow (mulRow_at (s := t0) ht)
        obtain ⟨f1, f2⟩ := ok _ _ hat
        rw [htk] at f2
        have lt : (((a.map fun s => mulRow s b).take i).flatten ++ (mulRow t0 b).take j).length ≤ 5000 := by
          have := (List.getElem?_eq_some_iff.mp hat).1
          omega
        have g0 := fa _ (List.mem_of_getElem? ht0)
        have g1 := fb _ (List.mem_of_getElem? ht)
        -- part = fraction_times(factor, share)
        refine ⟨_, rfl, _, rfl, _, _, _, _, rfl, hu0'.soft (Same.soft sm2), hu1, g0, g1, fun vp H3 sm3 hvp => ?_⟩
        have hd3 : H3 d = some (.dK kvs) := sm3 _ _ hd2
        have hx3 := hx2.soft (Same.soft sm3)
        -- factors[power + by] = fraction_total(factors.get(power + by, (0, 1)), part)
        refine ⟨_, rfl, d, rfl, .inl ⟨kvs, .inl hd3⟩, _, rfl, _, rfl, _, _, rfl, rfl, by show 2 ≤ sizeLine; decide, fun p hp => ?_⟩
        have nd2 : d ≠ p := ne_of_none hd3 hp
        have hd4 : (upd H3 p (.tup [.int 0, .int 1])) d = some (.dK kvs) := by rw [upd_ne nd2]; exact hd3
        have sf : Soft H3 (upd H3 p (.tup [.int 0, .int 1])) := soft_new hp
        obtain ⟨v, hv, hg⟩ := DcR.getD (hx3.soft sf) (Dt.mkFr upd_same) (t0.1 + t.1) hd4
        refine ⟨_, hg, _, rfl, _, _, _, _, rfl, hv, hvp.soft sf, f2, f1, fun v' H4 sm4 hv' => ?_⟩
        have hd5 : H4 d = some (.dK kvs) := sm4 _ _ hd4
        refine ⟨_, rfl, _, rfl, _, rfl, _, _, rfl, rfl, d, _, rfl, DPut.k (k := Sum.inl (t0.1 + t.1)) hd5 (small5 ?_), ?_⟩
        · rw [hx2.len]
          exact Nat.le_trans (sumT_len _) lt
        · refine ⟨_, _, _, _, rfl, same_mut (((sm2.trans sm3).trans (same_new hp)).trans sm4) nd, upd_same, ?_⟩
          have e3 : ((a.map fun s => mulRow s b).take i).flatten ++ (mulRow t0 b).take (j + 1) = (((a.map fun s => mulRow s b).take i).flatten ++ (mulRow t0 b).take j) ++ [(t0.1 + t.1, mulF t0.2 t.2)] := by
            rw [List.take_add_one, mulRow_at (s := t0) ht, ← List.append_assoc]
            rfl
          rw [e3, sumT_snoc]
          exact ((hx3.soft (sf.trans (Same.soft sm4))).put hv').soft (soft_dK hd5)
      · rintro σ H2 ⟨kvs, y5, y6, y7, rfl, sm2, hd2, hx2⟩
        refine ⟨kvs, _, _, y5, y6, y7, rfl, sm2, hd2, ?_⟩
        have e4 : ys.length = (mulRow t0 b).length := by rw [hys.len, List.length_map]; exact (List.length_map ..).symm
        rw [List.take_add_one, hrow, List.flatten_append]
        rw [e4, List.take_length] at hx2
        simpa using hx2
    · rintro σ H' ⟨kvs, y3, y4, y5, y6, y7, rfl, sm, hd, hx⟩
      have e5 : xs.length = (a.map fun s => mulRow s b).length := by rw [hxs.len, List.length_map, List.length_map]
      rw [e5, List.take_length, ← mulT_eq] at hx
      rw [← mulT_eq] at hlen
      refine ⟨_, rfl, d, kvs, _, rfl, hd, hx, Nat.le_trans (sumT_len _) hlen, fun v H2 s2 hv => ?_⟩
      exact q _ _ (sm.trans s2) hv
/-! ### less -/
def negOne : List Tm := [(0, (-1, 1))]
theorem FB_negOne : ∀ s ∈ negOne, FB 4000 s.2 := fun s h => by
  rcases List.mem_cons.mp h with rfl | h
  · exact ⟨Nat.lt_of_lt_of_le (show (1 : Nat) < 2 ^ 1 by decide) (Nat.pow_le_pow_right (by decide) (by decide)), Nat.lt_of_lt_of_le (show (1 : Nat) < 2 ^ 1 by decide) (Nat.pow_le_pow_right (by decide) (by decide)), by decide⟩
  · cases h
def sp_less : Sp := fun vs H Q _ => ∃ (u v : V) (a b : List Tm), vs = [u, v] ∧ Dt H u (nmD a) ∧ Dt H v (nmD b) ∧ (∀ s ∈ b, FB 4000 s.2) ∧ OkT 4000 (mulT negOne b) ∧ (mulT negOne b).length ≤ 5000 ∧
  OkT 4000 (a ++ timM negOne b) ∧ (a ++ timM negOne b).length ≤ 5000 ∧ Gives H (nmD (totM [a, timM negOne b])) Q
theorem ok_less (D : D1 K mg "less" s_less ["one", "other"]) (c_times : C8.Cal P w K mg base (3) "times" sp_tim []) (c_total : C8.Cal P w K mg base (3) "total" sp_tot []) : C8.Cal P w K mg base (4) "less" sp_less [] := by
  refine cal_of D sc_less (fun vs H Q E h => ?_) fun f cdv A outer s H vs Q E hr h => ?_
  · obtain ⟨u, v, a, b, rfl, _⟩ := h
    rfl
  · obtain ⟨u, v, a, b, rfl, hu0, hv0, fb, ok1, l1, ok2, l2, q⟩ := h
    refine ⟨_, (pss_one (ps_ret (C8.pe_c c_total hr (by decide) rfl (pa_cons (pe_lst (pa_cons (pv 0) (pa_cons (C8.pe_c c_times hr (by decide) rfl (pa_cons (pe_tup (pa_cons (pe_tup (pa_cons pe_int (pa_cons (pe_tup (pa_cons (pe_un un_neg pe_int) (pa_cons pe_int pa_nil))) pa_nil))) pa_nil)) (pa_cons (pv 1) pa_nil))) pa_nil))) pa_nil)))), ?_⟩
    refine ⟨_, rfl, 1, rfl, by show 2 ≤ sizeLine; decide, fun p1 h1 => ⟨by show 2 ≤ sizeLine; decide, fun p2 h2 => ⟨by show 1 ≤ sizeLine; decide, fun p3 h3 => ?_⟩⟩⟩
    refine ⟨_, rfl, ?_⟩
    have s3 : Same H (upd (upd (upd H p1 (.tup [.int (-1), .int 1])) p2 (.tup [.int 0, .ref p1])) p3 (.tup [.ref p2])) := ((same_new h1).trans (same_new h2)).trans (same_new h3)
    have dn : Dt (upd (upd (upd H p1 (.tup [.int (-1), .int 1])) p2 (.tup [.int 0, .ref p1])) p3 (.tup [.ref p2])) (.ref p3) (nmD negOne) := by
      refine .tup upd_same (.one ?_)
      refine Dt.soft (soft_new h3) (Dt.mkTm (n := 0) (f := (-1, 1)) upd_same ?_)
      exact Dt.soft (soft_new h2) (Dt.mkFr upd_same)
    refine ⟨_, _, negOne, b, rfl, dn, hv0.soft (Same.soft s3), FB_negOne, fb, ok1, l1, fun v' H' sm hv' => ?_⟩
    refine ⟨by show 2 ≤ sizeLine; decide, fun L nL => ?_⟩
    have s4 := (s3.trans sm).trans (same_new (o := .lst [u, v']) nL)
    refine ⟨L, _, [a, timM negOne b], rfl, .inl upd_same, .cons (hu0.soft (Same.soft s4)) (.one (hv'.soft (soft_new nL))), by simpa using ok2, by simpa using l2, fun x H2 s5 hx => q _ _ (s4.trans s5) hx⟩
end
end Vq
set_option maxHeartbeats 1000000
set_option exponentiation.threshold 20000
namespace Vq
open PySem PySem.Spec PyProof.Rows L2
theorem mapO {l : List (Option Int)} {i : Nat} {x : V} (h : (l.map ordV)[i]? = some x) : ∃ y, l[i]? = some y ∧ x = ordV y := by
  rw [List.getElem?_map] at h
  cases e : l[i]? with
  | none => rw [e] at h; cases h
  | some y =>
    rw [e] at h
    exact ⟨y, rfl, (Option.some.inj h).symm⟩
/-- the least of orders -/
def leastM (os : List (Option Int)) : Option Int := minO (os.filterMap id)
def lfold (os : List (Option Int)) : Option Int := os.foldl lesM none
/-! ### Euclid -/
theorem gcI_step {x y : Int} (hx : 0 ≤ x) (hy : 0 < y) : gcI y (x - x / y * y) = gcI x y := by
  have e : x - x / y * y = x % y := by rw [Int.emod_def, Int.mul_comm]
  rw [e]
  unfold gcI
  have h1 : (x % y).natAbs = x.natAbs % y.natAbs := by
    have := Int.emod_nonneg x (show y ≠ 0 by omega)
    have := Int.natAbs_emod_of_nonneg hx y
    omega
  rw [h1, Nat.gcd_comm x.natAbs y.natAbs, Nat.gcd_rec y.natAbs x.natAbs, Nat.gcd_comm]
theorem gcI_zero {x : Int} (hx : 0 ≤ x) : gcI x 0 = x := by
  unfold gcI
  rw [show (0 : Int).natAbs = 0 from rfl, Nat.gcd_zero_right]
  omega
theorem gcI_abs (x y : Int) : gcI (if x < 0 then -x else x) (if y < 0 then -y else y) = gcI x y := by
  unfold gcI
  have h : ∀ z : Int, (if z < 0 then -z else z).natAbs = z.natAbs := fun z => by split <;> omega
  rw [h, h]
theorem nmA : ∀ l : List Tm, PyData.canLayAll0 (l.map tmD) = true ∧ PyData.depthAll (l.map tmD) ≤ 2
  | [] => ⟨rfl, Nat.zero_le _⟩
  | t :: r => by
    obtain ⟨h1, h2⟩ := nmA r
    have e1 : (tmD t).canLay0 = true := rfl
    have e2 : (tmD t).depth = 2 := rfl
    refine ⟨?_, ?_⟩
    · show ((tmD t).canLay0 && PyData.canLayAll0 (r.map tmD)) = true
      rw [e1, h1]
      rfl
    · show max (tmD t).depth (PyData.depthAll (r.map tmD)) ≤ 2
      rw [e2]
      omega
theorem nm_shaped (l : List Tm) : SeqAt.shaped (nmD l) = true := by
  obtain ⟨h1, h2⟩ := nmA l
  have e1 : (nmD l).canLay0 = true := h1
  have e2 : (nmD l).depth ≤ 64 := by
    show PyData.depthAll (l.map tmD) + 1 ≤ 64
    omega
  unfold SeqAt.shaped
  rw [e1, decide_eq_true e2]
  rfl
section
variable {P : Program} {w : World} {K : PySem.W.Frag} {mg : Str → Option Value} {base : Heap}
def sp_gd : Sp := fun vs H Q _ => ∃ (a b : Int), vs = [.int a, .int b] ∧ 0 ≤ a ∧ 0 ≤ b ∧ a.natAbs < 2 ^ 9000 ∧ b.natAbs < 2 ^ 9000 ∧ Q (.int (gcI a b)) H
theorem ok_l_greatest_divisor (D : D1 K mg "_law_greatest_divisor" s_l_greatest_divisor ["_law_one", "_law_other"]) : C8.Cal P w K mg base (1) "_law_greatest_divisor" sp_gd [] := by
  refine cal_of D sc_l_greatest_divisor (fun vs H Q E h => ?_) fun f cdv A outer s H vs Q E hr h => ?_
  · obtain ⟨a, b, rfl, _⟩ := h
    rfl
  · obtain ⟨a, b, rfl, ha, hb, za, zb, q⟩ := h
    refine ⟨_, (pss_cons (ps_while PassesOwn.never (pt_cmpR op_gt (pv 1) pe_int (nomark _)) (pss_one (ps_par rfl sc_l_greatest_divisor.nd (i := 0) (j := 1) rfl rfl (by decide) rfl rfl (pa_cons (pv 1) (pa_cons (pe_op op_sub (pv 0) (pe_op op_mulW (pe_op op_fdivW (pv 0) (pv 1)) (pv 1))) pa_nil)) (by rfl))))
      (pss_one (ps_ret (pv 0)))), ?_⟩
    refine while_by (fun σ H' => ∃ x y : Int, σ = [some (.int x), some (.int y)] ∧ H' = H ∧ 0 ≤ x ∧ 0 ≤ y ∧ x.natAbs < 2 ^ 9000 ∧ y.natAbs < 2 ^ 9000 ∧ gcI x y = gcI a b) (fun σ _ => match σ with | [_, some (.int y)] => y.toNat | _ => 0)
      ⟨a, b, rfl, rfl, ha, hb, za, zb, rfl⟩ ?_ ?_
    · rintro σ H' ⟨x, y, rfl, rfl, hx, hy, zx, zy, e⟩
      refine ⟨_, rfl, _, _, rfl, rfl, _, rfl, ?_⟩
      by_cases h0 : (0 : Int) < y
      · rw [decide_eq_true h0]
        have e2 : x - x / y * y = x % y := by rw [Int.emod_def, Int.mul_comm]
        have m1 := Int.emod_nonneg x (show y ≠ 0 by omega)
        have m2 := Int.emod_lt_of_pos x h0
        have dz : (x / y).natAbs < 2 ^ 9000 := Nat.lt_of_le_of_lt (Int.natAbs_ediv_le_natAbs _ _) zx
        refine ⟨_, rfl, _, rfl, _, rfl, _, rfl, _, _, rfl, rfl, wide_div h0 zy (by decide) (Nat.le_refl _), _, rfl, _, _, rfl, rfl, wide_mul dz zy (by decide) (by decide) (by decide), _, _, rfl, rfl, _, _, rfl, ?_⟩
        refine ⟨⟨y, x - x / y * y, rfl, rfl, hy, by omega, zy, ?_, (gcI_step hx h0).trans e⟩, ?_⟩
        · rw [e2]
          omega
        · show (x - x / y * y).toNat < y.toNat
          rw [e2]
          omega
      · rw [decide_eq_false h0]
        refine ⟨_, rfl, ?_⟩
        have e0 : y = 0 := by omega
        subst e0
        rw [gcI_zero hx] at e
        rw [e]
        exact q
    · rintro σ H' Q1 Q2 hq ⟨v, e, i, j, e1, e2, b, e3, h⟩
      exact ⟨v, e, i, j, e1, e2, b, e3, hq _ _ h⟩
def sp_frac : Sp := fun vs H Q _ => ∃ n d : Int, vs = [.int n, .int d] ∧ 0 < d ∧ n.natAbs < 2 ^ 9000 ∧ d.natAbs < 2 ^ 9000 ∧ Gives H (frD (redF n d)) Q
theorem ok_l_fraction (M : Mg mg) (D : D1 K mg "_law_fraction" s_l_fraction ["_law_num", "_law_den"]) (c_l_greatest_divisor : C8.Cal P w K mg base (1) "_law_greatest_divisor" sp_gd []) :
    C8.Cal P w K mg base (2) "_law_fraction" sp_frac [] := by
  refine cal_of D sc_l_fraction (fun vs H Q E h => ?_) fun f cdv A outer s H vs Q E hr h => ?_
  · obtain ⟨n, d, rfl, _⟩ := h
    rfl
  · obtain ⟨n, d, rfl, hd, hn, hb, q⟩ := h
    refine ⟨_, (pss_cons (ps_set (i := 2) sc_l_fraction.nd rfl (.inl rfl) (pe_ifExp (pt_cmpR op_gt (pv 1) pe_int (nomark _)) (C8.pe_c c_l_greatest_divisor hr (by decide) rfl (pa_cons (pe_callB call_abs (by rfl) M.abs (by decide +kernel) (pa_cons (pv 0) pa_nil)) (pa_cons (pe_callB call_abs (by rfl) M.abs (by decide +kernel) (pa_cons (pv 1) pa_nil)) pa_nil))) (pe_un un_neg (C8.pe_c c_l_greatest_divisor hr (by decide) rfl (pa_cons (pe_callB call_abs (by rfl) M.abs (by decide +kernel) (pa_cons (pv 0) pa_nil)) (pa_cons (pe_callB call_abs (by rfl) M.abs (by decide +kernel) (pa_cons (pv 1) pa_nil)) pa_nil))))))
      (pss_one (ps_ret (pe_tup (pa_cons (pe_op op_fdivW (pv 0) (pv 2)) (pa_cons (pe_op op_fdivW (pv 1) (pv 2)) pa_nil)))))), ?_⟩
    refine ⟨_, rfl, _, _, rfl, rfl, _, rfl, ?_⟩
    rw [decide_eq_true hd]
    have ab : ∀ z : Int, (if z < 0 then -z else z).natAbs = z.natAbs := fun z => by split <;> omega
    have a0 : ∀ z : Int, 0 ≤ (if z < 0 then -z else z) := fun z => by split <;> omega
    refine ⟨_, rfl, n, rfl, _, rfl, d, rfl, _, _, rfl, a0 n, a0 d, by rw [ab]; exact hn, by rw [ab]; exact hb, ?_⟩
    rw [gcI_abs]
    have hc : CDivW n (gcI n d) := wide_div (gcI_pos hd) (Nat.lt_of_le_of_lt (gcI_le hd) hb) (by decide) (Nat.le_refl _)
    have hc2 : CDivW d (gcI n d) := hc
    refine ⟨_, rfl, _, rfl, n, _, rfl, rfl, hc, _, rfl, _, rfl, d, _, rfl, rfl, hc2, by show 2 ≤ sizeLine; decide, fun p hp => ?_⟩
    exact q _ _ (same_new hp) (Dt.mkFr upd_same)
/-! ### orders -/
def sp_lo (g : List (Option Int) → Option Int) : Sp := fun vs H Q _ => ∃ (a : Addr) (os : List (Option Int)), vs = [.ref a] ∧ (H a = some (.lst (os.map ordV)) ∨ H a = some (.tup (os.map ordV))) ∧ os.length ≤ 5000 ∧ ∀ H', Same H H' → Q (ordV (g os)) H'
theorem ok_least_order (M : Mg mg) (D : D1 K mg "least_order" s_least_order ["orders"]) : C8.Cal P w K mg base (1) "least_order" (sp_lo leastM) [] := by
  refine cal_of D sc_least_order (fun vs H Q E h => ?_) fun f cdv A outer s H vs Q E hr h => ?_
  · obtain ⟨a, os, rfl, _⟩ := h
    rfl
  · obtain ⟨a, os, rfl, hk, hl, q⟩ := h
    have key : ∀ (L : Addr) (H' : Hp) (i : Nat) (y : Option Int) (acc : List V), os[i]? = some y → H L = none → Same H H' → H' L = some (.lst acc) → acc = ((os.take i).filterMap id).map V.int → acc.length ≤ i →
        (y = none → acc = ((os.take (i + 1)).filterMap id).map V.int) ∧ (∀ z, y = some z → acc ++ [V.int z] = ((os.take (i + 1)).filterMap id).map V.int) := fun L H' i y acc hy nL sm hL e hz => by
      rw [List.take_add_one, hy, List.filterMap_append, List.map_append, ← e]
      refine ⟨fun z => by subst z; simp, fun z e => by subst e; simp⟩
    rcases hk with ha | ha
    · refine ⟨_, (pss_one (ps_ret (pe_callBK (cr_minD rfl) (by rfl) M.min (by decide +kernel) (pa_cons (pe_lc (own := [("order", 1)]) rfl sc_least_order.nd (pi_list (pv 0)) (blkOk_by (own := [("order", 1)]) (N := n_least_order) (sc := defScope s_least_order) (by decide +kernel)) (fun _ _ _ _ _ => (pg_name (i := 1) sc_least_order.nd rfl (.inl rfl))) (fun _ _ _ _ _ => (pts_one (pt_cmpR op_notN (pv 1) pe_non (nomark _)))) (fun _ _ _ _ _ => (pv 1))) pa_nil) (pk_cons pe_non pk_nil)))), ?_⟩
      refine ⟨_, rfl, a, rfl, ⟨_, SqL.of ha⟩, fun L nL => ?_⟩
      refine lc_list (K := K) (a := a) (xs := os.map ordV) (fun i H' => ∃ acc, Same H H' ∧ H' L = some (.lst acc) ∧ acc = ((os.take i).filterMap id).map V.int ∧ acc.length ≤ i)
        ⟨[], same_new nL, upd_same, rfl, Nat.le_refl _⟩ (fun i H' _ ⟨_, sm, _⟩ => SqL.of (sm _ _ ha)) (fun i x H' hi ⟨acc, sm, hL, e, hz⟩ => ?_) fun H' ⟨acc, sm, hL, e, hz⟩ => ?_
      · obtain ⟨y, hy, rfl⟩ := mapO hi
        obtain ⟨k1, k2⟩ := key L H' i y acc hy nL sm hL e hz
        have hil : i < os.length := (List.getElem?_eq_some_iff.mp hy).1
        refine ⟨rfl, _, rfl, rfl, _, rfl, ?_⟩
        rw [ordV_non]
        cases y with
        | none => exact ⟨acc, sm, hL, k1 rfl, by omega⟩
        | some z => exact ⟨_, rfl, acc, hL, small5 (by omega), _, same_mut sm nL, upd_same, k2 z rfl, by rw [List.length_append]; show acc.length + 1 ≤ i + 1; omega⟩
      · rw [List.length_map, List.take_length] at e
        exact ⟨L, _, rfl, rfl, SqL.of (e ▸ hL), q _ sm⟩
    · refine ⟨_, (pss_one (ps_ret (pe_callBK (cr_minD rfl) (by rfl) M.min (by decide +kernel) (pa_cons (pe_lc (own := [("order", 1)]) rfl sc_least_order.nd (pi_tup (pv 0)) (blkOk_by (own := [("order", 1)]) (N := n_least_order) (sc := defScope s_least_order) (by decide +kernel)) (fun _ _ _ _ _ => (pg_name (i := 1) sc_least_order.nd rfl (.inl rfl))) (fun _ _ _ _ _ => (pts_one (pt_cmpR op_notN (pv 1) pe_non (nomark _)))) (fun _ _ _ _ _ => (pv 1))) pa_nil) (pk_cons pe_non pk_nil)))), ?_⟩
      refine ⟨_, rfl, a, rfl, ⟨_, SqT.of ha⟩, fun L nL => ?_⟩
      refine lc_tup (K := K) (a := a) (xs := os.map ordV) (fun i H' => ∃ acc, Same H H' ∧ H' L = some (.lst acc) ∧ acc = ((os.take i).filterMap id).map V.int ∧ acc.length ≤ i)
        ⟨[], same_new nL, upd_same, rfl, Nat.le_refl _⟩ (fun i H' _ ⟨_, sm, _⟩ => SqT.of (sm _ _ ha)) (fun i x H' hi ⟨acc, sm, hL, e, hz⟩ => ?_) fun H' ⟨acc, sm, hL, e, hz⟩ => ?_
      · obtain ⟨y, hy, rfl⟩ := mapO hi
        obtain ⟨k1, k2⟩ := key L H' i y acc hy nL sm hL e hz
        have hil : i < os.length := (List.getElem?_eq_some_iff.mp hy).1
        refine ⟨rfl, _, rfl, rfl, _, rfl, ?_⟩
        rw [ordV_non]
        cases y with
        | none => exact ⟨acc, sm, hL, k1 rfl, by omega⟩
        | some z => exact ⟨_, rfl, acc, hL, small5 (by omega), _, same_mut sm nL, upd_same, k2 z rfl, by rw [List.length_append]; show acc.length + 1 ≤ i + 1; omega⟩
      · rw [List.length_map, List.take_length] at e
        exact ⟨L, _, rfl, rfl, SqL.of (e ▸ hL), q _ sm⟩
theorem ok_l_least_order (D : D1 K mg "_law_least_order" s_l_least_order ["_law_orders"]) (c_l_lesser : C8.Cal P w K mg base (2) "_law_lesser" sp_les []) : C8.Cal P w K mg base (3) "_law_least_order" (sp_lo lfold) [] := by
  refine cal_of D sc_l_least_order (fun vs H Q E h => ?_) fun f cdv A outer s H vs Q E hr h => ?_
  · obtain ⟨a, os, rfl, _⟩ := h
    rfl
  · obtain ⟨a, os, rfl, hk, hl, q⟩ := h
    have stp : ∀ i y, os[i]? = some y → lfold (os.take (i + 1)) = lesM (lfold (os.take i)) y := fun i y e => by
      rw [List.take_add_one, e]
      exact List.foldl_append ..
    rcases hk with ha | ha
    · refine ⟨_, (pss_cons (ps_set (i := 1) sc_l_least_order.nd rfl (.inl rfl) pe_non)
      (pss_cons (ps_for PassesOwn.never rfl (pi_list (pv 0)) (pg_name (i := 2) sc_l_least_order.nd rfl (.inl rfl)) (pss_one (ps_set (i := 1) sc_l_least_order.nd rfl (.inl rfl) (C8.pe_c c_l_lesser hr (by decide) rfl (pa_cons (pv 1) (pa_cons (pv 2) pa_nil))))))
      (pss_one (ps_ret (pv 1))))), ?_⟩
      refine ⟨_, rfl, a, rfl, ⟨_, SqL.of ha⟩, for_list (K := K) (a := a) (xs := os.map ordV) (fun i σ H' => ∃ y2, σ = [some (.ref a), some (ordV (lfold (os.take i))), y2] ∧ H' = H) ⟨none, rfl, rfl⟩ (fun i σ H' _ ⟨_, _, e⟩ => SqL.of (e ▸ ha)) ?_ ?_⟩
      · rintro i x σ H' hi ⟨y2, rfl, rfl⟩
        obtain ⟨y, hy, rfl⟩ := mapO hi
        refine ⟨_, rfl, _, rfl, _, _, rfl, some (ordV y), ?_, rfl⟩
        rw [stp i y hy]
        rfl
      · rintro σ H' ⟨y2, rfl, rfl⟩
        rw [List.length_map, List.take_length]
        exact ⟨_, rfl, q _ (Same.refl _)⟩
    · refine ⟨_, (pss_cons (ps_set (i := 1) sc_l_least_order.nd rfl (.inl rfl) pe_non)
      (pss_cons (ps_for PassesOwn.never rfl (pi_tup (pv 0)) (pg_name (i := 2) sc_l_least_order.nd rfl (.inl rfl)) (pss_one (ps_set (i := 1) sc_l_least_order.nd rfl (.inl rfl) (C8.pe_c c_l_lesser hr (by decide) rfl (pa_cons (pv 1) (pa_cons (pv 2) pa_nil))))))
      (pss_one (ps_ret (pv 1))))), ?_⟩
      refine ⟨_, rfl, a, rfl, ⟨_, SqT.of ha⟩, for_tup (K := K) (a := a) (xs := os.map ordV) (fun i σ H' => ∃ y2, σ = [some (.ref a), some (ordV (lfold (os.take i))), y2] ∧ H' = H) ⟨none, rfl, rfl⟩ (fun i σ H' _ ⟨_, _, e⟩ => SqT.of (e ▸ ha)) ?_ ?_⟩
      · rintro i x σ H' hi ⟨y2, rfl, rfl⟩
        obtain ⟨y, hy, rfl⟩ := mapO hi
        refine ⟨_, rfl, _, rfl, _, _, rfl, some (ordV y), ?_, rfl⟩
        rw [stp i y hy]
        rfl
      · rintro σ H' ⟨y2, rfl, rfl⟩
        rw [List.length_map, List.take_length]
        exact ⟨_, rfl, q _ (Same.refl _)⟩
def sp_ordS : Sp := fun vs H Q _ => ∃ (u : V) (l : List Tm), vs = [u] ∧ Dt H u (nmD l) ∧ ∀ H', Same H H' → Q (ordV (ordM l)) H'
theorem ok_l_order_of (D : D1 K mg "_law_order_of" s_l_order_of ["_law_number_here"]) : C8.Cal P w K mg base (1) "_law_order_of" sp_ordS [] := by
  refine cal_of D sc_l_order_of (fun vs H Q E h => ?_) fun f cdv A outer s H vs Q E hr h => ?_
  · obtain ⟨u, l, rfl, _⟩ := h
    rfl
  · obtain ⟨u, l, rfl, hu, q⟩ := h
    obtain ⟨a, xs, rfl, ha, hx⟩ := id hu.nm
    refine ⟨_, (pss_one (ps_ret (pe_ifExp (pt_cmpR (op_neD hr.units) (pv 0) (pe_tup pa_nil) (nomark _)) (pe_ix (ixt K rfl) (pe_ix (ixt K rfl) (pv 0) pe_int (fun _ _ => rfl)) pe_int (fun _ _ => rfl)) pe_non))), ?_⟩
    refine ⟨_, rfl, by show 0 ≤ sizeLine; decide, fun p hp => ?_⟩
    have s1 : Same H (upd H p (.tup [])) := same_new hp
    refine ⟨_, _, (hu.soft (Same.soft s1)).dp, (Dt.tup upd_same .nil).dp, nm_shaped l, nm_shaped [], _, rfl, ?_⟩
    cases l with
    | nil =>
      exact q _ s1
    | cons t r =>
      cases hx with
      | cons h1 h2 =>
        obtain ⟨b, u, rfl, hb, hu⟩ := h1.tm
        exact ⟨_, rfl, _, _, _, _, rfl, rfl, SqT.of (s1 _ _ ha), atI_nat (j := 0) rfl, _, _, _, _, rfl, rfl, SqT.of (s1 _ _ hb), rfl, q _ s1⟩
end
end Vq
set_option maxHeartbeats 1000000
set_option exponentiation.threshold 20000
namespace Vq
open PySem PySem.Spec PyProof.Rows L2
theorem pg_tupK {X : Cx} (K : PySem.W.Frag) (hK : X.K = K) {es : List Expr} {k : Nat} {t : TGs} {n : Nat} {pos : Pos} (hc : X.calm = true) (h : PGs X es t) (hn : (assignEach es X.env).length = n := by rfl) (hst : (assignEach es X.env).findIdx? (·.1) = none := by rfl) :
    PG X (.Tuple es k pos) (gTup K n t) := hK ▸ pg_tup hc h hn hst
theorem b49 {z : Int} (h : z.natAbs < 2 ^ 8001) : z.natAbs < 2 ^ 9000 := Nat.lt_of_lt_of_le h (Nat.pow_le_pow_right (by decide) (by decide))
theorem b89 {z : Int} (h : z.natAbs < 2 ^ (4000 + 4000)) : z.natAbs < 2 ^ 9000 := Nat.lt_of_lt_of_le h (Nat.pow_le_pow_right (by decide) (by decide))
theorem sum8 {a b : Int} (ha : a.natAbs < 2 ^ (4000 + 4000)) (hb : b.natAbs < 2 ^ (4000 + 4000)) : (a + b).natAbs < 2 ^ 9000 := by
  refine b49 ?_
  have e : (2 : Nat) ^ 8001 = 2 ^ (4000 + 4000) + 2 ^ (4000 + 4000) := by rw [show (8001 : Nat) = (4000 + 4000) + 1 from rfl, Nat.pow_succ, Nat.mul_two]
  have := Int.natAbs_add_le a b
  omega
section
variable {P : Program} {w : World} {K : PySem.W.Frag} {mg : Str → Option Value} {base : Heap}
def sp_sum : Sp := fun vs H Q _ => ∃ (a : Addr) (xs : List V) (ts : List Tm), vs = [.ref a] ∧ H a = some (.lst xs) ∧ DtA H xs (ts.map tmD) ∧ OkT 4000 ts ∧ ts.length ≤ 5000 ∧ Gives H (nmD (numOf (sumT ts))) Q
theorem ok_l_summed (M : Mg mg) (D : D1 K mg "_law_summed" s_l_summed ["_law_terms"]) (c_l_fraction : C8.Cal P w K mg base (2) "_law_fraction" sp_frac []) : C8.Cal P w K mg base (3) "_law_summed" sp_sum [] := by
  refine cal_of D sc_l_summed (fun vs H Q E h => ?_) fun f cdv A outer s H vs Q E hr h => ?_
  · obtain ⟨a, xs, ts, rfl, _⟩ := h
    rfl
  · obtain ⟨a, xs, ts, rfl, ha, hts, ok, hlen, q⟩ := h
    have hu := hu_of hr
    refine ⟨_, (pss_cons (ps_set (i := 1) sc_l_summed.nd rfl (.inr rfl) pe_dnewK)
      (pss_cons (ps_for PassesOwn.never rfl (pi_list (pv 0)) (pg_tup rfl (pgs_cons (pg_name (i := 2) sc_l_summed.nd rfl (.inl rfl)) (pgs_cons (pg_tup rfl (pgs_cons (pg_name (i := 3) sc_l_summed.nd rfl (.inl rfl)) (pgs_cons (pg_name (i := 4) sc_l_summed.nd rfl (.inl rfl)) pgs_nil))) pgs_nil))) (pss_cons (ps_set (i := 5) sc_l_summed.nd rfl (.inl rfl) (pe_dget2 hu (pv 1) (pv 2) (pe_tup (pa_cons pe_int (pa_cons pe_int pa_nil))) ⟨by rfl, by rfl, by rfl, by rfl⟩))
      (pss_one (ps_dput hu (pv 1) (pv 2) (C8.pe_c c_l_fraction hr (by decide) rfl (pa_cons (pe_op op_add (pe_op op_mulW (pe_ix (ixt K rfl) (pv 5) pe_int (fun _ _ => rfl)) (pv 4)) (pe_op op_mulW (pv 3) (pe_ix (ixt K rfl) (pv 5) pe_int (fun _ _ => rfl)))) (pa_cons (pe_op op_mulW (pe_ix (ixt K rfl) (pv 5) pe_int (fun _ _ => rfl)) (pv 4)) pa_nil))) rfl))))
      (pss_one (ps_ret (pe_callTy call_tuple_of (by rfl) M.tuple (by decide +kernel) (pa_cons (pe_lc (own := [("_law_power", 2)]) rfl sc_l_summed.nd (pi_list (pe_callB (cr_srtD rfl) (by rfl) M.sorted (by decide +kernel) (pa_cons (pv 1) pa_nil))) (blkOk_by (own := [("_law_power", 2)]) (N := n_l_summed) (sc := defScope s_l_summed) (by decide +kernel)) (fun _ _ _ _ _ => (pg_name (i := 2) sc_l_summed.nd rfl (.inl rfl))) (fun _ _ _ _ _ => (pts_one (pt_cmpR op_ne (pe_ix (ixt K rfl) (pe_dget hu (pv 1) (pv 2) (fun _ _ => rfl)) pe_int (fun _ _ => rfl)) pe_int (nomark _)))) (fun _ _ _ _ _ => (pe_tup (pa_cons (pv 2) (pa_cons (pe_dget hu (pv 1) (pv 2) (fun _ _ => rfl)) pa_nil))))) pa_nil)))))), ?_⟩
    intro d nd
    have s1 : Same H (upd H d (.dK [])) := same_new nd
    refine ⟨_, rfl, a, rfl, ⟨_, SqL.of (s1 _ _ ha)⟩, for_list (K := K) (a := a) (xs := xs) (fun i σ H' => ∃ kvs y2 y3 y4 y5, σ = [some (.ref a), some (.ref d), y2, y3, y4, y5] ∧ Same H H' ∧ H' d = some (.dK kvs) ∧ DcR H' kvs (sumT (ts.take i)))
      ⟨[], none, none, none, none, rfl, s1, upd_same, .nil⟩ (fun i σ H' _ ⟨_, _, _, _, _, _, sm, _⟩ => SqL.of (sm _ _ ha)) ?_ ?_⟩
    · rintro i x σ H2 hi ⟨kvs, y2, y3, y4, y5, rfl, sm2, hd2, hx2⟩
      obtain ⟨t, ht, hzt⟩ := hts.at hi
      obtain ⟨q1, u, rfl, hq1, hu1⟩ := (hzt.soft (Same.soft sm2)).tm
      obtain ⟨q2, rfl, hq2⟩ := hu1.fr
      refine ⟨q1, _, rfl, SqT.of hq1, rfl, _, _, rfl, _, _, rfl, q2, _, rfl, SqT.of hq2, rfl, _, _, rfl, _, _, rfl, rfl, rfl, ?_⟩
      obtain ⟨f1, f2⟩ := ok _ _ ht
      have il : i < ts.length := (List.getElem?_eq_some_iff.mp ht).1
      -- one = found.get(power, (0, 1))
      refine ⟨_, rfl, d, rfl, .inl ⟨kvs, .inl hd2⟩, _, rfl, by show 2 ≤ sizeLine; decide, fun p hp => ?_⟩
      have nd2 : d ≠ p := ne_of_none hd2 hp
      have hd3 : (upd H2 p (.tup [.int 0, .int 1])) d = some (.dK kvs) := by rw [upd_ne nd2]; exact hd2
      have sf : Soft H2 (upd H2 p (.tup [.int 0, .int 1])) := soft_new hp
      obtain ⟨v, hv, hg⟩ := DcR.getD (hx2.soft sf) (Dt.mkFr upd_same) t.1 hd3
      refine ⟨_, hg, ?_⟩
      obtain ⟨c, ec, hc⟩ := id hv.fr
      -- found[power] = fraction(..)
      refine ⟨_, rfl, c, _, _, _, ec, rfl, SqT.of hc, rfl, _, rfl, _, _, rfl, rfl, wm f2.n f1.d, _, rfl, _, rfl, c, _, _, _, ec, rfl, SqT.of hc, rfl, _, _, rfl, rfl, wm f1.n f2.d, _, _, rfl, rfl, _, rfl, c, _, _, _, ec, rfl, SqT.of hc, rfl, _, rfl, _, _, rfl, rfl, wm f2.d f1.d, ?_⟩
      refine ⟨_, _, rfl, Int.mul_pos f2.p f1.p, sum8 (wide_lt f2.n f1.d) (wide_lt f1.n f2.d), b89 (wide_lt f2.d f1.d), fun v' H4 sm4 hv' => ?_⟩
      have hd4 : H4 d = some (.dK kvs) := sm4 _ _ hd3
      refine ⟨_, rfl, _, rfl, d, _, rfl, DPut.k (k := Sum.inl t.1) hd4 (small5 ?_), ?_⟩
      · rw [hx2.len]
        have := sumT_len (ts.take i)
        rw [List.length_take] at this
        omega
      · refine ⟨_, _, _, _, _, rfl, same_mut ((sm2.trans (same_new hp)).trans sm4) nd, upd_same, ?_⟩
        have e3 : ts.take (i + 1) = ts.take i ++ [t] := by rw [List.take_add_one, ht]; rfl
        rw [e3, sumT_snoc]
        exact ((hx2.soft (sf.trans (Same.soft sm4))).put hv').soft (soft_dK hd4)
    · rintro σ H1 ⟨kvs, y2, y3, y4, y5, rfl, sm1, hd, hx⟩
      rw [show xs.length = ts.length by rw [hts.len, List.length_map], List.take_length] at hx
      have hl : (sumT ts).length ≤ 5000 := Nat.le_trans (sumT_len _) hlen
      refine ⟨_, rfl, d, kvs, _, rfl, .inl hd, hx.keys, fun ys p hp srt np => ?_⟩
      have ey := sortI_eq hp srt
      refine ⟨p, rfl, ⟨_, SqL.of upd_same⟩, fun L nL => ?_⟩
      have nLp : p ≠ L := fun e => by rw [← e, upd_same] at nL; cases nL
      have s2 : Same H1 (upd H1 p (.lst (ys.map V.int))) := same_new np
      refine lc_list (K := K) (a := p) (xs := ys.map V.int) (fun i H' => ∃ acc, Same H1 H' ∧ H' p = some (.lst (ys.map V.int)) ∧ H' L = some (.lst acc) ∧ DtA H' acc (((ys.take i).filterMap (pickM (sumT ts))).map tmD) ∧ acc.length ≤ i)
        ⟨[], s2.trans (same_new nL), by rw [upd_ne nLp, upd_same], upd_same, .nil, Nat.le_refl _⟩ (fun i H' _ ⟨_, _, h, _⟩ => SqL.of h) (fun i x H' hi ⟨acc, sm, hp', hL, hA, hz⟩ => ?_) fun H' ⟨acc, sm, hp', hL, hA, hz⟩ => ?_
      · obtain ⟨y, hy, rfl⟩ := mapI hi
        have ym : y ∈ (sumT ts).map (·.1) := hp.mem_iff.mp (List.mem_of_getElem? hy)
        obtain ⟨fr, hfr⟩ := lookM_keys ym
        have hx' := hx.soft (Same.soft sm)
        rcases hx'.get y with ⟨z, _⟩ | ⟨f', v, z1, z2, z3⟩
        · rw [hfr] at z; cases z
        · rw [hfr] at z1
          cases z1
          have dg : DGet H' d (V.int y) (some v) := z2 ▸ DGet.k (k := Sum.inl y) (sm _ _ hd)
          obtain ⟨b, rfl, hb⟩ := z3.fr
          have et : (ys.take (i + 1)).filterMap (pickM (sumT ts)) = (ys.take i).filterMap (pickM (sumT ts)) ++ (pickM (sumT ts) y).toList := by
            rw [List.take_add_one, hy, List.filterMap_append]
            show _ ++ List.filterMap (pickM (sumT ts)) [y] = _
            cases e : pickM (sumT ts) y <;> simp [e]
          refine ⟨rfl, ?_⟩
          refine ⟨_, rfl, _, rfl, d, _, rfl, dg, _, _, _, _, rfl, rfl, SqT.of hb, rfl, rfl, _, rfl, ?_⟩
          by_cases e0 : fr.1 = 0
          · have ep : pickM (sumT ts) y = none := by
              unfold pickM
              rw [hfr]
              exact if_pos e0
            have eb : (!decide (V.int fr.1 = V.int 0)) = false := by simp [e0]
            rw [eb]
            refine ⟨acc, sm, hp', hL, ?_, by omega⟩
            rw [et, ep]
            simpa using hA
          · have ep : pickM (sumT ts) y = some (y, fr) := by
              unfold pickM
              rw [hfr]
              exact if_neg e0
            have eb : (!decide (V.int fr.1 = V.int 0)) = true := by simp [e0]
            rw [eb]
            refine ⟨_, rfl, _, rfl, _, rfl, d, _, rfl, dg, by show 2 ≤ sizeLine; decide, fun t ht => ?_⟩
            have nt : L ≠ t := ne_of_none hL ht
            have npt : p ≠ t := ne_of_none hp' ht
            have hil : i < ys.length := (List.getElem?_eq_some_iff.mp hy).1
            have hyl : ys.length ≤ 5000 := by rw [hp.length_eq, List.length_map]; exact hl
            have sf : Soft H' (upd (upd H' t (.tup [.int y, .ref b])) L (.lst (acc ++ [.ref t]))) := (soft_new ht).trans (soft_lst (ys := acc) (by rw [upd_ne nt]; exact hL))
            refine ⟨acc, by rw [upd_ne nt]; exact hL, small5 (by omega), _, same_mut (sm.trans (same_new ht)) (s2.free nL), ?_, upd_same, ?_, ?_⟩
            · rw [upd_ne nLp, upd_ne npt]; exact hp'
            · rw [et, ep, List.map_append]
              refine (hA.soft sf).append (.one (Dt.mkTm (u := .ref b) ?_ (z3.soft sf)))
              rw [upd_ne nt.symm, upd_same]
            · rw [List.length_append]
              show acc.length + 1 ≤ i + 1
              omega
      · refine ⟨L, acc, rfl, .inl ⟨SqL.of hL, fun l hl => ?_⟩⟩
        refine q _ _ (sm1.trans (sm.trans (same_new hl))) (.tup upd_same ?_)
        have := hA.soft (soft_new (o := .tup acc) hl)
        rw [List.length_map, List.take_length, ey] at this
        exact this
/-! ### the law's total, product, minus, difference -/
def sp_totL : Sp := fun vs H Q _ => ∃ (a : Addr) (xs : List V) (ns : List (List Tm)), vs = [.ref a] ∧ H a = some (.lst xs) ∧ DtA H xs (ns.map nmD) ∧ OkT 4000 ns.flatten ∧ ns.flatten.length ≤ 5000 ∧ Gives H (nmD (totM ns)) Q
theorem ok_l_total (D : D1 K mg "_law_total" s_l_total ["_law_numbers"]) (c_l_summed : C8.Cal P w K mg base (3) "_law_summed" sp_sum []) : C8.Cal P w K mg base (4) "_law_total" sp_totL [] := by
  refine cal_of D sc_l_total (fun vs H Q E h => ?_) fun f cdv A outer s H vs Q E hr h => ?_
  · obtain ⟨a, xs, ns, rfl, _⟩ := h
    rfl
  · obtain ⟨a, xs, ns, rfl, ha, hns, ok, hlen, q⟩ := h
    refine ⟨_, (pss_cons (ps_set (i := 1) sc_l_total.nd rfl (.inl rfl) (pe_lst pa_nil))
      (pss_cons (ps_for PassesOwn.never rfl (pi_list (pv 0)) (pg_name (i := 2) sc_l_total.nd rfl (.inl rfl)) (pss_one (ps_expr (pe_bm PySem.F.plainAttrs_list PySem.F.slot_list_extend PySem.F.type_list_extend mt_extT (pv 1) (pa_cons (pv 2) pa_nil)))))
      (pss_one (ps_ret (C8.pe_c c_l_summed hr (by decide) rfl (pa_cons (pv 1) pa_nil)))))), ?_⟩
    refine ⟨Nat.zero_le _, fun L nL => ?_⟩
    have s1 : Same H (upd H L (.lst [])) := same_new nL
    refine ⟨_, rfl, a, rfl, ⟨_, SqL.of (s1 _ _ ha)⟩, for_list (K := K) (a := a) (xs := xs) (fun i σ H' => ∃ acc y2, σ = [some (.ref a), some (.ref L), y2] ∧ Same H H' ∧ H' L = some (.lst acc) ∧ DtA H' acc ((ns.take i).flatten.map tmD))
      ⟨[], none, rfl, s1, upd_same, .nil⟩ (fun i σ H' _ ⟨_, _, _, sm, _⟩ => SqL.of (sm _ _ ha)) ?_ ?_⟩
    · rintro i x σ H' hi ⟨acc, y2, rfl, sm, hL, hA⟩
      obtain ⟨l, hl, hxl⟩ := nums_at hns hi
      obtain ⟨b, zs, rfl, hb, hz⟩ := (hxl.soft (Same.soft sm)).nm
      have e3 : (ns.take (i + 1)).flatten = (ns.take i).flatten ++ l := by rw [List.take_add_one, hl, List.flatten_append]; simp
      have e4 : ((ns.take (i + 1)).flatten).length ≤ 5000 := by
        have e5 := congrArg List.length (congrArg List.flatten (List.take_append_drop (i + 1) ns))
        rw [List.flatten_append, List.length_append] at e5
        omega
      rw [e3, List.length_append] at e4
      have l1 := hA.len
      have l2 := hz.len
      rw [List.length_map] at l1 l2
      refine ⟨_, rfl, .inl ⟨rfl, _, SqL.of hL⟩, _, rfl, L, b, acc, zs, rfl, rfl, hL, hb, Nat.le_of_lt (small5 (by omega)), ?_⟩
      have sf : Soft H' (upd H' L (.lst (acc ++ zs))) := soft_lst hL
      refine ⟨_, _, rfl, same_mut sm nL, upd_same, ?_⟩
      rw [e3, List.map_append]
      exact (hA.soft sf).append (hz.soft sf)
    · rintro σ H' ⟨acc, y2, rfl, sm, hL, hA⟩
      rw [show xs.length = ns.length by rw [hns.len, List.length_map], List.take_length] at hA
      exact ⟨_, rfl, L, acc, ns.flatten, rfl, hL, hA, ok, hlen, fun v H2 s2 hv => q _ _ (sm.trans s2) hv⟩
theorem ok_l_times (D : D1 K mg "_law_times" s_l_times ["_law_one", "_law_other"]) (c_l_fraction : C8.Cal P w K mg base (2) "_law_fraction" sp_frac []) (c_l_summed : C8.Cal P w K mg base (3) "_law_summed" sp_sum []) :
    C8.Cal P w K mg base (4) "_law_times" sp_tim [] := by
  refine cal_of D sc_l_times (fun vs H Q E h => ?_) fun f cdv A outer s H vs Q E hr h => ?_
  · obtain ⟨u, v, a, b, rfl, _⟩ := h
    rfl
  · obtain ⟨u, v, a, b, rfl, hu0, hv0, fa, fb, ok, hlen, q⟩ := h
    obtain ⟨pa, xs, rfl, ha, hxs⟩ := hu0.nm
    obtain ⟨pb, ys, rfl, hb, hys⟩ := hv0.nm
    refine ⟨_, (pss_cons (ps_set (i := 2) sc_l_times.nd rfl (.inl rfl) (pe_lst pa_nil))
      (pss_cons (ps_for PassesOwn.never rfl (pi_tup (pv 0)) (pg_tup rfl (pgs_cons (pg_name (i := 3) sc_l_times.nd rfl (.inl rfl)) (pgs_cons (pg_name (i := 4) sc_l_times.nd rfl (.inl rfl)) pgs_nil))) (pss_one (ps_for PassesOwn.never rfl (pi_tup (pv 1)) (pg_tup rfl (pgs_cons (pg_name (i := 5) sc_l_times.nd rfl (.inl rfl)) (pgs_cons (pg_name (i := 6) sc_l_times.nd rfl (.inl rfl)) pgs_nil))) (pss_one (ps_expr (pe_bm PySem.F.plainAttrs_list PySem.F.slot_list_append PySem.F.type_list_append mt_append (pv 2) (pa_cons (pe_tup (pa_cons (pe_op op_add (pv 3) (pv 5)) (pa_cons (C8.pe_c c_l_fraction hr (by decide) rfl (pa_cons (pe_op op_mulW (pe_ix (ixt K rfl) (pv 4) pe_int (fun _ _ => rfl)) (pe_ix (ixt K rfl) (pv 6) pe_int (fun _ _ => rfl))) (pa_cons (pe_op op_mulW (pe_ix (ixt K rfl) (pv 4) pe_int (fun _ _ => rfl)) (pe_ix (ixt K rfl) (pv 6) pe_int (fun _ _ => rfl))) pa_nil))) pa_nil))) pa_nil)))))))
      (pss_one (ps_ret (C8.pe_c c_l_summed hr (by decide) rfl (pa_cons (pv 2) pa_nil)))))), ?_⟩
    refine ⟨Nat.zero_le _, fun L nL => ?_⟩
    have s1 : Same H (upd H L (.lst [])) := same_new nL
    rw [mulT_eq] at ok hlen
    refine ⟨_, rfl, pa, rfl, ⟨_, SqT.of (s1 _ _ ha)⟩, for_tup (K := K) (a := pa) (xs := xs) (fun i σ H' => ∃ acc y3 y4 y5 y6, σ = [some (.ref pa), some (.ref pb), some (.ref L), y3, y4, y5, y6] ∧ Same H H' ∧ H' L = some (.lst acc) ∧ DtA H' acc (((a.map fun s => mulRow s b).take i).flatten.map tmD))
      ⟨[], none, none, none, none, rfl, s1, upd_same, .nil⟩ (fun i σ H' _ ⟨_, _, _, _, _, _, sm, _⟩ => SqT.of (sm _ _ ha)) ?_ ?_⟩
    · rintro i x σ H' hi ⟨acc, y3, y4, y5, y6, rfl, sm, hL, hA⟩
      obtain ⟨t0, ht0, hxt⟩ := hxs.at hi
      have hrow : (a.map fun s => mulRow s b)[i]? = some (mulRow t0 b) := by rw [List.getElem?_map, ht0]; rfl
      obtain ⟨q0, u0, rfl, hq0, hu0'⟩ := hxt.tm
      refine ⟨q0, _, rfl, SqT.of (sm _ _ hq0), rfl, _, _, rfl, _, _, rfl, rfl, ?_⟩
      refine ⟨_, rfl, pb, rfl, ⟨_, SqT.of (sm _ _ hb)⟩, for_tup (K := K) (a := pb) (xs := ys) (fun j σ H'' => ∃ acc y5 y6, σ = [some (.ref pa), some (.ref pb), some (.ref L), some (.int t0.1), some u0, y5, y6] ∧ Same H H'' ∧ H'' L = some (.lst acc) ∧ DtA H'' acc ((((a.map fun s => mulRow s b).take i).flatten ++ (mulRow t0 b).take j).map tmD))
        ⟨acc, y5, y6, rfl, sm, hL, by simpa using hA⟩ (fun i σ H' _ ⟨_, _, _, _, sm, _⟩ => SqT.of (sm _ _ hb)) ?_ ?_⟩
      · rintro j z σ H2 hj ⟨acc, y5, y6, rfl, sm2, hL2, hA2⟩
        obtain ⟨t, ht, hzt⟩ := hys.at hj
        obtain ⟨q1, u, rfl, hq1, hu1⟩ := (hzt.soft (Same.soft sm2)).tm
        refine ⟨q1, _, rfl, SqT.of hq1, rfl, _, _, rfl, _, _, rfl, rfl, ?_⟩
        have hat := flat_at hrow (mulRow_at (s := t0) ht)
        have lt : (((a.map fun s => mulRow s b).take i).flatten ++ (mulRow t0 b).take j).length < 5000 := by
          have := (List.getElem?_eq_some_iff.mp hat).1
          omega
        have g0 := fa _ (List.mem_of_getElem? ht0)
        have g1 := fb _ (List.mem_of_getElem? ht)
        obtain ⟨c0, rfl, hc0⟩ := (hu0'.soft (Same.soft sm2)).fr
        obtain ⟨c1, rfl, hc1⟩ := hu1.fr
        refine ⟨_, rfl, .inl ⟨rfl, _, SqL.of hL2⟩, _, rfl, _, rfl, _, _, rfl, rfl, ?_⟩
        refine ⟨_, rfl, _, _, _, _, rfl, rfl, SqT.of hc0, rfl, _, rfl, _, _, _, _, rfl, rfl, SqT.of hc1, rfl, _, _, rfl, rfl, wm g0.n g1.n, _, rfl, _, _, _, _, rfl, rfl, SqT.of hc0, rfl, _, rfl, _, _, _, _, rfl, rfl, SqT.of hc1, rfl, _, _, rfl, rfl, wm g0.d g1.d, ?_⟩
        refine ⟨_, _, rfl, Int.mul_pos g0.p g1.p, b89 (wide_lt g0.n g1.n), b89 (wide_lt g0.d g1.d), fun v' H3 sm3 hv' => ?_⟩
        refine ⟨by show 2 ≤ sizeLine; decide, fun p hp => ?_⟩
        have hL3 : H3 L = some (.lst acc) := sm3 _ _ hL2
        have nLp : L ≠ p := ne_of_none hL3 hp
        have hL4 : (upd H3 p (.tup [.int (t0.1 + t.1), v'])) L = some (.lst acc) := by rw [upd_ne nLp]; exact hL3
        have l1 := hA2.len
        rw [List.length_map] at l1
        refine ⟨L, acc, _, rfl, rfl, hL4, small5 (by omega), ?_⟩
        have sf : Soft H3 (upd (upd H3 p (.tup [.int (t0.1 + t.1), v'])) L (.lst (acc ++ [.ref p]))) := (soft_new hp).trans (soft_lst hL4)
        refine ⟨_, _, _, rfl, same_mut ((sm2.trans sm3).trans (same_new hp)) nL, upd_same, ?_⟩
        have e3 : ((a.map fun s => mulRow s b).take i).flatten ++ (mulRow t0 b).take (j + 1) = (((a.map fun s => mulRow s b).take i).flatten ++ (mulRow t0 b).take j) ++ [(t0.1 + t.1, mulF t0.2 t.2)] := by
          rw [List.take_add_one, mulRow_at (s := t0) ht, ← List.append_assoc]
          rfl
        rw [e3, List.map_append]
        refine ((hA2.soft (Same.soft sm3)).soft sf).append (.one (Dt.mkTm (u := v') ?_ (hv'.soft sf)))
        rw [upd_ne nLp.symm, upd_same]
      · rintro σ H2 ⟨acc, y5, y6, rfl, sm2, hL2, hA2⟩
        refine ⟨acc, _, _, y5, y6, rfl, sm2, hL2, ?_⟩
        have e4 : ys.length = (mulRow t0 b).length := by rw [hys.len, List.length_map]; exact (List.length_map ..).symm
        rw [List.take_add_one, hrow, List.flatten_append]
        rw [e4, List.take_length] at hA2
        simpa using hA2
    · rintro σ H' ⟨acc, y3, y4, y5, y6, rfl, sm, hL, hA⟩
      have e5 : xs.length = (a.map fun s => mulRow s b).length := by rw [hxs.len, List.length_map, List.length_map]
      rw [e5, List.take_length] at hA
      refine ⟨_, rfl, L, acc, _, rfl, hL, hA, ok, hlen, fun v H2 s2 hv => ?_⟩
      refine q _ _ (sm.trans s2) ?_
      unfold timM
      rw [mulT_eq]
      exact hv
def sp_min : Sp := fun vs H Q _ => ∃ (u : V) (l : List Tm), vs = [u] ∧ Dt H u (nmD l) ∧ l.length ≤ 5000 ∧ Gives H (nmD (minM l)) Q
theorem ok_l_minus (M : Mg mg) (D : D1 K mg "_law_minus" s_l_minus ["_law_number_here"]) : C8.Cal P w K mg base (1) "_law_minus" sp_min [] := by
  refine cal_of D sc_l_minus (fun vs H Q E h => ?_) fun f cdv A outer s H vs Q E hr h => ?_
  · obtain ⟨u, l, rfl, _⟩ := h
    rfl
  · obtain ⟨u, l, rfl, hu0, hl, q⟩ := h
    obtain ⟨a, xs, rfl, ha, hxs⟩ := hu0.nm
    refine ⟨_, (pss_one (ps_ret (pe_callTy call_tuple_of (by rfl) M.tuple (by decide +kernel) (pa_cons (pe_lc (own := [("_law_power", 1), ("_law_factor_here", 2)]) rfl sc_l_minus.nd (pi_tup (pv 0)) (blkOk_by (own := [("_law_power", 1), ("_law_factor_here", 2)]) (N := n_l_minus) (sc := defScope s_l_minus) (by decide +kernel)) (fun _ _ _ _ _ => (pg_tupK K rfl (n := 2) rfl (pgs_cons (pg_name (i := 1) sc_l_minus.nd rfl (.inl rfl)) (pgs_cons (pg_name (i := 2) sc_l_minus.nd rfl (.inl rfl)) pgs_nil)))) (fun _ _ _ _ _ => pts_nil) (fun _ _ _ _ _ => (pe_tup (pa_cons (pv 1) (pa_cons (pe_tup (pa_cons (pe_un un_neg (pe_ix (ixt K rfl) (pv 2) pe_int (fun _ _ => rfl))) (pa_cons (pe_ix (ixt K rfl) (pv 2) pe_int (fun _ _ => rfl)) pa_nil))) pa_nil))))) pa_nil)))), ?_⟩
    refine ⟨_, rfl, a, rfl, ⟨_, SqT.of ha⟩, fun L nL => ?_⟩
    refine lc_tup (K := K) (a := a) (xs := xs) (fun i H' => ∃ acc, Same H H' ∧ H' L = some (.lst acc) ∧ DtA H' acc ((minM (l.take i)).map tmD) ∧ acc.length ≤ i)
      ⟨[], same_new nL, upd_same, .nil, Nat.le_refl _⟩ (fun i H' _ ⟨_, sm, _⟩ => SqT.of (sm _ _ ha)) (fun i x H' hi ⟨acc, sm, hL, hA, hz⟩ => ?_) fun H' ⟨acc, sm, hL, hA, hz⟩ => ?_
    · obtain ⟨t, ht, hxt⟩ := hxs.at hi
      obtain ⟨q0, u0, rfl, hq0, hu1⟩ := (hxt.soft (Same.soft sm)).tm
      obtain ⟨c, rfl, hc⟩ := hu1.fr
      have hil : i < l.length := (List.getElem?_eq_some_iff.mp ht).1
      refine ⟨q0, _, rfl, SqT.of hq0, rfl, _, _, rfl, _, _, rfl, rfl, rfl, ?_⟩
      refine ⟨_, rfl, _, rfl, _, _, _, _, rfl, rfl, SqT.of hc, rfl, _, rfl, _, rfl, _, _, _, _, rfl, rfl, SqT.of hc, rfl, by show 2 ≤ sizeLine; decide, fun p hp => ⟨by show 2 ≤ sizeLine; decide, fun r hr2 => ?_⟩⟩
      have n1 : L ≠ p := ne_of_none hL hp
      have hL1 : (upd H' p (.tup [.int (-t.2.1), .int t.2.2])) L = some (.lst acc) := by rw [upd_ne n1]; exact hL
      have n2 : L ≠ r := ne_of_none hL1 hr2
      have hL2 : (upd (upd H' p (.tup [.int (-t.2.1), .int t.2.2])) r (.tup [.int t.1, .ref p])) L = some (.lst acc) := by rw [upd_ne n2]; exact hL1
      have sp : Soft (upd H' p (.tup [.int (-t.2.1), .int t.2.2])) (upd (upd (upd H' p (.tup [.int (-t.2.1), .int t.2.2])) r (.tup [.int t.1, .ref p])) L (.lst (acc ++ [.ref r]))) := (soft_new hr2).trans (soft_lst hL2)
      refine ⟨acc, hL2, small5 (by omega), _, same_mut ((sm.trans (same_new hp)).trans (same_new hr2)) nL, upd_same, ?_, ?_⟩
      · have e3 : minM (l.take (i + 1)) = minM (l.take i) ++ [(t.1, (-t.2.1, t.2.2))] := by
          unfold minM
          rw [List.take_add_one, ht, List.map_append]
          rfl
        rw [e3, List.map_append]
        refine (hA.soft ((soft_new hp).trans sp)).append (.one (Dt.mkTm (u := .ref p) ?_ (Dt.soft sp (Dt.mkFr (n := -t.2.1) (d := t.2.2) upd_same))))
        rw [upd_ne n2.symm, upd_same]
      · rw [List.length_append]
        show acc.length + 1 ≤ i + 1
        omega
    · refine ⟨L, acc, rfl, .inl ⟨SqL.of hL, fun r hr2 => ?_⟩⟩
      refine q _ _ (sm.trans (same_new hr2)) (.tup upd_same ?_)
      have := hA.soft (soft_new (o := .tup acc) hr2)
      rw [show xs.length = l.length by rw [hxs.len, List.length_map], List.take_length] at this
      exact this
def sp_lessL : Sp := fun vs H Q _ => ∃ (u v : V) (a b : List Tm), vs = [u, v] ∧ Dt H u (nmD a) ∧ Dt H v (nmD b) ∧ b.length ≤ 5000 ∧ OkT 4000 (a ++ minM b) ∧ (a ++ minM b).length ≤ 5000 ∧ Gives H (nmD (totM [a, minM b])) Q
theorem ok_l_less (D : D1 K mg "_law_less" s_l_less ["_law_one", "_law_other"]) (c_l_minus : C8.Cal P w K mg base (1) "_law_minus" sp_min []) (c_l_total : C8.Cal P w K mg base (4) "_law_total" sp_totL []) : C8.Cal P w K mg base (5) "_law_less" sp_lessL [] := by
  refine cal_of D sc_l_less (fun vs H Q E h => ?_) fun f cdv A outer s H vs Q E hr h => ?_
  · obtain ⟨u, v, a, b, rfl, _⟩ := h
    rfl
  · obtain ⟨u, v, a, b, rfl, hu0, hv0, l1, ok2, l2, q⟩ := h
    refine ⟨_, (pss_one (ps_ret (C8.pe_c c_l_total hr (by decide) rfl (pa_cons (pe_lst (pa_cons (pv 0) (pa_cons (C8.pe_c c_l_minus hr (by decide) rfl (pa_cons (pv 1) pa_nil)) pa_nil))) pa_nil)))), ?_⟩
    refine ⟨_, rfl, _, rfl, _, b, rfl, hv0, l1, fun v' H' sm hv' => ?_⟩
    refine ⟨by show 2 ≤ sizeLine; decide, fun L nL => ?_⟩
    have s4 := sm.trans (same_new (o := .lst [u, v']) nL)
    refine ⟨L, _, [a, minM b], rfl, upd_same, .cons (hu0.soft (Same.soft s4)) (.one (hv'.soft (soft_new nL))), by simpa using ok2, by simpa using l2, fun x H2 s5 hx => q _ _ (s4.trans s5) hx⟩
end
end Vq
set_option maxHeartbeats 2000000
set_option exponentiation.threshold 20000
namespace Vq
open PySem PySem.Spec PyProof.Rows L2
/-- the bag that numbers are drawn from -/
structure BagAt (g r : Addr) (H : Hp) : Prop where
  ex : ∃ (b0 b1 b2 : Int) (cs : List Int), H g = some (.lst [.int b0, .int b1, .int b2, .ref r]) ∧ H r = some (.lst (cs.map V.int)) ∧ r ≠ g ∧ 0 ≤ b0 ∧ 0 ≤ b1 ∧ 0 ≤ b2 ∧ (∀ c ∈ cs, 0 ≤ c) ∧ cs.length ≤ 63
theorem BagAt.lst {g r : Addr} {H : Hp} (B : BagAt g r H) : ∃ xs, H g = some (.lst xs) := by
  obtain ⟨b0, b1, b2, cs, h, _⟩ := B.ex
  exact ⟨_, h⟩
theorem BagAt.soft {g r : Addr} {H H' : Hp} (B : BagAt g r H) (s : Stay g H H') : Soft H H' := by
  obtain ⟨xs, h⟩ := B.lst
  exact s.soft h
theorem BagAt.ne {g r p : Addr} {H : Hp} (B : BagAt g r H) (h : H p = none) : p ≠ g := fun e => by
  obtain ⟨xs, z⟩ := B.lst
  rw [e, z] at h
  cases h
theorem BagAt.same {g r : Addr} {H H' : Hp} (B : BagAt g r H) (s : Same H H') : BagAt g r H' := by
  obtain ⟨b0, b1, b2, cs, h1, h2, h3⟩ := B.ex
  exact ⟨b0, b1, b2, cs, s _ _ h1, s _ _ h2, h3⟩
theorem BagAt.mut {g r p : Addr} {H : Hp} {o : HO} (B : BagAt g r H) (n1 : g ≠ p) (n2 : r ≠ p) : BagAt g r (upd H p o) := by
  obtain ⟨b0, b1, b2, cs, h1, h2, h3⟩ := B.ex
  exact ⟨b0, b1, b2, cs, by rw [upd_ne n1]; exact h1, by rw [upd_ne n2]; exact h2, h3⟩
theorem BagAt.ner {g r p : Addr} {H : Hp} (B : BagAt g r H) (h : H p = none) : r ≠ p := by
  obtain ⟨b0, b1, b2, cs, h1, h2, h3⟩ := B.ex
  exact ne_of_none h2 h
theorem cut_map (l : List Int) (lo hi : Option Int) : ∃ m : List Int, cutV (l.map V.int) lo hi = m.map V.int ∧ (∀ c ∈ m, c ∈ l) ∧ m.length ≤ l.length := by
  have hl := cutV_length (l.map V.int) lo hi
  unfold cutV at hl ⊢
  refine ⟨(l.drop (HT.sIx (l.map V.int).length 0 lo)).take (HT.sIx (l.map V.int).length (l.map V.int).length hi - HT.sIx (l.map V.int).length 0 lo), by rw [List.map_take, List.map_drop], fun c h => List.mem_of_mem_drop (List.mem_of_mem_take h), ?_⟩
  rw [← List.map_drop, ← List.map_take, List.length_map] at hl
  simpa only [List.length_map] using hl
section
variable {P : Program} {w : World} {K : PySem.W.Frag} {mg : Str → Option Value} {base : Heap}
def sp_bag (K : PySem.W.Frag) : Sp := fun vs H Q _ => ∃ (a : Addr) (ns : List Int), vs = [.ref a] ∧ SqL K H a (ns.map V.int) ∧ ns.length ≤ 63 ∧ ∀ g r H', Same H H' → H g = none → BagAt g r H' → Q (.ref g) H'
theorem ok_l_bag (M : Mg mg) (D : D1 K mg "_law_bag" s_l_bag ["_law_script"]) : C8.Cal P w K mg base (1) "_law_bag" (sp_bag K) [] := by
  refine cal_of D sc_l_bag (fun vs H Q E h => ?_) fun f cdv A outer s H vs Q E hr h => ?_
  · obtain ⟨a, ns, rfl, _⟩ := h
    rfl
  · obtain ⟨a, ns, rfl, hS, hlen, q⟩ := h
    refine ⟨_, (pss_one (ps_ret (pe_lst (pa_cons pe_int (pa_cons pe_int (pa_cons pe_int (pa_cons (pe_lc (own := [("_law_cell", 1)]) rfl sc_l_bag.nd (pi_list (pe_slice sl_list (pv 0) po_none (po_some pe_int))) (blkOk_by (own := [("_law_cell", 1)]) (N := n_l_bag) (sc := defScope s_l_bag) (by decide +kernel)) (fun _ _ _ _ _ => (pg_name (i := 1) sc_l_bag.nd rfl (.inl rfl))) (fun _ _ _ _ _ => pts_nil) (fun _ _ _ _ _ => (pe_callB call_abs (by rfl) M.abs (by decide +kernel) (pa_cons (pv 1) pa_nil)))) pa_nil))))))), ?_⟩
    obtain ⟨m, em, hm, hml⟩ := cut_map ns none (some 63)
    refine ⟨_, rfl, _, rfl, a, _, rfl, hS, fun p np => ?_⟩
    rw [em]
    refine ⟨p, rfl, ⟨_, SqL.of upd_same⟩, fun L nL => ?_⟩
    have nLp : p ≠ L := fun e => by rw [← e, upd_same] at nL; cases nL
    have s1 : Same H (upd H p (.lst (m.map V.int))) := same_new np
    refine lc_list (K := K) (a := p) (xs := m.map V.int) (fun i H' => ∃ cs : List Int, Same (upd H p (.lst (m.map V.int))) H' ∧ H' L = some (.lst (cs.map V.int)) ∧ (∀ c ∈ cs, 0 ≤ c) ∧ cs.length ≤ i)
      ⟨[], same_new nL, upd_same, (fun c h => by cases h), Nat.le_refl _⟩ (fun i H' _ ⟨_, sm, _⟩ => SqL.of (sm _ _ upd_same)) (fun i x H' hi ⟨cs, sm, hL, h0, hz⟩ => ?_) fun H' ⟨cs, sm, hL, h0, hz⟩ => ?_
    · obtain ⟨y, hy, rfl⟩ := mapI hi
      have hil : i < m.length := (List.getElem?_eq_some_iff.mp hy).1
      refine ⟨rfl, _, rfl, y, rfl, cs.map V.int, hL, by rw [List.length_map]; exact small5 (by omega), cs ++ [if y < 0 then -y else y], same_mut sm nL, by rw [upd_same, List.map_append]; rfl, fun c h => ?_, by rw [List.length_append]; show cs.length + 1 ≤ i + 1; omega⟩
      rcases List.mem_append.mp h with h | h
      · exact h0 c h
      · rw [List.mem_singleton.mp h]
        split <;> omega
    · rw [List.length_map] at hz
      refine ⟨by show 4 ≤ sizeLine; decide, fun g ng => ?_⟩
      have nLg : L ≠ g := ne_of_none hL ng
      have ng0 : H g = none := (s1.trans sm).free ng
      exact q g L _ ((s1.trans sm).trans (same_new ng)) ng0 ⟨0, 1234567891, 0, cs, upd_same, by rw [upd_ne nLg]; exact hL, nLg, by decide, by decide, by decide, h0, by omega⟩
def sp_take : Sp := fun vs H Q _ => ∃ (g r : Addr) (m : Int), vs = [.ref g, .int m] ∧ BagAt g r H ∧ 0 < m ∧ m < 2 ^ 20 ∧ ∀ (j : Int) (H' : Hp), 0 ≤ j → j < m → Stay g H H' → BagAt g r H' → Q (.int j) H'
theorem ok_l_take (M : Mg mg) (D : D1 K mg "_law_take" s_l_take ["_law_bag_here", "_law_many"]) : C8.Cal P w K mg base (1) "_law_take" sp_take [] := by
  refine cal_of D sc_l_take (fun vs H Q E h => ?_) fun f cdv A outer s H vs Q E hr h => ?_
  · obtain ⟨g, r, m, rfl, _⟩ := h
    rfl
  · obtain ⟨g, r, m, rfl, B, m0, m1, q⟩ := h
    obtain ⟨b0, b1, b2, cs, hg, hcs, nrg, p0, p1, p2, pc, lc⟩ := B.ex
    refine ⟨_, (C8.pss_cut (ps_if (pt_cmpR op_eq (pe_ix (ixl K rfl) (pv 0) pe_int (fun _ _ => rfl)) pe_int (nomark _)) (pss_cons (ps_set (i := 2) sc_l_take.nd rfl (.inl rfl) (pe_ix (ixl K rfl) (pe_op op_cat (pe_slice sl_list (pe_ix (ixl K rfl) (pv 0) pe_int (fun _ _ => rfl)) (po_some (pe_ix (ixl K rfl) (pv 0) pe_int (fun _ _ => rfl))) po_none) (pe_lst (pa_cons pe_int pa_nil))) pe_int (fun _ _ => rfl)))
      (pss_cons (ps_augS (pv 0) pe_int get_lst pe_int ip_add set_list)
      (C8.pss_cut (ps_if (pt_cmpR op_ge (pv 2) (pe_op op_pow pe_int pe_int) (nomark _)) (pss_one (ps_asg (pv 2) (pg_sub (pv 0) pe_int set_list))) pss_nil)
      (pss_cons (ps_set (i := 3) sc_l_take.nd rfl (.inl rfl) (pe_op op_add (pe_op op_add (pe_op op_mul (pe_ix (ixl K rfl) (pv 0) pe_int (fun _ _ => rfl)) pe_int) (pe_op op_mod (pe_callTy call_int1 (by rfl) M.int (by decide +kernel) (pa_cons (pv 2) pa_nil)) pe_int)) (pe_op op_mul pe_int (pe_ix (ixl K rfl) (pv 0) pe_int (fun _ _ => rfl)))))
      (pss_one (ps_asg (pe_op op_mod (pe_callTy call_int1 (by rfl) M.int (by decide +kernel) (pa_cons (pv 3) pa_nil)) pe_int) (pg_sub (pv 0) pe_int set_list))))))) pss_nil)
      (C8.pss_cut (ps_if (pt_cmpR op_gt (pe_ix (ixl K rfl) (pv 0) pe_int (fun _ _ => rfl)) pe_int (nomark _)) (pss_cons (ps_set (i := 4) sc_l_take.nd rfl (.inl rfl) (pe_op op_mod (pe_callTy call_int1 (by rfl) M.int (by decide +kernel) (pa_cons (pe_ix (ixl K rfl) (pv 0) pe_int (fun _ _ => rfl)) pa_nil)) (pv 1)))
      (pss_cons (ps_asg (pe_op op_fdiv (pe_callTy call_int1 (by rfl) M.int (by decide +kernel) (pa_cons (pe_ix (ixl K rfl) (pv 0) pe_int (fun _ _ => rfl)) pa_nil)) (pv 1)) (pg_sub (pv 0) pe_int set_list))
      (pss_one (ps_ret (pv 4))))) pss_nil)
      (pss_cons (ps_set (i := 5) sc_l_take.nd rfl (.inl rfl) (pe_op op_mod (pe_callTy call_int1 (by rfl) M.int (by decide +kernel) (pa_cons (pe_op op_mul (pe_op op_add (pe_ix (ixl K rfl) (pv 0) pe_int (fun _ _ => rfl)) pe_int) pe_int) pa_nil)) pe_int))
      (pss_cons (ps_set (i := 6) sc_l_take.nd rfl (.inl rfl) (pe_op op_mod (pe_callTy call_int1 (by rfl) M.int (by decide +kernel) (pa_cons (pe_op op_mul (pe_op op_mod (pe_callTy call_int1 (by rfl) M.int (by decide +kernel) (pa_cons (pe_op op_mul (pv 5) (pv 5)) pa_nil)) pe_int) pe_int) pa_nil)) pe_int))
      (pss_one (ps_ret (pe_op op_mod (pe_callTy call_int1 (by rfl) M.int (by decide +kernel) (pa_cons (pe_op op_fdiv (pv 6) pe_int) pa_nil)) (pv 1)))))))), ?_⟩
    refine ⟨fun σ' H' => (∃ y2 y3 y4 y5 y6, σ' = [some (.ref g), some (.int m), y2, y3, y4, y5, y6]) ∧ Stay g H H' ∧ BagAt g r H', ?_, ?_⟩
    · -- if bag[0] == 0
      refine ⟨_, rfl, _, _, _, _, rfl, rfl, SqL.of hg, rfl, rfl, _, rfl, ?_⟩
      refine ite2 (fun _ => ?_) (fun _ => ?_)
      · obtain ⟨m2, em, hm2, lm2⟩ := cut_map cs (some b2) none
        refine ⟨_, rfl, _, _, _, _, rfl, rfl, SqL.of hg, rfl, _, rfl, _, _, _, _, rfl, rfl, SqL.of hg, rfl, _, rfl, r, _, rfl, SqL.of hcs, fun p np => ?_⟩
        rw [em]
        refine ⟨by show 1 ≤ sizeLine; decide, fun p' np' => ?_⟩
        have npp : p ≠ p' := fun e => by rw [← e, upd_same] at np'; cases np'
        refine ⟨p, p', _, _, rfl, rfl, by rw [upd_ne npp, upd_same], upd_same, ?_, fun p3 np3 => ?_⟩
        · rw [List.length_map, sizeLine_eq]
          show m2.length + 1 ≤ _
          omega
        obtain ⟨c, c0, ec⟩ : ∃ c : Int, 0 ≤ c ∧ (m2.map V.int ++ [V.int 0])[0]? = some (.int c) := by
          cases m2 with
          | nil => exact ⟨0, by decide, rfl⟩
          | cons y ys => exact ⟨y, pc y (hm2 y List.mem_cons_self), rfl⟩
        refine ⟨_, _, _, _, rfl, rfl, SqL.of upd_same, atI_nat (j := 0) ec, ?_⟩
        have s3 := ((same_new (o := .lst (m2.map V.int)) np).trans (same_new (o := .lst [.int 0]) np')).trans (same_new (o := .lst (m2.map V.int ++ [V.int 0])) np3)
        generalize upd (upd (upd H p (.lst (m2.map V.int))) p' (.lst [.int 0])) p3 (.lst (m2.map V.int ++ [V.int 0])) = H3 at s3 ⊢
        have hg3 : H3 g = some (.lst [.int b0, .int b1, .int b2, .ref r]) := s3 _ _ hg
        have hr3 : H3 r = some (.lst (cs.map V.int)) := s3 _ _ hcs
        -- bag[2] += 1
        refine ⟨_, rfl, _, _, _, _, rfl, rfl, SqL.of hg3, rfl, _, _, rfl, rfl, g, _, 2, 2, rfl, rfl, hg3, rfl, ?_⟩
        refine ⟨fun σ' H' => ∃ x0, 0 ≤ x0 ∧ σ' = [some (.ref g), some (.int m), some (.int c), none, none, none, none] ∧ H' = upd H3 g (.lst [.int x0, .int b1, .int (b2 + 1), .ref r]), ?_, ?_⟩
        · refine ⟨_, rfl, 10, 18, rfl, rfl, ⟨by decide, by decide, by decide⟩, _, _, rfl, rfl, _, rfl, ite2 (fun _ => ?_) (fun _ => ?_)⟩
          · refine ⟨_, rfl, _, rfl, g, _, 0, 0, rfl, rfl, upd_same, rfl, c, c0, rfl, ?_⟩
            rw [upd_upd]
            rfl
          · exact ⟨b0, p0, rfl, rfl⟩
        · rintro σ' H' ⟨x0, px0, rfl, rfl⟩
          refine ⟨_, rfl, _, _, _, _, rfl, rfl, SqL.of upd_same, rfl, b1, 48271, rfl, rfl, .inr ⟨by decide, by decide⟩, _, rfl, .inl ⟨c, rfl, c, 2147483647, rfl, rfl, by show (0 : Int) < 2147483647; decide, _, _, rfl, rfl, _, rfl, _, _, _, _, rfl, rfl, SqL.of upd_same, rfl, 7919, b2 + 1, rfl, rfl, .inl ⟨by decide, by decide⟩, _, _, rfl, rfl, ?_⟩⟩
          refine ⟨_, rfl, .inl ⟨_, rfl, _, 2147483647, rfl, rfl, by show (0 : Int) < 2147483647; decide, _, rfl, g, _, 1, 1, rfl, rfl, upd_same, rfl, ?_⟩⟩
          rw [upd_upd]
          refine ⟨⟨_, _, _, _, _, rfl⟩, (Stay.of s3).trans .at, x0, _, b2 + 1, cs, upd_same, by rw [upd_ne nrg]; exact hr3, nrg, px0, Int.emod_nonneg _ (by decide), by omega, pc, lc⟩
      · exact ⟨⟨_, _, _, _, _, rfl⟩, .refl _ _, B⟩
    · rintro σ' H' ⟨⟨y2, y3, y4, y5, y6, rfl⟩, st, B'⟩
      obtain ⟨b0, b1, b2, cs, hg, hcs, nrg, p0, p1, p2, pc, lc⟩ := B'.ex
      have e0 := Int.emod_nonneg b0 (show m ≠ 0 by omega)
      have e1 := Int.emod_lt_of_pos b0 m0
      refine ⟨fun σ2 H2 => σ2 = [some (.ref g), some (.int m), y2, y3, y4, y5, y6] ∧ H2 = H', ?_, ?_⟩
      · refine ⟨_, rfl, _, _, _, _, rfl, rfl, SqL.of hg, rfl, _, _, rfl, rfl, _, rfl, ite2 (fun _ => ?_) (fun _ => ⟨rfl, rfl⟩)⟩
        refine ⟨_, rfl, _, _, _, _, rfl, rfl, SqL.of hg, rfl, .inl ⟨b0, rfl, _, rfl, b0, m, rfl, rfl, m0, ?_⟩⟩
        refine ⟨_, rfl, _, _, _, _, rfl, rfl, SqL.of hg, rfl, .inl ⟨b0, rfl, _, rfl, b0, m, rfl, rfl, ⟨m0, by omega⟩, _, rfl, g, _, 0, 0, rfl, rfl, hg, rfl, ?_⟩⟩
        refine ⟨_, rfl, q _ _ e0 e1 (st.trans .at) ?_⟩
        refine ⟨b0 / m, b1, b2, cs, upd_same, by rw [upd_ne nrg]; exact hcs, nrg, Int.ediv_nonneg p0 (by omega), p1, p2, pc, lc⟩
      · rintro σ2 H2 ⟨rfl, rfl⟩
        refine ⟨_, rfl, _, _, _, _, rfl, rfl, SqL.of hg, rfl, _, _, rfl, rfl, _, 39373, rfl, rfl, .inr ⟨by decide, by decide⟩, .inl ⟨_, rfl, _, 1000000007, rfl, rfl, by show (0 : Int) < 1000000007; decide, ?_⟩⟩
        have z1 := Int.emod_nonneg ((b1 + 1) * 39373) (show (1000000007 : Int) ≠ 0 by decide)
        have z2 := Int.emod_lt_of_pos ((b1 + 1) * 39373) (show (0 : Int) < 1000000007 by decide)
        refine ⟨_, rfl, _, rfl, _, _, rfl, rfl, .inl ⟨by omega, by omega⟩, .inl ⟨_, rfl, _, 998244353, rfl, rfl, by show (0 : Int) < 998244353; decide, _, 30011, rfl, rfl, .inr ⟨by decide, by decide⟩, .inl ⟨_, rfl, _, 998244353, rfl, rfl, by show (0 : Int) < 998244353; decide, ?_⟩⟩⟩
        refine ⟨_, rfl, _, 7, rfl, rfl, ⟨by decide, by decide⟩, .inl ⟨_, rfl, _, rfl, _, m, rfl, rfl, m0, ?_⟩⟩
        exact q _ _ (Int.emod_nonneg _ (by omega)) (Int.emod_lt_of_pos _ m0) st B'
end
end Vq
set_option maxHeartbeats 2000000
set_option exponentiation.threshold 20000
namespace Vq
open PySem PySem.Spec PyProof.Rows L2
theorem ints_mem {ns : List Int} {x : V} (h : x ∈ ns.map V.int) : ∃ n ∈ ns, x = .int n := by
  obtain ⟨n, h1, h2⟩ := List.mem_map.mp h
  exact ⟨n, h1, h2.symm⟩
theorem ords_mem {ns : List (Option Int)} {x : V} (h : x ∈ ns.map ordV) : ∃ n ∈ ns, x = ordV n := by
  obtain ⟨n, h1, h2⟩ := List.mem_map.mp h
  exact ⟨n, h1, h2.symm⟩
theorem stay_mut {g : Addr} {H H' : Hp} {d : Addr} {o : HO} (s : Stay g H H') (n : H d = none) : Stay g H (upd H' d o) := fun b x e nb => by
  rw [upd_ne (ne_of_none e n)]
  exact s b x e nb
/-- a fraction in lowest terms that is not 0 -/
structure WfF (f : Fr) : Prop where
  n : f.1 ≠ 0
  d : 0 < f.2
  g : gcI f.1 f.2 = 1
theorem redF_wf {n d : Int} (hn : n ≠ 0) (hd : 0 < d) : WfF (redF n d) := by
  have gp := gcI_pos (n := n) hd
  obtain ⟨a, ha⟩ : gcI n d ∣ n := by
    unfold gcI
    exact Int.ofNat_dvd_left.mpr (Nat.gcd_dvd_left _ _)
  obtain ⟨b, hb⟩ : gcI n d ∣ d := by
    unfold gcI
    exact Int.ofNat_dvd_left.mpr (Nat.gcd_dvd_right _ _)
  have e1 : n / gcI n d = a := by
    conv => lhs; rw [ha]
    rw [← ha]
    exact Int.ediv_eq_of_eq_mul_right (by omega) ha
  have e2 : d / gcI n d = b := Int.ediv_eq_of_eq_mul_right (by omega) hb
  unfold redF
  rw [e1, e2]
  refine ⟨fun z => ?_, ?_, ?_⟩
  · have z' : a = 0 := z
    rw [z', Int.mul_zero] at ha
    exact hn ha
  · show 0 < b
    rw [hb] at hd
    rcases Int.lt_or_le 0 b with z | z
    · exact z
    · exact absurd hd (by have := Int.mul_nonpos_of_nonneg_of_nonpos (Int.le_of_lt gp) z; omega)
  · show gcI a b = 1
    have h1 : n.natAbs = (gcI n d).natAbs * a.natAbs := by conv => lhs; rw [ha]
                                                           exact Int.natAbs_mul _ _
    have h2 : d.natAbs = (gcI n d).natAbs * b.natAbs := by conv => lhs; rw [hb]
                                                           exact Int.natAbs_mul _ _
    have h3 : (gcI n d).natAbs = Nat.gcd n.natAbs d.natAbs := by unfold gcI; rfl
    have h4 : (gcI n d).natAbs = (gcI n d).natAbs * Nat.gcd a.natAbs b.natAbs := by
      rw [← Nat.gcd_mul_left, ← h1, ← h2, ← h3]
    have h5 : 0 < (gcI n d).natAbs := by omega
    have h6 : Nat.gcd a.natAbs b.natAbs = 1 := by
      have : (gcI n d).natAbs * 1 = (gcI n d).natAbs * Nat.gcd a.natAbs b.natAbs := by omega
      exact (Nat.eq_of_mul_eq_mul_left h5 this).symm
    unfold gcI
    rw [h6]
    rfl
theorem redF_b {n d : Int} {b : Nat} (hd : 0 < d) (h1 : n.natAbs < 2 ^ b) (h2 : d.natAbs < 2 ^ b) (hn : n ≠ 0) : FB b (redF n d) :=
  ⟨Nat.lt_of_le_of_lt (Int.natAbs_ediv_le_natAbs _ _) h1, Nat.lt_of_le_of_lt (Int.natAbs_ediv_le_natAbs _ _) h2, (redF_wf hn hd).d⟩
/-- powers ascend, factors are in lowest terms, none is 0 -/
structure WfN (l : List Tm) : Prop where
  up : (l.map (·.1)).Pairwise (· < ·)
  wf : ∀ t ∈ l, WfF t.2
theorem WfN.nil : WfN [] := ⟨.nil, fun t h => by cases h⟩
theorem WfN.snoc {l : List Tm} {n : Int} {f : Fr} (h : WfN l) (hn : ∀ t ∈ l, t.1 < n) (hf : WfF f) : WfN (l ++ [(n, f)]) := by
  refine ⟨?_, fun t m => ?_⟩
  · rw [List.map_append]
    refine List.pairwise_append.mpr ⟨h.up, List.pairwise_singleton _ _, fun a ha b hb => ?_⟩
    obtain ⟨t, ht, rfl⟩ := List.mem_map.mp ha
    rw [List.mem_singleton.mp hb]
    exact hn t ht
  · rcases List.mem_append.mp m with m | m
    · exact h.wf t m
    · rw [List.mem_singleton.mp m]
      exact hf
section
variable {P : Program} {w : World} {K : PySem.W.Frag} {mg : Str → Option Value} {base : Heap}
def sp_some : Sp := fun vs H Q _ => ∃ (g r l : Addr) (xs : List V), vs = [.ref g, .ref l] ∧ BagAt g r H ∧ H l = some (.lst xs) ∧ l ≠ g ∧ 0 < xs.length ∧ xs.length ≤ 1000 ∧ ∀ (x : V) (H' : Hp), x ∈ xs → Stay g H H' → BagAt g r H' → Q x H'
theorem ok_l_some (M : Mg mg) (D : D1 K mg "_law_some" s_l_some ["_law_bag_here", "_law_things"]) (c_l_take : C8.Cal P w K mg base (1) "_law_take" sp_take []) : C8.Cal P w K mg base (2) "_law_some" sp_some [] := by
  refine cal_of D sc_l_some (fun vs H Q E h => ?_) fun f cdv A outer s H vs Q E hr h => ?_
  · obtain ⟨g, r, l, xs, rfl, _⟩ := h
    rfl
  · obtain ⟨g, r, l, xs, rfl, B, hl, nl, l0, l1, q⟩ := h
    refine ⟨_, (pss_one (ps_ret (pe_ix (ixl K rfl) (pv 1) (C8.pe_c c_l_take hr (by decide) rfl (pa_cons (pv 0) (pa_cons (pe_callB call_len_seq (by rfl) M.len (by decide +kernel) (pa_cons (pv 1) pa_nil)) pa_nil))) (fun _ _ => rfl)))), ?_⟩
    refine ⟨_, rfl, _, rfl, _, rfl, l, xs, rfl, .inl (SqL.of hl), g, r, _, rfl, B, by omega, by omega, fun j H' j0 jm st B' => ?_⟩
    obtain ⟨k, rfl⟩ := Int.eq_ofNat_of_zero_le j0
    have hk : k < xs.length := by omega
    exact ⟨_, _, _, xs[k], rfl, rfl, SqL.of (st _ _ hl nl), atI_nat (List.getElem?_eq_getElem hk), q _ _ (List.getElem_mem hk) st B'⟩
def sp_delay : Sp := fun vs H Q _ => ∃ (g r : Addr), vs = [.ref g] ∧ BagAt g r H ∧ ∀ (d : Int) (H' : Hp), -60 ≤ d → d ≤ 60 → Stay g H H' → BagAt g r H' → Q (.int d) H'
theorem ok_l_delay (D : D1 K mg "_law_delay" s_l_delay ["_law_bag_here"]) (c_l_some : C8.Cal P w K mg base (2) "_law_some" sp_some []) : C8.Cal P w K mg base (3) "_law_delay" sp_delay [] := by
  refine cal_of D sc_l_delay (fun vs H Q E h => ?_) fun f cdv A outer s H vs Q E hr h => ?_
  · obtain ⟨g, r, rfl, _⟩ := h
    rfl
  · obtain ⟨g, r, rfl, B, q⟩ := h
    refine ⟨_, (pss_one (ps_ret (C8.pe_c c_l_some hr (by decide) rfl (pa_cons (pv 0) (pa_cons (pe_slice sl_list (pe_lst (pa_cons pe_int (pa_cons pe_int (pa_cons (pe_un un_neg pe_int) (pa_cons pe_int (pa_cons pe_int (pa_cons pe_int (pa_cons pe_int (pa_cons (pe_un un_neg pe_int) (pa_cons pe_int (pa_cons pe_int (pa_cons (pe_un un_neg pe_int) (pa_cons pe_int (pa_cons pe_int (pa_cons (pe_un un_neg pe_int) (pa_cons pe_int (pa_cons (pe_un un_neg pe_int) pa_nil))))))))))))))))) po_none (po_some (C8.pe_c c_l_some hr (by decide) rfl (pa_cons (pv 0) (pa_cons (pe_lst (pa_cons pe_int (pa_cons pe_int (pa_cons pe_int (pa_cons pe_int pa_nil))))) pa_nil))))) pa_nil))))), ?_⟩
    refine ⟨_, rfl, _, rfl, _, rfl, _, rfl, _, rfl, _, rfl, by show 16 ≤ sizeLine; decide, fun p np => ?_⟩
    have B1 := B.same (same_new (o := .lst (([0, 1, -1, 2, 1, 0, 3, -2, 5, 1, -7, 12, 40, -40, 60, -60] : List Int).map V.int)) np)
    refine ⟨_, rfl, by show 4 ≤ sizeLine; decide, fun p2 np2 => ?_⟩
    have B2 := B1.same (same_new (o := .lst (([6, 9, 11, 16] : List Int).map V.int)) np2)
    have npp : p ≠ p2 := fun e => by rw [← e, upd_same] at np2; cases np2
    refine ⟨g, r, p2, ([6, 9, 11, 16] : List Int).map V.int, rfl, B2, upd_same, B1.ne np2, by decide, by decide, fun x H' hx st B' => ?_⟩
    obtain ⟨k, hk, rfl⟩ := ints_mem hx
    have hp' : H' p = some (.lst (([0, 1, -1, 2, 1, 0, 3, -2, 5, 1, -7, 12, 40, -40, 60, -60] : List Int).map V.int)) := st _ _ (by rw [upd_ne npp]; exact upd_same) (B.ne np)
    refine ⟨k, rfl, p, _, rfl, SqL.of hp', fun p3 np3 => ?_⟩
    obtain ⟨m, em, hm, hml⟩ := cut_map [0, 1, -1, 2, 1, 0, 3, -2, 5, 1, -7, 12, 40, -40, 60, -60] none (some k)
    have len0 : 0 < m.length := by
      have e := congrArg List.length em
      rw [List.length_map] at e
      rw [← e]
      have hk' : k = 6 ∨ k = 9 ∨ k = 11 ∨ k = 16 := by simpa using hk
      rcases hk' with rfl | rfl | rfl | rfl <;> decide
    have s0 : Stay g H H' := ((Stay.of (same_new np)).trans (.of (same_new np2))).trans st
    refine ⟨g, r, p3, m.map V.int, rfl, B'.same (same_new np3), by rw [em]; exact upd_same, B'.ne np3, by rw [List.length_map]; exact len0, by rw [List.length_map]; exact Nat.le_trans hml (by decide), fun x H4 hx st4 B4 => ?_⟩
    obtain ⟨d, hd, rfl⟩ := ints_mem hx
    have hd2 : ∀ d ∈ ([0, 1, -1, 2, 1, 0, 3, -2, 5, 1, -7, 12, 40, -40, 60, -60] : List Int), -60 ≤ d ∧ d ≤ 60 := by decide
    obtain ⟨d1, d2⟩ := hd2 d (hm d hd)
    exact q d H4 d1 d2 ((s0.trans (.of (same_new np3))).trans st4) B4
def sp_factor : Sp := fun vs H Q _ => ∃ (g r : Addr), vs = [.ref g] ∧ BagAt g r H ∧ ∀ (v : V) (f : Fr) (H' : Hp), WfF f → FB 4 f → Dt H' v (frD f) → Stay g H H' → BagAt g r H' → Q v H'
theorem ok_l_factor (D : D1 K mg "_law_factor" s_l_factor ["_law_bag_here"]) (c_l_some : C8.Cal P w K mg base (2) "_law_some" sp_some []) (c_l_fraction : C8.Cal P w K mg base (2) "_law_fraction" sp_frac []) : C8.Cal P w K mg base (3) "_law_factor" sp_factor [] := by
  refine cal_of D sc_l_factor (fun vs H Q E h => ?_) fun f cdv A outer s H vs Q E hr h => ?_
  · obtain ⟨g, r, rfl, _⟩ := h
    rfl
  · obtain ⟨g, r, rfl, B, q⟩ := h
    refine ⟨_, (pss_one (ps_ret (C8.pe_c c_l_fraction hr (by decide) rfl (pa_cons (C8.pe_c c_l_some hr (by decide) rfl (pa_cons (pv 0) (pa_cons (pe_lst (pa_cons pe_int (pa_cons (pe_un un_neg pe_int) (pa_cons pe_int (pa_cons pe_int (pa_cons (pe_un un_neg pe_int) (pa_cons pe_int (pa_cons (pe_un un_neg pe_int) (pa_cons pe_int (pa_cons pe_int pa_nil)))))))))) pa_nil))) (pa_cons (C8.pe_c c_l_some hr (by decide) rfl (pa_cons (pv 0) (pa_cons (pe_lst (pa_cons pe_int (pa_cons pe_int (pa_cons pe_int (pa_cons pe_int (pa_cons pe_int (pa_cons pe_int pa_nil))))))) pa_nil))) pa_nil))))), ?_⟩
    refine ⟨_, rfl, _, rfl, _, rfl, _, rfl, by show 9 ≤ sizeLine; decide, fun p np => ?_⟩
    refine ⟨g, r, p, ([1, -1, 2, 3, -2, 5, -7, 1, 1] : List Int).map V.int, rfl, B.same (same_new np), upd_same, B.ne np, by decide, by decide, fun x H1 hx st1 B1 => ?_⟩
    obtain ⟨n, hn, rfl⟩ := ints_mem hx
    refine ⟨_, rfl, by show 6 ≤ sizeLine; decide, fun p2 np2 => ?_⟩
    refine ⟨g, r, p2, ([1, 1, 1, 2, 3, 10] : List Int).map V.int, rfl, B1.same (same_new np2), upd_same, B1.ne np2, by decide, by decide, fun x H2 hx st2 B2 => ?_⟩
    obtain ⟨d, hd, rfl⟩ := ints_mem hx
    have en : ∀ n ∈ ([1, -1, 2, 3, -2, 5, -7, 1, 1] : List Int), n ≠ 0 ∧ n.natAbs < 2 ^ 4 := by decide
    have ed : ∀ n ∈ ([1, 1, 1, 2, 3, 10] : List Int), 0 < n ∧ n.natAbs < 2 ^ 4 := by decide
    obtain ⟨n1, n2⟩ := en n hn
    obtain ⟨d1, d2⟩ := ed d hd
    have big : (2 : Nat) ^ 4 ≤ 2 ^ 9000 := Nat.pow_le_pow_right (by decide) (by decide)
    refine ⟨n, d, rfl, d1, Nat.lt_of_lt_of_le n2 big, Nat.lt_of_lt_of_le d2 big, fun v H3 s3 hv => ?_⟩
    have st := (((Stay.of (g := g) (same_new (o := .lst (([1, -1, 2, 3, -2, 5, -7, 1, 1] : List Int).map V.int)) np)).trans st1).trans (.of (same_new (o := .lst (([1, 1, 1, 2, 3, 10] : List Int).map V.int)) np2))).trans st2
    exact q v _ H3 (redF_wf n1 d1) (redF_b d1 n2 d2 n1) hv (st.trans (.of s3)) (B2.same s3)
/-- what a drawn number is -/
structure Drawn (b : Nat) (c : Nat) (l : List Tm) : Prop where
  wf : WfN l
  len : l.length ≤ c
  fb : ∀ t ∈ l, FB b t.2 ∧ t.1.natAbs ≤ 2000
def sp_number : Sp := fun vs H Q _ => ∃ (g r : Addr) (o : Option Int) (m : Int), vs = [.ref g, ordV o, .int m] ∧ BagAt g r H ∧ 0 < m ∧ m ≤ 20 ∧ (∀ i, o = some i → i.natAbs ≤ 1000) ∧ ∀ (v : V) (l : List Tm) (H' : Hp), Drawn 4 m.toNat l → Dt H' v (nmD l) → Stay g H H' → BagAt g r H' → Q v H'
theorem ok_l_number (M : Mg mg) (D : D1 K mg "_law_number" s_l_number ["_law_bag_here", "_law_order", "_law_most"]) (c_l_take : C8.Cal P w K mg base (1) "_law_take" sp_take []) (c_l_factor : C8.Cal P w K mg base (3) "_law_factor" sp_factor []) :
    C8.Cal P w K mg base (4) "_law_number" sp_number [] := by
  refine cal_of D sc_l_number (fun vs H Q E h => ?_) fun f cdv A outer s H vs Q E hr h => ?_
  · obtain ⟨g, r, o, m, rfl, _⟩ := h
    rfl
  · obtain ⟨g, r, o, m, rfl, B, m0, m1, ho, q⟩ := h
    refine ⟨_, (pss_cons (ps_if (pt_cmpR op_isN (pv 1) pe_non (nomark _)) (pss_one (ps_ret (pe_tup pa_nil))) pss_nil)
      (pss_cons (ps_par rfl sc_l_number.nd (i := 3) (j := 4) rfl rfl (by decide) rfl rfl (pa_cons (pe_lst pa_nil) (pa_cons (pv 1) pa_nil)) (by rfl))
      (pss_cons (ps_for PassesOwn.never rfl (pi_range1 rfl M.range (pa_cons (pe_op op_add pe_int (C8.pe_c c_l_take hr (by decide) rfl (pa_cons (pv 0) (pa_cons (pv 2) pa_nil)))) pa_nil)) (pg_name (i := 5) sc_l_number.nd rfl (.inl rfl)) (pss_cons (ps_expr (pe_bm PySem.F.plainAttrs_list PySem.F.slot_list_append PySem.F.type_list_append mt_append (pv 3) (pa_cons (pe_tup (pa_cons (pv 4) (pa_cons (C8.pe_c c_l_factor hr (by decide) rfl (pa_cons (pv 0) pa_nil)) pa_nil))) pa_nil)))
      (pss_one (ps_aug (i := 4) sc_l_number.nd rfl (.inl rfl) (pe_op op_add pe_int (C8.pe_c c_l_take hr (by decide) rfl (pa_cons (pv 0) (pa_cons pe_int pa_nil)))) ip_add))))
      (pss_one (ps_ret (pe_callTy call_tuple_of (by rfl) M.tuple (by decide +kernel) (pa_cons (pv 3) pa_nil))))))), ?_⟩
    refine ⟨_, rfl, rfl, _, rfl, ?_⟩
    rw [ordV_non]
    cases o with
    | none =>
      refine ⟨Nat.zero_le _, fun p np => ?_⟩
      exact q _ [] _ ⟨.nil, Nat.zero_le _, (fun t h => nomatch h)⟩ (.tup upd_same .nil) (.of (same_new np)) (B.same (same_new np))
    | some o =>
      have ho' := ho o rfl
      refine ⟨Nat.zero_le _, fun L nL => ⟨_, rfl, _, _, rfl, ?_⟩⟩
      have B0 := B.same (same_new (o := .lst []) nL)
      have nLg := B.ne nL
      have nLr : r ≠ L := B.ner nL
      refine ⟨_, rfl, _, rfl, g, r, m, rfl, B0, m0, by omega, fun j H0 j0 jm st0 B0' => ?_⟩
      refine ⟨_, _, rfl, rfl, 1 + j, rfl, by omega, by omega, for_range (lo := 0) (n := (1 + j).toNat) (fun i σ H' => ∃ acc l pw yt, σ = [some (.ref g), some (.int o), some (.int m), some (.ref L), some (.int pw), yt] ∧ Stay g H H' ∧ BagAt g r H' ∧ H' L = some (.lst acc) ∧ DtA H' acc (l.map tmD) ∧ WfN l ∧
        (∀ t ∈ l, t.1 < pw ∧ FB 4 t.2 ∧ o ≤ t.1) ∧ l.length = i ∧ pw ≤ o + 3 * (i : Int) ∧ o ≤ pw) ?_ ?_ ?_⟩
      · exact ⟨[], [], o, none, rfl, (Stay.of (same_new nL)).trans st0, B0', st0 _ _ upd_same nLg, .nil, .nil, (fun t h => nomatch h), rfl, by omega, Int.le_refl _⟩
      · rintro i σ H' hi ⟨acc, l, pw, yt, rfl, st, B', hL, hA, wf, hb, rfl, p1, p2⟩
        have la := hA.len
        rw [List.length_map] at la
        refine ⟨_, rfl, .inl ⟨rfl, _, SqL.of hL⟩, _, rfl, _, rfl, g, r, rfl, B', fun v f H2 wf2 fb2 hv st2 B2 => ?_⟩
        refine ⟨by show 2 ≤ sizeLine; decide, fun p np => ?_⟩
        have hL2 : H2 L = some (.lst acc) := st2 _ _ hL nLg
        have nLp : L ≠ p := ne_of_none hL2 np
        have hL3 : (upd H2 p (.tup [.int pw, v])) L = some (.lst acc) := by rw [upd_ne nLp]; exact hL2
        refine ⟨L, acc, _, rfl, rfl, hL3, small5 (by omega), ?_⟩
        have B3 : BagAt g r (upd (upd H2 p (.tup [.int pw, v])) L (.lst (acc ++ [.ref p]))) := (B2.same (same_new np)).mut nLg.symm nLr
        have st3 : Stay g H (upd (upd H2 p (.tup [.int pw, v])) L (.lst (acc ++ [.ref p]))) := stay_mut ((st.trans st2).trans (.of (same_new np))) nL
        have sf : Soft H2 (upd (upd H2 p (.tup [.int pw, v])) L (.lst (acc ++ [.ref p]))) := (soft_new np).trans (soft_lst hL3)
        -- power += 1 + take(bag, 3)
        refine ⟨_, rfl, _, rfl, g, r, 3, rfl, B3, by decide, by decide, fun k H4 k0 k3 st4 B4 => ⟨_, _, rfl, rfl, _, _, rfl, rfl, ?_⟩⟩
        have sf4 : Soft (upd (upd H2 p (.tup [.int pw, v])) L (.lst (acc ++ [.ref p]))) H4 := B3.soft st4
        refine ⟨acc ++ [.ref p], l ++ [(pw, f)], pw + (1 + k), _, rfl, st3.trans st4, B4, st4 _ _ upd_same nLg, ?_, wf.snoc (fun t ht => (hb t ht).1) wf2, fun t ht => ?_, by rw [List.length_append]; rfl, ?_, ?_⟩
        · rw [List.map_append]
          refine (((hA.soft (B'.soft st2)).soft sf).soft sf4).append (.one (Dt.soft sf4 (Dt.mkTm (u := v) ?_ (hv.soft sf))))
          rw [upd_ne nLp.symm, upd_same]
        · rcases List.mem_append.mp ht with ht | ht
          · obtain ⟨z1, z2, z3⟩ := hb t ht
            exact ⟨by omega, z2, z3⟩
          · rw [List.mem_singleton.mp ht]
            exact ⟨by show pw < pw + (1 + k); omega, fb2, p2⟩
        · omega
        · omega
      · rintro σ H' ⟨acc, l, pw, yt, rfl, st, B', hL, hA, wf, hb, hl, p1, p2⟩
        refine ⟨_, rfl, L, acc, rfl, .inl ⟨SqL.of hL, fun p np => ?_⟩⟩
        have hA2 := hA.soft (soft_new (o := .tup acc) np)
        refine q _ l _ ⟨wf, by omega, fun t ht => ?_⟩ (.tup upd_same hA2) (st.trans (.of (same_new np))) (B'.same (same_new np))
        obtain ⟨z1, z2, z3⟩ := hb t ht
        exact ⟨z2, by omega⟩
end
end Vq
set_option maxHeartbeats 2000000
set_option exponentiation.threshold 20000
namespace Vq
open PySem PySem.Spec PyProof.Rows L2
section
variable {P : Program} {w : World} {K : PySem.W.Frag} {mg : Str → Option Value} {base : Heap}
def sp_draw (b c : Nat) : Sp := fun vs H Q _ => ∃ (g r : Addr), vs = [.ref g] ∧ BagAt g r H ∧ ∀ (v : V) (l : List Tm) (H' : Hp), Drawn b c l → Dt H' v (nmD l) → Stay g H H' → BagAt g r H' → Q v H'
theorem ok_l_any_number (D : D1 K mg "_law_any_number" s_l_any_number ["_law_bag_here"]) (c_l_some : C8.Cal P w K mg base (2) "_law_some" sp_some []) (c_l_number : C8.Cal P w K mg base (4) "_law_number" sp_number []) :
    C8.Cal P w K mg base (5) "_law_any_number" (sp_draw 4 5) [] := by
  refine cal_of D sc_l_any_number (fun vs H Q E h => ?_) fun f cdv A outer s H vs Q E hr h => ?_
  · obtain ⟨g, r, rfl, _⟩ := h
    rfl
  · obtain ⟨g, r, rfl, B, q⟩ := h
    refine ⟨_, (pss_one (ps_ret (C8.pe_c c_l_number hr (by decide) rfl (pa_cons (pv 0) (pa_cons (C8.pe_c c_l_some hr (by decide) rfl (pa_cons (pv 0) (pa_cons (pe_lst (pa_cons pe_int (pa_cons pe_int (pa_cons pe_int (pa_cons (pe_un un_neg pe_int) (pa_cons pe_int (pa_cons pe_non (pa_cons pe_int (pa_cons (pe_un un_neg pe_int) pa_nil))))))))) pa_nil))) (pa_cons (C8.pe_c c_l_some hr (by decide) rfl (pa_cons (pv 0) (pa_cons (pe_lst (pa_cons pe_int (pa_cons pe_int (pa_cons pe_int pa_nil)))) pa_nil))) pa_nil)))))), ?_⟩
    refine ⟨_, rfl, _, rfl, _, rfl, _, rfl, by show 8 ≤ sizeLine; decide, fun p np => ?_⟩
    refine ⟨g, r, p, ([some 0, some 0, some 1, some (-2), some 5, none, some 17, some (-40)] : List (Option Int)).map ordV, rfl, B.same (same_new np), upd_same, B.ne np, by decide, by decide, fun x H1 hx st1 B1 => ?_⟩
    obtain ⟨o, ho, rfl⟩ := ords_mem hx
    refine ⟨_, rfl, by show 3 ≤ sizeLine; decide, fun p2 np2 => ?_⟩
    refine ⟨g, r, p2, ([1, 2, 5] : List Int).map V.int, rfl, B1.same (same_new np2), upd_same, B1.ne np2, by decide, by decide, fun x H2 hx st2 B2 => ?_⟩
    obtain ⟨m, hm, rfl⟩ := ints_mem hx
    have em : ∀ m ∈ ([1, 2, 5] : List Int), 0 < m ∧ m ≤ 5 := by decide
    have eo : ∀ o ∈ ([some 0, some 0, some 1, some (-2), some 5, none, some 17, some (-40)] : List (Option Int)), ∀ i, o = some i → i.natAbs ≤ 1000 := by
      intro o ho i e
      subst e
      simp only [List.mem_cons, Option.some.injEq, List.not_mem_nil, or_false, reduceCtorEq, false_or] at ho
      omega
    obtain ⟨m1, m2⟩ := em m hm
    have st := (((Stay.of (g := g) (same_new (o := .lst (([some 0, some 0, some 1, some (-2), some 5, none, some 17, some (-40)] : List (Option Int)).map ordV)) np)).trans st1).trans (.of (same_new (o := .lst (([1, 2, 5] : List Int).map V.int)) np2))).trans st2
    exact ⟨g, r, o, m, rfl, B2, m1, by omega, eo o ho, fun v l H3 dr hv s3 B3 => q v l H3 ⟨dr.wf, Nat.le_trans dr.len (by omega), dr.fb⟩ hv (st.trans s3) B3⟩
theorem ok_l_great_number (M : Mg mg) (D : D1 K mg "_law_great_number" s_l_great_number ["_law_bag_here"]) (c_l_take : C8.Cal P w K mg base (1) "_law_take" sp_take []) (c_l_some : C8.Cal P w K mg base (2) "_law_some" sp_some [])
    (c_l_fraction : C8.Cal P w K mg base (2) "_law_fraction" sp_frac []) : C8.Cal P w K mg base (3) "_law_great_number" (sp_draw 30 12) [] := by
  refine cal_of D sc_l_great_number (fun vs H Q E h => ?_) fun f cdv A outer s H vs Q E hr h => ?_
  · obtain ⟨g, r, rfl, _⟩ := h
    rfl
  · obtain ⟨g, r, rfl, B, q⟩ := h
    refine ⟨_, (pss_cons (ps_par rfl sc_l_great_number.nd (i := 1) (j := 2) rfl rfl (by decide) rfl rfl (pa_cons (pe_lst pa_nil) (pa_cons (C8.pe_c c_l_some hr (by decide) rfl (pa_cons (pv 0) (pa_cons (pe_lst (pa_cons (pe_un un_neg pe_int) (pa_cons pe_int (pa_cons pe_int pa_nil)))) pa_nil))) pa_nil)) (by rfl))
      (pss_cons (ps_for PassesOwn.never rfl (pi_range1 rfl M.range (pa_cons (pe_op op_add pe_int (C8.pe_c c_l_take hr (by decide) rfl (pa_cons (pv 0) (pa_cons pe_int pa_nil)))) pa_nil)) (pg_name (i := 3) sc_l_great_number.nd rfl (.inl rfl)) (pss_cons (ps_par rfl sc_l_great_number.nd (i := 4) (j := 5) rfl rfl (by decide) rfl rfl (pa_cons (C8.pe_c c_l_some hr (by decide) rfl (pa_cons (pv 0) (pa_cons (pe_lst (pa_cons pe_int (pa_cons (pe_un un_neg pe_int) (pa_cons pe_int (pa_cons pe_int pa_nil))))) pa_nil))) (pa_cons (C8.pe_c c_l_some hr (by decide) rfl (pa_cons (pv 0) (pa_cons (pe_lst (pa_cons pe_int (pa_cons pe_int (pa_cons (pe_op op_pow pe_int pe_int) (pa_cons pe_int pa_nil))))) pa_nil))) pa_nil)) (by rfl))
      (pss_cons (ps_expr (pe_bm PySem.F.plainAttrs_list PySem.F.slot_list_append PySem.F.type_list_append mt_append (pv 1) (pa_cons (pe_tup (pa_cons (pv 2) (pa_cons (C8.pe_c c_l_fraction hr (by decide) rfl (pa_cons (pv 4) (pa_cons (pv 5) pa_nil))) pa_nil))) pa_nil)))
      (pss_one (ps_aug (i := 2) sc_l_great_number.nd rfl (.inl rfl) (pe_op op_add pe_int (C8.pe_c c_l_take hr (by decide) rfl (pa_cons (pv 0) (pa_cons pe_int pa_nil)))) ip_add)))))
      (pss_one (ps_ret (pe_callTy call_tuple_of (by rfl) M.tuple (by decide +kernel) (pa_cons (pv 1) pa_nil)))))), ?_⟩
    refine ⟨Nat.zero_le _, fun L nL => ?_⟩
    have B0 := B.same (same_new (o := .lst []) nL)
    have nLg := B.ne nL
    have nLr : r ≠ L := B.ner nL
    refine ⟨_, rfl, _, rfl, by show 3 ≤ sizeLine; decide, fun p np => ?_⟩
    refine ⟨g, r, p, ([-90, 0, 20] : List Int).map V.int, rfl, B0.same (same_new np), upd_same, B0.ne np, by decide, by decide, fun x H0 hx st0 B1 => ?_⟩
    obtain ⟨o, ho, rfl⟩ := ints_mem hx
    have eo : ∀ o ∈ ([-90, 0, 20] : List Int), -90 ≤ o ∧ o ≤ 20 := by decide
    obtain ⟨o1, o2⟩ := eo o ho
    have st1 : Stay g H H0 := ((Stay.of (same_new nL)).trans (.of (same_new np))).trans st0
    have hL0 : H0 L = some (.lst []) := st0 _ _ (by rw [upd_ne (ne_of_none upd_same np)]; exact upd_same) nLg
    refine ⟨_, _, rfl, ?_⟩
    refine ⟨_, rfl, g, r, 6, rfl, B1, by decide, by decide, fun j H1 j0 jm st2 B2 => ?_⟩
    refine ⟨_, _, rfl, rfl, 7 + j, rfl, by omega, by omega, for_range (lo := 0) (n := (7 + j).toNat) (fun i σ H' => ∃ acc l pw y3 y4 y5, σ = [some (.ref g), some (.ref L), some (.int pw), y3, y4, y5] ∧ Stay g H H' ∧ BagAt g r H' ∧ H' L = some (.lst acc) ∧ DtA H' acc (l.map tmD) ∧ WfN l ∧
        (∀ t ∈ l, t.1 < pw ∧ FB 30 t.2 ∧ o ≤ t.1) ∧ l.length = i ∧ pw ≤ o + 4 * (i : Int) ∧ o ≤ pw) ?_ ?_ ?_⟩
    · exact ⟨[], [], o, none, none, none, rfl, st1.trans st2, B2, st2 _ _ hL0 nLg, .nil, .nil, (fun t h => nomatch h), rfl, by omega, Int.le_refl _⟩
    · rintro i σ H' hi ⟨acc, l, pw, y3, y4, y5, rfl, st, B', hL, hA, wf, hb, rfl, p1, p2⟩
      have la := hA.len
      rw [List.length_map] at la
      -- num, den
      refine ⟨_, rfl, _, rfl, by show 4 ≤ sizeLine; decide, fun pa na => ?_⟩
      refine ⟨g, r, pa, ([999999999, -999999937, 123456789, 7] : List Int).map V.int, rfl, B'.same (same_new na), upd_same, B'.ne na, by decide, by decide, fun x Ha hx sa Ba => ?_⟩
      obtain ⟨n, hn, rfl⟩ := ints_mem hx
      refine ⟨_, rfl, 10, 8, rfl, rfl, ⟨by decide, by decide, by decide⟩, by show 4 ≤ sizeLine; decide, fun pb nb => ?_⟩
      refine ⟨g, r, pb, ([1, 999999937, 100000000, 6] : List Int).map V.int, rfl, Ba.same (same_new nb), upd_same, Ba.ne nb, by decide, by decide, fun x Hb hx sb Bb => ⟨_, _, rfl, ?_⟩⟩
      obtain ⟨d, hd, rfl⟩ := ints_mem hx
      have en : ∀ n ∈ ([999999999, -999999937, 123456789, 7] : List Int), n ≠ 0 ∧ n.natAbs < 2 ^ 30 := by decide
      have ed : ∀ n ∈ ([1, 999999937, 100000000, 6] : List Int), 0 < n ∧ n.natAbs < 2 ^ 30 := by decide
      obtain ⟨n1, n2⟩ := en n hn
      obtain ⟨d1, d2⟩ := ed d hd
      have big : (2 : Nat) ^ 30 ≤ 2 ^ 9000 := Nat.pow_le_pow_right (by decide) (by decide)
      have sab : Stay g H' Hb := (((Stay.of (same_new na)).trans sa).trans (.of (same_new nb))).trans sb
      have hLb : Hb L = some (.lst acc) := sab _ _ hL nLg
      refine ⟨_, rfl, .inl ⟨rfl, _, SqL.of hLb⟩, _, rfl, _, rfl, _, rfl, n, d, rfl, d1, Nat.lt_of_lt_of_le n2 big, Nat.lt_of_lt_of_le d2 big, fun v H2 s2 hv => ?_⟩
      refine ⟨by show 2 ≤ sizeLine; decide, fun p np => ?_⟩
      have hL2 : H2 L = some (.lst acc) := s2 _ _ hLb
      have nLp : L ≠ p := ne_of_none hL2 np
      have hL3 : (upd H2 p (.tup [.int pw, v])) L = some (.lst acc) := by rw [upd_ne nLp]; exact hL2
      have hlen : l.length < 12 := by omega
      refine ⟨L, acc, _, rfl, rfl, hL3, small5 (by omega), ?_⟩
      have B3 : BagAt g r (upd (upd H2 p (.tup [.int pw, v])) L (.lst (acc ++ [.ref p]))) := ((Bb.same s2).same (same_new np)).mut nLg.symm nLr
      have st3 : Stay g H (upd (upd H2 p (.tup [.int pw, v])) L (.lst (acc ++ [.ref p]))) := stay_mut (((st.trans sab).trans (.of s2)).trans (.of (same_new np))) nL
      have sf : Soft H2 (upd (upd H2 p (.tup [.int pw, v])) L (.lst (acc ++ [.ref p]))) := (soft_new np).trans (soft_lst hL3)
      refine ⟨_, rfl, _, rfl, g, r, 4, rfl, B3, by decide, by decide, fun k H4 k0 k3 st4 B4 => ⟨_, _, rfl, rfl, _, _, rfl, rfl, ?_⟩⟩
      have sf4 : Soft (upd (upd H2 p (.tup [.int pw, v])) L (.lst (acc ++ [.ref p]))) H4 := B3.soft st4
      refine ⟨acc ++ [.ref p], l ++ [(pw, redF n d)], pw + (1 + k), _, _, _, rfl, st3.trans st4, B4, st4 _ _ upd_same nLg, ?_, wf.snoc (fun t ht => (hb t ht).1) (redF_wf n1 d1), fun t ht => ?_, by rw [List.length_append]; rfl, ?_, ?_⟩
      · rw [List.map_append]
        refine ((((hA.soft (B'.soft sab)).soft (Same.soft s2)).soft sf).soft sf4).append (.one (Dt.soft sf4 (Dt.mkTm (u := v) ?_ (hv.soft sf))))
        rw [upd_ne nLp.symm, upd_same]
      · rcases List.mem_append.mp ht with ht | ht
        · obtain ⟨z1, z2, z3⟩ := hb t ht
          exact ⟨by omega, z2, z3⟩
        · rw [List.mem_singleton.mp ht]
          exact ⟨by show pw < pw + (1 + k); omega, redF_b d1 n2 d2 n1, p2⟩
      · omega
      · omega
    · rintro σ H' ⟨acc, l, pw, y3, y4, y5, rfl, st, B', hL, hA, wf, hb, hl, p1, p2⟩
      refine ⟨_, rfl, L, acc, rfl, .inl ⟨SqL.of hL, fun p np => ?_⟩⟩
      have hA2 := hA.soft (soft_new (o := .tup acc) np)
      refine q _ l _ ⟨wf, by omega, fun t ht => ?_⟩ (.tup upd_same hA2) (st.trans (.of (same_new np))) (B'.same (same_new np))
      obtain ⟨z1, z2, z3⟩ := hb t ht
      exact ⟨z2, by omega⟩
def sp_alike (K : PySem.W.Frag) : Sp := fun vs H Q _ => ∃ (a b : Addr) (d : PyData) (k n : Nat), vs = [.ref a, .ref b] ∧ Dp K H (.ref a) d ∧ Dp K H (.ref b) d ∧ Gd k n d ∧ k ≤ 60 ∧ n ≤ 20000 ∧ Q (.bl true) H
theorem ok_l_alike (M : Mg mg) (D : D1 K mg "_law_alike" s_l_alike ["_law_found", "_law_due"]) : GCal P w K mg base (1) "_law_alike" (sp_alike K) := by
  refine gcal_of D sc_l_alike (fun vs H Q E h => ?_) fun f cdv A outer s H vs Q E hG hr h => ?_
  · obtain ⟨a, b, d, k, n, rfl, _⟩ := h
    rfl
  · obtain ⟨a, b, d, k, n, rfl, da, db, gd, hk, hn, q⟩ := h
    have hu64 := hr.units
    refine ⟨_, (pss_one (ps_ret (pe_and (pe_cmpR (op_eqD hr.units) (pv 0) (pv 1) (nomark _)) (pe_one (pe_cmpR op_eq (pe_callB (cr_show hG hu64) (by rfl) M.repr (by decide +kernel) (pa_cons (pv 0) pa_nil)) (pe_callB (cr_show hG hu64) (by rfl) M.repr (by decide +kernel) (pa_cons (pv 1) pa_nil)) (nomark _)))))), ?_⟩
    have sh := gd.shaped (show k ≤ 64 by omega)
    refine ⟨_, rfl, _, rfl, d, d, da, db, sh, sh, _, rfl, ?_⟩
    rw [gd.refl]
    refine ⟨_, rfl, _, d, k, n, rfl, da, gd, hk, hn, ⟨_, rfl⟩, _, rfl, _, d, k, n, rfl, db, gd, hk, hn, ⟨_, rfl⟩, rfl, ?_⟩
    show Q (.bl (decide (V.str d.shown = V.str d.shown))) H
    rw [decide_eq_true rfl]
    exact q
end
end Vq
set_option maxHeartbeats 2000000
set_option exponentiation.threshold 20000
namespace Vq
open PySem PySem.Spec PyProof.Rows L2
theorem DtA.ords {H : Hp} : ∀ os : List (Option Int), DtA H (os.map ordV) (os.map orD)
  | [] => .nil
  | o :: r => .cons (Dt.ord o) (DtA.ords r)
def zipL (as bs : List (Option Int)) : List (Option Int) := List.zipWith (fun x y => leastM [x, y]) as bs
theorem zipL_snoc {as bs : List (Option Int)} {i : Nat} {x y : Option Int} (h1 : as[i]? = some x) (h2 : bs[i]? = some y) : zipL (as.take (i + 1)) (bs.take (i + 1)) = zipL (as.take i) (bs.take i) ++ [leastM [x, y]] := by
  obtain ⟨l1, _⟩ := List.getElem?_eq_some_iff.mp h1
  obtain ⟨l2, _⟩ := List.getElem?_eq_some_iff.mp h2
  unfold zipL
  rw [List.take_add_one, List.take_add_one, h1, h2]
  exact List.zipWith_append (by rw [List.length_take, List.length_take]; omega)
section
variable {P : Program} {w : World} {K : PySem.W.Frag} {mg : Str → Option Value} {base : Heap}
def sp_li : Sp := fun vs H Q _ => ∃ (a b : Addr) (as bs : List (Option Int)), vs = [.ref a, .ref b] ∧ H a = some (.tup (as.map ordV)) ∧ H b = some (.tup (bs.map ordV)) ∧ as.length = bs.length ∧ as.length ≤ 1000 ∧ Gives H (.tuple ((zipL as bs).map orD)) Q
theorem ok_least_items (M : Mg mg) (D : D1 K mg "least_items" s_least_items ["one", "other"]) (c_least_order : C8.Cal P w K mg base (1) "least_order" (sp_lo leastM) []) : C8.Cal P w K mg base (2) "least_items" sp_li [] := by
  refine cal_of D sc_least_items (fun vs H Q E h => ?_) fun f cdv A outer s H vs Q E hr h => ?_
  · obtain ⟨a, b, as, bs, rfl, _⟩ := h
    rfl
  · obtain ⟨a, b, as, bs, rfl, ha, hb, hl, hz, q⟩ := h
    refine ⟨_, (pss_one (ps_ret (pe_callTy call_tuple_of (by rfl) M.tuple (by decide +kernel) (pa_cons (pe_lc (own := [("pair", 2)]) rfl sc_least_items.nd (pi_zipN (by rfl) M.zip (pa_cons (pv 0) (pa_cons (pv 1) pa_nil))) (blkOk_by (own := [("pair", 2)]) (N := n_least_items) (sc := defScope s_least_items) (by decide +kernel)) (fun _ _ _ _ _ => (pg_name (i := 2) sc_least_items.nd rfl (.inl rfl))) (fun _ _ _ _ _ => pts_nil) (fun _ _ _ _ _ => (C8.pe_c c_least_order hr (by decide) rfl (pa_cons (pv 2) pa_nil)))) pa_nil)))), ?_⟩
    refine ⟨_, rfl, _, rfl, a, b, _, _, rfl, SqT.of ha, SqT.of hb, fun L nL => ?_⟩
    refine lc_zipT (K := K) (a := a) (b := b) (xs := as.map ordV) (ys := bs.map ordV) (by rw [List.length_map, List.length_map]; exact hl) (fun i H' => ∃ acc, Same H H' ∧ H' L = some (.lst acc) ∧ acc = (zipL (as.take i) (bs.take i)).map ordV ∧ acc.length ≤ i)
      ⟨[], same_new nL, upd_same, rfl, Nat.le_refl _⟩ (fun i H' ⟨_, sm, _⟩ => ⟨SqT.of (sm _ _ ha), SqT.of (sm _ _ hb)⟩) (fun i x y T H' hi hj ⟨acc, sm, hL, e, hz2⟩ hT => ?_) fun H' ⟨acc, sm, hL, e, hz2⟩ => ?_
    · obtain ⟨x, hx, rfl⟩ := mapO hi
      obtain ⟨y, hy, rfl⟩ := mapO hj
      have hil : i < as.length := (List.getElem?_eq_some_iff.mp hx).1
      have nLT : L ≠ T := ne_of_none hL hT
      have sT := same_new (o := .tup [ordV x, ordV y]) hT
      refine ⟨rfl, ?_⟩
      show _
      refine ⟨_, rfl, T, [x, y], rfl, .inr upd_same, by show 2 ≤ 5000; decide, fun H2 s2 => ?_⟩
      refine ⟨acc, s2 _ _ (sT _ _ hL), small5 (by omega), _, same_mut ((sm.trans sT).trans s2) nL, upd_same, ?_, by rw [List.length_append]; show acc.length + 1 ≤ i + 1; omega⟩
      rw [zipL_snoc hx hy, List.map_append, e]
      rfl
    · refine ⟨L, acc, rfl, .inl ⟨SqL.of hL, fun p np => ?_⟩⟩
      rw [List.length_map, List.take_length, hl, List.take_length] at e
      exact q _ _ (sm.trans (same_new np)) (.tup upd_same (e ▸ DtA.ords _))
end
end Vq
set_option maxHeartbeats 1000000
set_option exponentiation.threshold 20000
namespace Vq
open PySem PySem.Spec PyProof.Rows L2
/-! ### look and put -/
theorem lookM_append (m r : List Tm) (p : Int) : lookM (m ++ r) p = match lookM m p with | some f => some f | none => lookM r p := by
  induction m with
  | nil => rfl
  | cons t m ih =>
    obtain ⟨k, f⟩ := t
    by_cases e : k = p
    · show (if k = p then some f else lookM (m ++ r) p) = match (if k = p then some f else lookM m p) with | some f => some f | none => lookM r p
      rw [if_pos e, if_pos e]
    · show (if k = p then some f else lookM (m ++ r) p) = match (if k = p then some f else lookM m p) with | some f => some f | none => lookM r p
      rw [if_neg e, if_neg e]
      exact ih
theorem lookM_map (m : List Tm) (n p : Int) (f : Fr) : lookM (m.map fun t => if t.1 = n then (t.1, f) else t) p = if p = n then (lookM m p).map (fun _ => f) else lookM m p := by
  induction m with
  | nil => by_cases e : p = n <;> simp [e, lookM]
  | cons t m ih =>
    obtain ⟨k, g⟩ := t
    rw [List.map_cons]
    by_cases e1 : k = n
    · rw [if_pos (show (k, g).1 = n from e1)]
      show (if k = p then some f else lookM _ p) = _
      show _ = if p = n then ((if k = p then some g else lookM m p)).map (fun _ => f) else (if k = p then some g else lookM m p)
      by_cases e2 : k = p
      · rw [if_pos e2, if_pos (by omega), if_pos e2]
        rfl
      · rw [if_neg e2, if_neg e2, ih]
    · rw [if_neg (show ¬ (k, g).1 = n from e1)]
      show (if k = p then some g else lookM _ p) = _
      show _ = if p = n then ((if k = p then some g else lookM m p)).map (fun _ => f) else (if k = p then some g else lookM m p)
      by_cases e2 : k = p
      · rw [if_pos e2, if_neg (by omega), if_pos e2]
      · rw [if_neg e2, if_neg e2, ih]
theorem lookM_put (m : List Tm) (n p : Int) (f : Fr) : lookM (putM m n f) p = if p = n then some f else lookM m p := by
  unfold putM
  cases h : lookM m n with
  | some g =>
    rw [if_pos (show (some g).isSome = true from rfl), lookM_map]
    by_cases e : p = n
    · rw [if_pos e, if_pos e, e, h]
      rfl
    · rw [if_neg e, if_neg e]
  | none =>
    rw [if_neg (show ¬ ((none : Option Fr).isSome = true) by simp), lookM_append]
    by_cases e : p = n
    · rw [if_pos e, e, h]
      show (if n = n then some f else none) = some f
      rw [if_pos rfl]
    · rw [if_neg e]
      cases lookM m p with
      | some g => rfl
      | none =>
        show (if n = p then some f else none) = none
        rw [if_neg (by omega)]
theorem lookM_none {m : List Tm} {p : Int} (h : p ∉ m.map (·.1)) : lookM m p = none := by
  induction m with
  | nil => rfl
  | cons t m ih =>
    rw [List.map_cons, List.mem_cons, not_or] at h
    show (if t.1 = p then some t.2 else lookM m p) = none
    rw [if_neg (fun e => h.1 e.symm)]
    exact ih h.2
theorem lookM_mem {m : List Tm} {p : Int} {f : Fr} (h : lookM m p = some f) : (p, f) ∈ m := by
  induction m with
  | nil => cases h
  | cons t m ih =>
    by_cases e : t.1 = p
    · have h' : (if t.1 = p then some t.2 else lookM m p) = some f := h
      rw [if_pos e] at h'
      cases h'
      rw [← e]
      exact List.mem_cons_self
    · have h' : (if t.1 = p then some t.2 else lookM m p) = some f := h
      rw [if_neg e] at h'
      exact List.mem_cons_of_mem _ (ih h')
theorem lookM_addM (m : List Tm) (t : Tm) (p : Int) : lookM (addM m t) p = if p = t.1 then some (addF ((lookM m t.1).getD (0, 1)) t.2) else lookM m p := lookM_put ..
theorem keys_put (m : List Tm) (n : Int) (f : Fr) : (putM m n f).map (·.1) = if (lookM m n).isSome = true then m.map (·.1) else m.map (·.1) ++ [n] := by
  unfold putM
  split
  · rw [List.map_map]
    apply List.map_congr_left
    intro t _
    show (if t.1 = n then (t.1, f) else t).1 = t.1
    split <;> rfl
  · rw [List.map_append]
    rfl
theorem some_of_key {m : List Tm} {p : Int} (h : (lookM m p).isSome = false) : p ∉ m.map (·.1) := fun hm => by
  obtain ⟨f, e⟩ := lookM_keys hm
  rw [e] at h
  cases h
theorem keys_add_nd {m : List Tm} (t : Tm) (h : (m.map (·.1)).Nodup) : ((addM m t).map (·.1)).Nodup := by
  unfold addM
  rw [keys_put]
  split
  · exact h
  · rename_i z
    have z2 : (lookM m t.1).isSome = false := by simpa using z
    refine List.nodup_append.mpr ⟨h, List.nodup_cons.mpr ⟨by simp, List.nodup_nil⟩, fun a ha b hb e => ?_⟩
    rw [List.mem_singleton.mp hb] at e
    exact some_of_key z2 (e ▸ ha)
theorem keys_add_sub {m : List Tm} {t : Tm} {p : Int} (h : p ∈ (addM m t).map (·.1)) : p ∈ m.map (·.1) ∨ p = t.1 := by
  unfold addM at h
  rw [keys_put] at h
  split at h
  · exact .inl h
  · rcases List.mem_append.mp h with h | h
    · exact .inl h
    · exact .inr (List.mem_singleton.mp h)
/-! ### what holds of a sum -/
theorem snoc_ind {α : Type} {C : List α → Prop} (h0 : C []) (h1 : ∀ l a, C l → C (l ++ [a])) : ∀ l, C l := fun l => by
  have : ∀ n (l : List α), l.length = n → C l := by
    intro n
    induction n with
    | zero => intro l e; rw [List.eq_nil_of_length_eq_zero e]; exact h0
    | succ n ih =>
      intro l e
      have hne : l ≠ [] := fun z => by rw [z] at e; cases e
      rw [← List.dropLast_concat_getLast hne]
      refine h1 _ _ (ih _ ?_)
      rw [List.length_dropLast, e]
      rfl
  exact this _ l rfl
theorem sumT_nd : ∀ ts : List Tm, ((sumT ts).map (·.1)).Nodup := snoc_ind List.nodup_nil fun l a ih => by
  rw [sumT_snoc]
  exact keys_add_nd a ih
theorem sumT_sub : ∀ (ts : List Tm) (p : Int), p ∈ (sumT ts).map (·.1) → p ∈ ts.map (·.1) := fun ts => by
  refine snoc_ind (C := fun ts => ∀ p, p ∈ (sumT ts).map (·.1) → p ∈ ts.map (·.1)) (fun p h => h) (fun l a ih p h => ?_) ts
  rw [sumT_snoc] at h
  rw [List.map_append]
  rcases keys_add_sub h with h | h
  · exact List.mem_append_left _ (ih p h)
  · exact List.mem_append_right _ (List.mem_singleton.mpr h)
/-- how many terms have this power -/
def cnt (p : Int) (ts : List Tm) : Nat := (ts.filter fun t => decide (t.1 = p)).length
theorem cnt_append (p : Int) (a b : List Tm) : cnt p (a ++ b) = cnt p a + cnt p b := by
  unfold cnt
  rw [List.filter_append, List.length_append]
theorem cnt_le (p : Int) (a : List Tm) : cnt p a ≤ a.length := List.length_filter_le _ _
theorem FB_one : FB 1 (0, 1) := ⟨by decide, by decide, by decide⟩
theorem sumT_fb {b : Nat} (hb : 0 < b) (ts : List Tm) (h : ∀ t ∈ ts, FB b t.2) (p : Int) : FB (1 + cnt p ts * (b + 1)) ((lookM (sumT ts) p).getD (0, 1)) := by
  revert h
  refine snoc_ind (C := fun ts => (∀ t ∈ ts, FB b t.2) → FB (1 + cnt p ts * (b + 1)) ((lookM (sumT ts) p).getD (0, 1))) (fun _ => FB.mono (f := (0, 1)) FB_one (Nat.le_add_right _ _)) (fun l a ih h => ?_) ts
  have ih' := ih fun t m => h t (List.mem_append_left _ m)
  have ha := h a (List.mem_append_right _ List.mem_cons_self)
  rw [sumT_snoc, lookM_addM, cnt_append]
  by_cases e : p = a.1
  · rw [if_pos e]
    have c1 : cnt p [a] = 1 := by
      unfold cnt
      simp [e]
    rw [← e, c1]
    have q := addF_ok ih' ha (by omega) hb
    exact q.mono (by rw [Nat.add_mul, Nat.one_mul]; omega)
  · rw [if_neg e]
    exact ih'.mono (by rw [Nat.add_mul]; omega)
theorem okT_of {b c : Nat} (hb : 0 < b) {ts : List Tm} (h : ∀ t ∈ ts, FB b t.2) (hc : ∀ p, cnt p ts ≤ c) (hz : 1 + c * (b + 1) ≤ 4000) (hb4 : b ≤ 4000) : OkT 4000 ts := by
  intro i t ht
  refine ⟨(h t (List.mem_of_getElem? ht)).mono hb4, ?_⟩
  have q := sumT_fb hb (ts.take i) (fun t m => h t (List.mem_of_mem_take m)) t.1
  have c1 : cnt t.1 (ts.take i) ≤ cnt t.1 ts := by
    conv => rhs; rw [← List.take_append_drop i ts]
    rw [cnt_append]
    omega
  have c2 := hc t.1
  have c3 : cnt t.1 (ts.take i) * (b + 1) ≤ c * (b + 1) := Nat.mul_le_mul_right _ (by omega)
  exact q.mono (by omega)
/-- all sums are in lowest terms -/
theorem sumT_red (ts : List Tm) (h : ∀ t ∈ ts, 0 < t.2.2) : ∀ p f, lookM (sumT ts) p = some f → ∃ n d : Int, 0 < d ∧ f = redF n d := by
  revert h
  refine snoc_ind (C := fun ts => (∀ t ∈ ts, 0 < t.2.2) → ∀ p f, lookM (sumT ts) p = some f → ∃ n d : Int, 0 < d ∧ f = redF n d) (fun _ p f e => by cases e) (fun l a ih h p f e => ?_) ts
  have ih' := ih fun t m => h t (List.mem_append_left _ m)
  have ha := h a (List.mem_append_right _ List.mem_cons_self)
  rw [sumT_snoc, lookM_addM] at e
  by_cases e1 : p = a.1
  · rw [if_pos e1] at e
    cases e
    refine ⟨_, _, Int.mul_pos ?_ ha, rfl⟩
    cases e2 : lookM (sumT l) a.1 with
    | none => decide
    | some g =>
      obtain ⟨n, d, hd, rfl⟩ := ih' _ _ e2
      show 0 < (redF n d).2
      have gp := gcI_pos (n := n) hd
      have dv : gcI n d ∣ d := by
        unfold gcI
        exact Int.ofNat_dvd_left.mpr (Nat.gcd_dvd_right _ _)
      exact Int.ediv_pos_of_pos_of_dvd hd (by omega) dv
  · rw [if_neg e1] at e
    exact ih' p f e
theorem redF_zero {n d : Int} (hd : 0 < d) (h : (redF n d).1 ≠ 0) : n ≠ 0 := fun e => h (by
  show n / gcI n d = 0
  rw [e]
  exact Int.zero_ediv _)
/-! ### the number of a sum -/
theorem sortI_lt {l : List Int} (h : l.Nodup) : (sortI l).Pairwise (· < ·) := by
  have s : (sortI l).Pairwise (· ≤ ·) := by
    have e := sortI_eq (ys := sortI l) (ks := l) (sortI_perm l)
    have z := List.pairwise_mergeSort (le := fun a b : Int => decide (a ≤ b)) (fun a b c h1 h2 => by
      have := of_decide_eq_true h1
      have := of_decide_eq_true h2
      exact decide_eq_true (by omega)) (fun a b => by
      rcases Int.le_total a b with h | h
      · simp [h]
      · simp [h]) l
    exact z.imp fun h => of_decide_eq_true h
  have n : (sortI l).Nodup := (sortI_perm l).nodup_iff.mpr h
  exact (s.and n).imp fun ⟨h1, h2⟩ => by omega
theorem pick_some {m : List Tm} {p : Int} {t : Tm} (h : pickM m p = some t) : t.1 = p ∧ lookM m p = some t.2 ∧ t.2.1 ≠ 0 := by
  unfold pickM at h
  cases e : lookM m p with
  | none => rw [e] at h; cases h
  | some f =>
    rw [e] at h
    by_cases z : f.1 = 0
    · have h' : (if f.1 = 0 then none else some (p, f)) = some t := h
      rw [if_pos z] at h'
      cases h'
    · have h' : (if f.1 = 0 then none else some (p, f)) = some t := h
      rw [if_neg z] at h'
      cases h'
      exact ⟨rfl, rfl, z⟩
theorem numOf_mem {m : List Tm} {t : Tm} (h : t ∈ numOf m) : t.1 ∈ m.map (·.1) ∧ lookM m t.1 = some t.2 ∧ t.2.1 ≠ 0 := by
  obtain ⟨p, hp, e⟩ := List.mem_filterMap.mp h
  obtain ⟨e1, e2, e3⟩ := pick_some e
  rw [e1]
  exact ⟨(sortI_perm _).mem_iff.mp hp, e2, e3⟩
theorem filterMap_keys (m : List Tm) : ∀ l : List Int, l.Pairwise (· < ·) → ((l.filterMap (pickM m)).map (·.1)).Pairwise (· < ·) ∧ ∀ q ∈ (l.filterMap (pickM m)).map (·.1), q ∈ l
  | [], _ => ⟨.nil, fun q h => h⟩
  | p :: l, h => by
    obtain ⟨h1, h2⟩ := List.pairwise_cons.mp h
    obtain ⟨i1, i2⟩ := filterMap_keys m l h2
    cases e : pickM m p with
    | none =>
      rw [List.filterMap_cons_none e]
      exact ⟨i1, fun q hq => List.mem_cons_of_mem _ (i2 q hq)⟩
    | some t =>
      rw [List.filterMap_cons_some e, List.map_cons, (pick_some e).1]
      refine ⟨List.pairwise_cons.mpr ⟨fun q hq => h1 q (i2 q hq), i1⟩, fun q hq => ?_⟩
      rcases List.mem_cons.mp hq with hq | hq
      · rw [hq]; exact List.mem_cons_self
      · exact List.mem_cons_of_mem _ (i2 q hq)
theorem numOf_len (m : List Tm) : (numOf m).length ≤ m.length := by
  unfold numOf
  refine Nat.le_trans (List.length_filterMap_le _ _) ?_
  rw [(sortI_perm _).length_eq, List.length_map]
  exact Nat.le_refl _
theorem numOf_wf {ts : List Tm} (h : ∀ t ∈ ts, 0 < t.2.2) : WfN (numOf (sumT ts)) := by
  refine ⟨(filterMap_keys _ _ (sortI_lt (sumT_nd ts))).1, fun t m => ?_⟩
  obtain ⟨e1, e2, e3⟩ := numOf_mem m
  obtain ⟨n, d, hd, e⟩ := sumT_red ts h _ _ e2
  rw [e] at e3 ⊢
  exact redF_wf (redF_zero hd e3) hd
theorem numOf_fb {b : Nat} (hb : 0 < b) {ts : List Tm} (h : ∀ t ∈ ts, FB b t.2) {c : Nat} (hc : ∀ p, cnt p ts ≤ c) : ∀ t ∈ numOf (sumT ts), FB (1 + c * (b + 1)) t.2 := fun t m => by
  obtain ⟨e1, e2, e3⟩ := numOf_mem m
  have q := sumT_fb hb ts h t.1
  rw [e2] at q
  exact q.mono (by have := Nat.mul_le_mul_right (b + 1) (hc t.1); omega)
/-! ### a number is its own sum -/
theorem redF_own {f : Fr} (h : WfF f) : redF f.1 f.2 = f := by
  unfold redF
  rw [h.g, Int.ediv_one, Int.ediv_one]
theorem addF_zero {f : Fr} (h : WfF f) : addF (0, 1) f = f := by
  unfold addF
  show redF (0 * f.2 + f.1 * 1) (1 * f.2) = f
  rw [Int.zero_mul, Int.zero_add, Int.mul_one, Int.one_mul]
  exact redF_own h
theorem WfN.nd {l : List Tm} (h : WfN l) : (l.map (·.1)).Nodup := h.up.imp fun h => by omega
theorem WfN.init {l : List Tm} {t : Tm} (h : WfN (l ++ [t])) : WfN l ∧ t.1 ∉ l.map (·.1) ∧ WfF t.2 := by
  have hu := h.up
  rw [List.map_append] at hu
  obtain ⟨h1, h2, h3⟩ := List.pairwise_append.mp hu
  refine ⟨⟨h1, fun t m => h.wf t (List.mem_append_left _ m)⟩, fun m => ?_, h.wf t (List.mem_append_right _ List.mem_cons_self)⟩
  exact Int.lt_irrefl _ (h3 _ m _ List.mem_cons_self)
theorem sumT_own : ∀ l : List Tm, WfN l → sumT l = l := by
  refine snoc_ind (fun _ => rfl) fun l t ih h => ?_
  obtain ⟨h1, h2, h3⟩ := h.init
  rw [sumT_snoc, ih h1]
  unfold addM putM
  rw [lookM_none h2]
  show l ++ [(t.1, addF (0, 1) t.2)] = l ++ [t]
  rw [addF_zero h3]
theorem sortI_own {l : List Int} (h : l.Pairwise (· < ·)) : sortI l = l := (sortI_eq (List.Perm.refl l) (h.imp fun h => by omega)).symm
theorem lookM_own {l : List Tm} (h : (l.map (·.1)).Nodup) {t : Tm} (m : t ∈ l) : lookM l t.1 = some t.2 := by
  induction l with
  | nil => cases m
  | cons a l ih =>
    rw [List.map_cons, List.nodup_cons] at h
    show (if a.1 = t.1 then some a.2 else lookM l t.1) = some t.2
    rcases List.mem_cons.mp m with e | m
    · rw [e, if_pos rfl]
    · rw [if_neg (fun e => h.1 (by rw [e]; exact List.mem_map_of_mem m))]
      exact ih h.2 m
theorem filterMap_same {f : Tm → Option Tm} : ∀ l : List Tm, (∀ t ∈ l, f t = some t) → l.filterMap f = l
  | [], _ => rfl
  | t :: l, h => by
    rw [List.filterMap_cons_some (h t List.mem_cons_self), filterMap_same l fun s m => h s (List.mem_cons_of_mem _ m)]
theorem numOf_own {l : List Tm} (h : WfN l) : numOf l = l := by
  unfold numOf
  rw [sortI_own h.up, List.filterMap_map]
  have e : ∀ t ∈ l, (pickM l ∘ (·.1)) t = some t := fun t m => by
    show pickM l t.1 = some t
    unfold pickM
    rw [lookM_own h.nd m]
    show (if t.2.1 = 0 then none else some (t.1, t.2)) = some t
    rw [if_neg (h.wf t m).n]
  exact filterMap_same _ e
theorem WfF.neg {f : Fr} (h : WfF f) : WfF (-f.1, f.2) := ⟨by have := h.n; show -f.1 ≠ 0; omega, h.d, by
  have e := h.g
  unfold gcI at e ⊢
  show ((Nat.gcd (-f.1).natAbs f.2.natAbs : Nat) : Int) = 1
  rw [Int.natAbs_neg]
  exact e⟩
theorem minM_wf {l : List Tm} (h : WfN l) : WfN (minM l) := by
  refine ⟨?_, fun t m => ?_⟩
  · unfold minM
    rw [List.map_map]
    exact h.up
  · obtain ⟨s, hs, rfl⟩ := List.mem_map.mp m
    exact (h.wf s hs).neg
theorem mulF_neg {f : Fr} (h : WfF f) : mulF (-1, 1) f = (-f.1, f.2) := by
  unfold mulF
  show redF (-1 * f.1) (1 * f.2) = (-f.1, f.2)
  rw [Int.one_mul, Int.neg_one_mul]
  exact redF_own h.neg
theorem mulT_neg {l : List Tm} (h : WfN l) : mulT negOne l = minM l := by
  unfold mulT negOne minM
  rw [List.flatMap_cons, List.flatMap_nil, List.append_nil]
  refine List.map_congr_left fun t m => ?_
  show ((0 : Int) + t.1, mulF (-1, 1) t.2) = _
  rw [Int.zero_add, mulF_neg (h.wf t m)]
theorem timM_neg {l : List Tm} (h : WfN l) : timM negOne l = minM l := by
  unfold timM
  rw [mulT_neg h, sumT_own _ (minM_wf h), numOf_own (minM_wf h)]
/-! ### one less itself -/
theorem look_fold : ∀ (us m : List Tm) (p : Int), (us.map (·.1)).Nodup → lookM (us.foldl addM m) p = match lookM us p with | some g => some (addF ((lookM m p).getD (0, 1)) g) | none => lookM m p
  | [], m, p, _ => rfl
  | u :: us, m, p, h => by
    rw [List.map_cons, List.nodup_cons] at h
    show lookM (us.foldl addM (addM m u)) p = match (if u.1 = p then some u.2 else lookM us p) with | some g => some (addF ((lookM m p).getD (0, 1)) g) | none => lookM m p
    rw [look_fold us _ p h.2, lookM_addM]
    by_cases e : u.1 = p
    · rw [if_pos e, lookM_none (by rw [← e]; exact h.1), if_pos e.symm, e]
    · rw [if_neg e, if_neg (fun z => e z.symm)]
theorem less_self {l : List Tm} (h : WfN l) : totM [l, minM l] = [] := by
  have hm := minM_wf h
  have e0 : sumT ([l, minM l] : List (List Tm)).flatten = (minM l).foldl addM l := by
    show sumT (l ++ (minM l ++ [])) = _
    rw [List.append_nil]
    unfold sumT
    rw [List.foldl_append]
    show (minM l).foldl addM (sumT l) = _
    rw [sumT_own l h]
  unfold totM numOf
  rw [e0]
  refine List.filterMap_eq_nil_iff.mpr fun p hp => ?_
  have hp' := (sortI_perm _).mem_iff.mp hp
  have hk : p ∈ l.map (·.1) := by
    have q : p ∈ (sumT ([l, minM l] : List (List Tm)).flatten).map (·.1) := by rw [e0]; exact hp'
    have q2 := sumT_sub _ _ q
    have e1 : ([l, minM l] : List (List Tm)).flatten = l ++ minM l := by show l ++ (minM l ++ []) = _; rw [List.append_nil]
    rw [e1, List.map_append] at q2
    rcases List.mem_append.mp q2 with q2 | q2
    · exact q2
    · unfold minM at q2
      rw [List.map_map] at q2
      exact q2
  obtain ⟨t, ht, rfl⟩ := List.mem_map.mp hk
  have l1 := lookM_own h.nd ht
  have l2 : lookM (minM l) t.1 = some (-t.2.1, t.2.2) := lookM_own (t := (t.1, (-t.2.1, t.2.2))) hm.nd (List.mem_map.mpr ⟨t, ht, rfl⟩)
  unfold pickM
  rw [look_fold _ _ _ hm.nd, l2, l1]
  show (if (addF t.2 (-t.2.1, t.2.2)).1 = 0 then none else some (t.1, addF t.2 (-t.2.1, t.2.2))) = none
  rw [if_pos]
  show (t.2.1 * t.2.2 + -t.2.1 * t.2.2) / _ = 0
  rw [Int.neg_mul, Int.add_right_neg]
  exact Int.zero_ediv _
/-! ### counts -/
theorem cnt_nd {l : List Tm} (h : (l.map (·.1)).Nodup) (p : Int) : cnt p l ≤ 1 := by
  induction l with
  | nil => exact Nat.zero_le _
  | cons t l ih =>
    rw [List.map_cons, List.nodup_cons] at h
    unfold cnt
    by_cases e : t.1 = p
    · rw [List.filter_cons_of_pos (by simp [e])]
      have z : l.filter (fun t => decide (t.1 = p)) = [] := List.filter_eq_nil_iff.mpr fun a m => by
        have : a.1 ≠ p := fun q => h.1 (by rw [e, ← q]; exact List.mem_map_of_mem m)
        simp [this]
      rw [z]
      exact Nat.le_refl _
    · rw [List.filter_cons_of_neg (by simp [e])]
      exact ih h.2
theorem cnt_mulT {b : List Tm} (hb : (b.map (·.1)).Nodup) (p : Int) : ∀ a : List Tm, cnt p (mulT a b) ≤ a.length
  | [] => Nat.le_refl _
  | s :: a => by
    have ih := cnt_mulT hb p a
    have e : mulT (s :: a) b = mulRow s b ++ mulT a b := by
      unfold mulT mulRow
      rw [List.flatMap_cons]
    have hr : ((mulRow s b).map (·.1)).Nodup := by
      unfold mulRow
      rw [List.map_map]
      have : (fun t : Tm => s.1 + t.1) = (fun n => s.1 + n) ∘ (·.1) := rfl
      show (b.map (fun t : Tm => s.1 + t.1)).Nodup
      rw [this, ← List.map_map]
      rw [List.Nodup, List.pairwise_map]
      exact hb.imp fun {x y} h e => h (by omega)
    have h1 := cnt_nd hr p
    rw [e, cnt_append, List.length_cons]
    omega
theorem mulT_len (a b : List Tm) : (mulT a b).length = a.length * b.length := by
  induction a with
  | nil => rw [List.length_nil, Nat.zero_mul]; rfl
  | cons s a ih =>
    have e : mulT (s :: a) b = mulRow s b ++ mulT a b := by
      unfold mulT mulRow
      rw [List.flatMap_cons]
    rw [e, List.length_append, ih, List.length_cons, Nat.succ_mul, Nat.add_comm]
    congr 1
    exact List.length_map _
theorem mulT_fb {a b : List Tm} {p q : Nat} (ha : ∀ t ∈ a, FB p t.2) (hb : ∀ t ∈ b, FB q t.2) : ∀ t ∈ mulT a b, FB (p + q) t.2 := fun t m => by
  obtain ⟨s, hs, h⟩ := List.mem_flatMap.mp m
  obtain ⟨u, hu, rfl⟩ := List.mem_map.mp h
  exact mulF_ok (ha s hs) (hb u hu)
/-! ### orders of sums and products -/
theorem ordM_le {l : List Tm} (h : WfN l) {t : Tm} (m : t ∈ l) : ∃ o, ordM l = some o ∧ o ≤ t.1 := by
  cases l with
  | nil => cases m
  | cons a l =>
    refine ⟨a.1, rfl, ?_⟩
    rcases List.mem_cons.mp m with e | m
    · rw [e]; exact Int.le_refl _
    · have : a.1 < t.1 := (List.pairwise_cons.mp h.up).1 t.1 (List.mem_map_of_mem m)
      omega
theorem minO_le {l : List Int} {x : Int} (h : x ∈ l) : ∃ m, minO l = some m ∧ m ≤ x := by
  cases l with
  | nil => cases h
  | cons a r =>
    obtain ⟨_, b, c⟩ := foldl_min_spec r a
    refine ⟨_, rfl, ?_⟩
    rcases List.mem_cons.mp h with e | h
    · rw [e]; exact b
    · exact c x h
theorem ord_total {a b : List Tm} (ha : WfN a) (hb : WfN b) : naM (leastM [ordM a, ordM b]) (ordM (totM [a, b])) = true := by
  cases e : totM [a, b] with
  | nil => cases leastM [ordM a, ordM b] <;> rfl
  | cons t r =>
    have m : t ∈ totM [a, b] := by rw [e]; exact List.mem_cons_self
    have k := sumT_sub _ _ (numOf_mem m).1
    have e1 : ([a, b] : List (List Tm)).flatten = a ++ b := by show a ++ (b ++ []) = _; rw [List.append_nil]
    rw [e1, List.map_append] at k
    have key : ∃ o, (ordM a = some o ∨ ordM b = some o) ∧ o ≤ t.1 := by
      rcases List.mem_append.mp k with k | k
      · obtain ⟨s, hs, q⟩ := List.mem_map.mp k
        obtain ⟨o, h1, h2⟩ := ordM_le ha hs
        exact ⟨o, .inl h1, by omega⟩
      · obtain ⟨s, hs, q⟩ := List.mem_map.mp k
        obtain ⟨o, h1, h2⟩ := ordM_le hb hs
        exact ⟨o, .inr h1, by omega⟩
    obtain ⟨o, h1, h2⟩ := key
    have mm : o ∈ [ordM a, ordM b].filterMap id := by
      refine List.mem_filterMap.mpr ⟨some o, ?_, rfl⟩
      rcases h1 with h1 | h1 <;> rw [h1] <;> simp
    obtain ⟨x, h3, h4⟩ := minO_le mm
    show naM (minO ([ordM a, ordM b].filterMap id)) (some t.1) = true
    rw [h3]
    exact decide_eq_true (by omega)
theorem fold_keep : ∀ (us m : List Tm) (p : Int), p ∉ us.map (·.1) → lookM (us.foldl addM m) p = lookM m p
  | [], m, p, _ => rfl
  | u :: us, m, p, h => by
    rw [List.map_cons, List.mem_cons, not_or] at h
    show lookM (us.foldl addM (addM m u)) p = lookM m p
    rw [fold_keep us _ p h.2, lookM_addM, if_neg h.1]
theorem ord_times {a b : List Tm} {s t : Tm} (ha : WfN (s :: a)) (hb : WfN (t :: b)) : ordM (timM (s :: a) (t :: b)) = some (s.1 + t.1) := by
  have hs := ha.wf s List.mem_cons_self
  have ht := hb.wf t List.mem_cons_self
  obtain ⟨ua, _⟩ := List.pairwise_cons.mp ha.up
  obtain ⟨ub, _⟩ := List.pairwise_cons.mp hb.up
  -- the product's terms: the first one, and greater ones
  obtain ⟨r, hr, hgt⟩ : ∃ r, mulT (s :: a) (t :: b) = (s.1 + t.1, mulF s.2 t.2) :: r ∧ ∀ u ∈ r, s.1 + t.1 < u.1 := by
    refine ⟨mulRow s b ++ mulT a (t :: b), ?_, fun u m => ?_⟩
    · unfold mulT mulRow
      rw [List.flatMap_cons, List.map_cons]
      rfl
    · rcases List.mem_append.mp m with m | m
      · obtain ⟨v, hv, rfl⟩ := List.mem_map.mp m
        have : t.1 < v.1 := ub v.1 (List.mem_map_of_mem hv)
        show s.1 + t.1 < s.1 + v.1
        omega
      · obtain ⟨c, hc, h⟩ := List.mem_flatMap.mp m
        obtain ⟨v, hv, rfl⟩ := List.mem_map.mp h
        have h1 : s.1 < c.1 := ua c.1 (List.mem_map_of_mem hc)
        have h2 : t.1 ≤ v.1 := by
          rcases List.mem_cons.mp hv with e | hv
          · rw [e]; exact Int.le_refl _
          · have : t.1 < v.1 := ub v.1 (List.mem_map_of_mem hv)
            omega
        show s.1 + t.1 < c.1 + v.1
        omega
  have hl : lookM (sumT (mulT (s :: a) (t :: b))) (s.1 + t.1) = some (addF (0, 1) (mulF s.2 t.2)) := by
    rw [hr]
    show lookM (r.foldl addM (addM [] (s.1 + t.1, mulF s.2 t.2))) (s.1 + t.1) = _
    rw [fold_keep _ _ _ (fun m => by
      obtain ⟨u, hu, e⟩ := List.mem_map.mp m
      have := hgt u hu
      omega), lookM_addM, if_pos rfl]
    rfl
  have wf : WfF (mulF s.2 t.2) := redF_wf (Int.mul_ne_zero hs.n ht.n) (Int.mul_pos hs.d ht.d)
  rw [addF_zero wf] at hl
  -- the least key
  have keys := sumT_sub (mulT (s :: a) (t :: b))
  have lo : ∀ p ∈ sortI ((sumT (mulT (s :: a) (t :: b))).map (·.1)), s.1 + t.1 ≤ p := fun p m => by
    have k := keys p ((sortI_perm _).mem_iff.mp m)
    rw [hr, List.map_cons] at k
    rcases List.mem_cons.mp k with e | k
    · rw [e]; exact Int.le_refl _
    · obtain ⟨u, hu, e⟩ := List.mem_map.mp k
      have := hgt u hu
      omega
  have inn : s.1 + t.1 ∈ sortI ((sumT (mulT (s :: a) (t :: b))).map (·.1)) := by
    refine (sortI_perm _).mem_iff.mpr ?_
    exact List.mem_map.mpr ⟨_, lookM_mem hl, rfl⟩
  have up := sortI_lt (sumT_nd (mulT (s :: a) (t :: b)))
  unfold timM numOf
  cases e : sortI ((sumT (mulT (s :: a) (t :: b))).map (·.1)) with
  | nil => rw [e] at inn; cases inn
  | cons q l =>
    have q0 : q = s.1 + t.1 := by
      rw [e] at inn lo up
      have h1 := lo q List.mem_cons_self
      rcases List.mem_cons.mp inn with z | z
      · exact z.symm
      · have := (List.pairwise_cons.mp up).1 _ z
        omega
    have pk : pickM (sumT (mulT (s :: a) (t :: b))) q = some (s.1 + t.1, mulF s.2 t.2) := by
      unfold pickM
      rw [q0, hl]
      exact if_neg wf.n
    rw [List.filterMap_cons_some pk]
    rfl
end Vq
set_option maxHeartbeats 1000000
set_option exponentiation.threshold 20000
namespace Vq
open PySem PySem.Spec PyProof.Rows L2
structure NumOk (l : List Tm) : Prop where
  wf : WfN l
  len : l.length ≤ 12
  fb : ∀ t ∈ l, FB 30 t.2 ∧ t.1.natAbs ≤ 4000
theorem Drawn.ok {b c : Nat} {l : List Tm} (h : Drawn b c l) (hb : b ≤ 30) (hc : c ≤ 12) : NumOk l :=
  ⟨h.wf, Nat.le_trans h.len hc, fun t m => ⟨(h.fb t m).1.mono hb, Nat.le_trans (h.fb t m).2 (by decide)⟩⟩
theorem FB.neg {b : Nat} {f : Fr} (h : FB b f) : FB b (-f.1, f.2) := ⟨by show (-f.1).natAbs < _; rw [Int.natAbs_neg]; exact h.n, h.d, h.p⟩
theorem minM_fb {l : List Tm} {b c : Nat} (h : ∀ t ∈ l, FB b t.2 ∧ t.1.natAbs ≤ c) : ∀ t ∈ minM l, FB b t.2 ∧ t.1.natAbs ≤ c := fun t m => by
  obtain ⟨s, hs, rfl⟩ := List.mem_map.mp m
  exact ⟨(h s hs).1.neg, (h s hs).2⟩
theorem minM_len (l : List Tm) : (minM l).length = l.length := List.length_map _
theorem NumOk.min {l : List Tm} (h : NumOk l) : NumOk (minM l) := ⟨minM_wf h.wf, by rw [minM_len]; exact h.len, minM_fb h.fb⟩
theorem NumOk.f4 {l : List Tm} (h : NumOk l) : ∀ s ∈ l, FB 4000 s.2 := fun s m => (h.fb s m).1.mono (by decide)
theorem fb_app {a b : List Tm} {k c : Nat} (ha : ∀ t ∈ a, FB k t.2 ∧ t.1.natAbs ≤ c) (hb : ∀ t ∈ b, FB k t.2 ∧ t.1.natAbs ≤ c) : ∀ t ∈ a ++ b, FB k t.2 ∧ t.1.natAbs ≤ c := fun t m => by
  rcases List.mem_append.mp m with m | m
  · exact ha t m
  · exact hb t m
theorem okT_len {b n : Nat} (hb : 0 < b) {ts : List Tm} (h : ∀ t ∈ ts, FB b t.2) (hl : ts.length ≤ n) (hz : 1 + n * (b + 1) ≤ 4000) (h4 : b ≤ 4000) : OkT 4000 ts :=
  okT_of hb h (fun p => Nat.le_trans (cnt_le p ts) hl) hz h4
theorem NumOk.cat {a b : List Tm} (ha : NumOk a) (hb : NumOk b) : OkT 4000 (a ++ b) ∧ (a ++ b).length ≤ 24 := by
  have hl : (a ++ b).length ≤ 24 := by
    have := ha.len
    have := hb.len
    rw [List.length_append]
    omega
  exact ⟨okT_len (b := 30) (n := 24) (by decide) (fun t m => (fb_app ha.fb hb.fb t m).1) hl (by decide) (by decide), hl⟩
theorem NumOk.mul {a b : List Tm} (ha : NumOk a) (hb : NumOk b) : OkT 4000 (mulT a b) ∧ (mulT a b).length ≤ 144 := by
  refine ⟨okT_of (b := 60) (c := 12) (by decide) (mulT_fb (p := 30) (q := 30) (fun t m => (ha.fb t m).1) fun t m => (hb.fb t m).1) (fun p => Nat.le_trans (cnt_mulT hb.wf.nd p a) ha.len) (by decide) (by decide), ?_⟩
  rw [mulT_len]
  exact Nat.le_trans (Nat.mul_le_mul ha.len hb.len) (by decide)
theorem NumOk.one {a : List Tm} (ha : NumOk a) : OkT 4000 a ∧ a.length ≤ 12 := ⟨okT_len (b := 30) (n := 12) (by decide) (fun t m => (ha.fb t m).1) ha.len (by decide) (by decide), ha.len⟩
/-! ### data in bounds -/
theorem gdTm {t : Tm} {k n : Nat} (h : FB 1900 t.2) (hp : t.1.natAbs ≤ 10000) : Gd (k + 2) (4 + n) (tmD t) := by
  have hp' : t.1.natAbs < 2 ^ 1900 := Nat.lt_of_le_of_lt hp (Nat.lt_of_lt_of_le (show 10000 < 2 ^ 14 by decide) (Nat.pow_le_pow_right (by decide) (by decide)))
  have q : GdA (k + 1) (0 + 1 + (2 + 1 + n)) [.int t.1, frD t.2] := .cons (.int _ _ hp') (.cons (.tup (GdA.cons (n := 0) (m := 1) (.int _ _ h.n) (.cons (n := 0) (m := 0) (.int _ _ h.d) (.nil _ _)))) (.nil _ _))
  rw [show 4 + n = 0 + 1 + (2 + 1 + n) by omega]
  exact .tup q
theorem gdTms {k : Nat} : ∀ {l : List Tm}, (∀ t ∈ l, FB 1900 t.2 ∧ t.1.natAbs ≤ 10000) → GdA (k + 2) (5 * l.length) (l.map tmD)
  | [], _ => .nil _ _
  | t :: l, h => by
    have q : GdA (k + 2) (4 + 0 + 1 + 5 * l.length) (tmD t :: l.map tmD) := .cons (gdTm (n := 0) (h t List.mem_cons_self).1 (h t List.mem_cons_self).2) (gdTms fun s m => h s (List.mem_cons_of_mem _ m))
    rw [show 5 * (t :: l).length = 4 + 0 + 1 + 5 * l.length by rw [List.length_cons]; omega]
    exact q
mutual
theorem Gd.up : ∀ {k n : Nat} {d : PyData} (m : Nat), Gd k n d → Gd k (n + m) d
  | _, _, _, m, .non k n => .non _ _
  | _, _, _, m, .bl k n b => .bl _ _ _
  | _, _, _, m, .int k n h => .int _ _ h
  | _, _, _, m, .tup h => .tup (GdA.up m h)
  | _, _, _, m, .lst h => .lst (GdA.up m h)
theorem GdA.up : ∀ {k n : Nat} {d : List PyData} (m : Nat), GdA k n d → GdA k (n + m) d
  | _, _, _, m, .nil k n => .nil _ _
  | _, _, _, m, .cons (n := a) (m := b) h t => by
    have q := GdA.cons h (GdA.up m t)
    rw [Nat.add_assoc]
    exact q
end
theorem gdNum {k : Nat} {l : List Tm} (h : ∀ t ∈ l, FB 1900 t.2 ∧ t.1.natAbs ≤ 10000) (hl : l.length ≤ 200) : Gd (k + 3) 1000 (nmD l) := by
  have q : Gd (k + 3) (5 * l.length) (nmD l) := .tup (gdTms h)
  have e : 1000 = 5 * l.length + (1000 - 5 * l.length) := by omega
  rw [e]
  exact q.up _
theorem gdSum {k b c : Nat} {ts : List Tm} (hb : 0 < b) (h : ∀ t ∈ ts, FB b t.2 ∧ t.1.natAbs ≤ 10000) (hc : ∀ p, cnt p ts ≤ c) (hz : 1 + c * (b + 1) ≤ 1900) (hl : ts.length ≤ 200) : Gd (k + 3) 1000 (nmD (numOf (sumT ts))) := by
  refine gdNum (fun t m => ⟨(numOf_fb hb (fun t m => (h t m).1) hc t m).mono hz, ?_⟩) (Nat.le_trans (numOf_len _) (Nat.le_trans (sumT_len _) hl))
  obtain ⟨s, hs, e⟩ := List.mem_map.mp (sumT_sub _ _ (numOf_mem m).1)
  rw [← e]
  exact (h s hs).2
theorem NumOk.gd {k : Nat} {l : List Tm} (h : NumOk l) : Gd (k + 3) 1000 (nmD l) :=
  gdNum (fun t m => ⟨(h.fb t m).1.mono (by decide), Nat.le_trans (h.fb t m).2 (by decide)⟩) (Nat.le_trans h.len (by decide))
theorem flat1 (a b : List Tm) : ([a, b] : List (List Tm)).flatten = a ++ b := by
  show a ++ (b ++ []) = _
  rw [List.append_nil]
theorem NumOk.gdCat {k : Nat} {a b : List Tm} (ha : NumOk a) (hb : NumOk b) : Gd (k + 3) 1000 (nmD (totM [a, b])) := by
  unfold totM
  rw [flat1]
  refine gdSum (b := 30) (c := 24) (by decide) (fun t m => ⟨(fb_app ha.fb hb.fb t m).1, Nat.le_trans (fb_app ha.fb hb.fb t m).2 (by decide)⟩) (fun p => Nat.le_trans (cnt_le p _) (ha.cat hb).2) (by decide) (Nat.le_trans (ha.cat hb).2 (by decide))
theorem NumOk.gdMul {k : Nat} {a b : List Tm} (ha : NumOk a) (hb : NumOk b) : Gd (k + 3) 1000 (nmD (timM a b)) := by
  unfold timM
  refine gdSum (b := 60) (c := 12) (by decide) (fun t m => ⟨mulT_fb (p := 30) (q := 30) (fun t m => (ha.fb t m).1) (fun t m => (hb.fb t m).1) t m, ?_⟩) (fun p => Nat.le_trans (cnt_mulT hb.wf.nd p a) ha.len) (by decide) (Nat.le_trans (ha.mul hb).2 (by decide))
  obtain ⟨s, hs, h⟩ := List.mem_flatMap.mp m
  obtain ⟨u, hu, rfl⟩ := List.mem_map.mp h
  have h1 := (ha.fb s hs).2
  have h2 := (hb.fb u hu).2
  show (s.1 + u.1).natAbs ≤ 10000
  omega
/-- several drawn numbers -/
structure NumsOk (ns : List (List Tm)) : Prop where
  len : ns.length ≤ 4
  dr : ∀ l ∈ ns, Drawn 4 5 l
theorem flat_len {c : Nat} : ∀ {ns : List (List Tm)}, (∀ l ∈ ns, l.length ≤ c) → ns.flatten.length ≤ ns.length * c
  | [], _ => Nat.zero_le _
  | l :: ns, h => by
    have h1 := h l List.mem_cons_self
    have h2 := flat_len (ns := ns) fun l m => h l (List.mem_cons_of_mem _ m)
    rw [List.flatten_cons, List.length_append, List.length_cons, Nat.add_mul, Nat.one_mul]
    omega
theorem NumsOk.fl {ns : List (List Tm)} (h : NumsOk ns) : ns.flatten.length ≤ 20 := by
  have h1 := flat_len (c := 5) fun l m => (h.dr l m).len
  have h2 := Nat.mul_le_mul_right 5 h.len
  omega
theorem NumsOk.fb {ns : List (List Tm)} (h : NumsOk ns) : ∀ t ∈ ns.flatten, FB 4 t.2 ∧ t.1.natAbs ≤ 2000 := fun t m => by
  obtain ⟨l, hl, ht⟩ := List.mem_flatten.mp m
  exact (h.dr l hl).fb t ht
theorem NumsOk.okT {ns : List (List Tm)} (h : NumsOk ns) : OkT 4000 ns.flatten := okT_len (b := 4) (n := 20) (by decide) (fun t m => (h.fb t m).1) h.fl (by decide) (by decide)
theorem NumsOk.gdT {k : Nat} {ns : List (List Tm)} (h : NumsOk ns) : Gd (k + 3) 1000 (nmD (totM ns)) := by
  unfold totM
  exact gdSum (b := 4) (c := 20) (by decide) (fun t m => ⟨(h.fb t m).1, Nat.le_trans (h.fb t m).2 (by decide)⟩) (fun p => Nat.le_trans (cnt_le p _) h.fl) (by decide) (Nat.le_trans h.fl (by decide))
theorem gdNums {k : Nat} : ∀ {ns : List (List Tm)}, (∀ l ∈ ns, NumOk l) → GdA (k + 3) (1001 * ns.length) (ns.map nmD)
  | [], _ => .nil _ _
  | l :: ns, h => by
    have q : GdA (k + 3) (1000 + 1 + 1001 * ns.length) (nmD l :: ns.map nmD) := .cons (h l List.mem_cons_self).gd (gdNums fun s m => h s (List.mem_cons_of_mem _ m))
    rw [show 1001 * (l :: ns).length = 1000 + 1 + 1001 * ns.length by rw [List.length_cons]; omega]
    exact q
def dS (ns : List (List Tm)) (a b : List Tm) : PyData := .list [.list (ns.map nmD), nmD a, nmD b]
theorem gdS {ns : List (List Tm)} {a b : List Tm} (h : NumsOk ns) (ha : NumOk a) (hb : NumOk b) : Gd 5 10000 (dS ns a b) := by
  have q1 : Gd 4 (1001 * ns.length) (.list (ns.map nmD)) := .lst (gdNums fun l m => (h.dr l m).ok (by decide) (by decide))
  have q2 : Gd 4 (4004) (.list (ns.map nmD)) := by
    have e : 4004 = 1001 * ns.length + (4004 - 1001 * ns.length) := by have := h.len; omega
    rw [e]
    exact q1.up _
  have q : GdA 4 (4004 + 1 + (1000 + 1 + (1000 + 1 + 3993))) [.list (ns.map nmD), nmD a, nmD b] := .cons q2 (.cons (ha.gd (k := 1)) (.cons (hb.gd (k := 1)) (.nil _ _)))
  exact .lst q
/-- the second number where one is taken away from another one -/
theorem near_ok {a c : List Tm} (ha : Drawn 4 5 a) (hc : Drawn 4 5 c) : OkT 4000 (minM a ++ c) ∧ (minM a ++ c).length ≤ 10 ∧ NumOk (totM [minM a, c]) := by
  have hl : (minM a ++ c).length ≤ 10 := by
    have := ha.len
    have := hc.len
    rw [List.length_append, minM_len]
    omega
  have fb := fb_app (minM_fb ha.fb) hc.fb
  refine ⟨okT_len (b := 4) (n := 10) (by decide) (fun t m => (fb t m).1) hl (by decide) (by decide), hl, ?_⟩
  unfold totM
  rw [flat1]
  have cn : ∀ p, cnt p (minM a ++ c) ≤ 2 := fun p => by
    have h1 := cnt_nd (minM_wf ha.wf).nd p
    have h2 := cnt_nd hc.wf.nd p
    rw [cnt_append]
    omega
  refine ⟨numOf_wf fun t m => (fb t m).1.p, Nat.le_trans (numOf_len _) (Nat.le_trans (sumT_len _) (by omega)), fun t m => ⟨(numOf_fb (b := 4) (by decide) (fun t m => (fb t m).1) cn t m).mono (by decide), ?_⟩⟩
  obtain ⟨s, hs, e⟩ := List.mem_map.mp (sumT_sub _ _ (numOf_mem m).1)
  rw [← e]
  exact Nat.le_trans (fb s hs).2 (by decide)
theorem numOf_one (n : Int) (f : Fr) : numOf [(n, f)] = if f.1 = 0 then [] else [(n, f)] := by
  have e : sortI [n] = [n] := sortI_own (List.pairwise_singleton _ _)
  unfold numOf
  show (sortI [n]).filterMap (pickM [(n, f)]) = _
  rw [e]
  have p : pickM [(n, f)] n = if f.1 = 0 then none else some (n, f) := by
    unfold pickM
    show (match (if n = n then some f else none) with | some f => if f.1 = 0 then none else some (n, f) | none => none) = _
    rw [if_pos rfl]
  by_cases h : f.1 = 0
  · rw [if_pos h] at p ⊢
    rw [List.filterMap_cons_none p]
    rfl
  · rw [if_neg h] at p ⊢
    rw [List.filterMap_cons_some p]
    rfl
theorem gdLed {k : Nat} {a : List Tm} (h : NumOk a) : Gd (k + 2) 1000 (ledD a) := by
  cases a with
  | nil => exact .non _ _
  | cons t r =>
    have q := (h.fb t List.mem_cons_self).1.mono (show 30 ≤ 1900 by decide)
    exact .tup (GdA.cons (n := 0) (m := 999) (.int _ _ q.n) (.cons (n := 0) (m := 998) (.int _ _ q.d) (.nil _ _)))
theorem gdOrd {k : Nat} {a : List Tm} (h : NumOk a) : Gd k 1000 (orD (ordM a)) := by
  cases a with
  | nil => exact .non _ _
  | cons t r =>
    have q := (h.fb t List.mem_cons_self).2
    exact .int _ _ (Nat.lt_of_le_of_lt q (Nat.lt_of_lt_of_le (show 4000 < 2 ^ 12 by decide) (Nat.pow_le_pow_right (by decide) (by decide))))
end Vq
set_option maxHeartbeats 4000000
set_option exponentiation.threshold 20000
namespace Vq
open PySem PySem.Spec PyProof.Rows L2
/-! ### the least of orders, both ways -/
theorem lfold_from : ∀ (os : List (Option Int)) (a : Option Int), os.foldl lesM a = minO ((a :: os).filterMap id)
  | [], none => rfl
  | [], some i => rfl
  | y :: os, a => by
    show os.foldl lesM (lesM a y) = _
    rw [lfold_from os (lesM a y)]
    cases a with
    | none =>
      cases y with
      | none => rfl
      | some j => rfl
    | some i =>
      cases y with
      | none => rfl
      | some j =>
        show minO ((lesM (some i) (some j) :: os).filterMap id) = some ((os.filterMap id).foldl min (min i j))
        have e : lesM (some i) (some j) = some (min i j) := by
          unfold lesM naM
          by_cases h : i ≤ j
          · simp [h, Int.min_eq_left h]
          · have h' : j ≤ i := by omega
            simp [h, Int.min_eq_right h']
        rw [e]
        rfl
theorem leastM_eq (os : List (Option Int)) : lfold os = leastM os := by
  unfold lfold
  rw [lfold_from]
  rfl
theorem leastM_two (x y : Option Int) : leastM [x, y] = lesM x y := by
  rw [← leastM_eq]
  have h : ∀ z, lesM none z = z := fun z => by cases z <;> rfl
  show lesM (lesM none x) y = lesM x y
  rw [h]
/-- orders that are not too great -/
def SmO (o : Option Int) : Prop := ∀ i, o = some i → i.natAbs < 2 ^ 1000
theorem SmO.les {a b : Option Int} (ha : SmO a) (hb : SmO b) : SmO (lesM a b) := by
  unfold lesM
  split
  · exact ha
  · exact hb
theorem SmO.fold : ∀ (os : List (Option Int)) (a : Option Int), SmO a → (∀ o ∈ os, SmO o) → SmO (os.foldl lesM a)
  | [], _, ha, _ => ha
  | y :: os, a, ha, h => SmO.fold os _ (ha.les (h y List.mem_cons_self)) fun o m => h o (List.mem_cons_of_mem _ m)
theorem SmO.least {os : List (Option Int)} (h : ∀ o ∈ os, SmO o) : SmO (leastM os) := by
  rw [← leastM_eq]
  exact SmO.fold os none (fun i e => by cases e) h
theorem SmO.gd {o : Option Int} (h : SmO o) (k n : Nat) : Gd k n (orD o) := by
  cases o with
  | none => exact .non k n
  | some i => exact .int k n (Nat.lt_of_lt_of_le (h i rfl) (Nat.pow_le_pow_right (by decide) (by decide)))
theorem SmO.later {o : Option Int} {d : Int} (h : ∀ i, o = some i → i.natAbs < 2 ^ 999) (d1 : -60 ≤ d) (d2 : d ≤ 60) : SmO (laterM o d) := fun i e => by
  cases o with
  | none => cases e
  | some j =>
    have e' : j + d = i := Option.some.inj e
    have := h j rfl
    have p : (2 : Nat) ^ 1000 = 2 ^ 999 + 2 ^ 999 := by rw [show (1000 : Nat) = 999 + 1 from rfl, Nat.pow_succ, Nat.mul_two]
    have p2 : 60 < 2 ^ 999 := Nat.lt_of_lt_of_le (show 60 < 2 ^ 6 by decide) (Nat.pow_le_pow_right (by decide) (by decide))
    omega
theorem zipL_les (as bs : List (Option Int)) : zipL as bs = List.zipWith lesM as bs := by
  unfold zipL
  congr 1
  funext x y
  exact leastM_two x y
theorem GdA.ords {os : List (Option Int)} (h : ∀ o ∈ os, SmO o) (k : Nat) : GdA k os.length (os.map orD) := by
  induction os with
  | nil => exact .nil _ _
  | cons o r ih =>
    have q : GdA k (0 + 1 + r.length) (orD o :: r.map orD) := .cons ((h o List.mem_cons_self).gd k 0) (ih fun x m => h x (List.mem_cons_of_mem _ m))
    rw [show (o :: r).length = 0 + 1 + r.length by rw [List.length_cons]; omega]
    exact q
theorem ofE {H H' : Hp} {p : Addr} {o : HO} (e : upd H p o = H') (n : H p = none) : Same H H' ∧ H' p = some o := by
  subst e
  exact ⟨same_new n, upd_same⟩
section
variable {P : Program} {w : World} {K : PySem.W.Frag} {mg : Str → Option Value} {base : Heap}
def sp_judge : Sp := fun vs H Q _ => ∃ (g r : Addr), vs = [.ref g] ∧ BagAt g r H ∧ ∀ H', Stay g H H' → BagAt g r H' → Q (.bl true) H'
theorem ok_l_are_orders_right (M : Mg mg) (D : D1 K mg "_law_are_orders_right" s_l_are_orders_right ["_law_bag_here"])
    (c_l_some : C8.Cal P w K mg base (2) "_law_some" sp_some []) (c_l_delay : C8.Cal P w K mg base (3) "_law_delay" sp_delay [])
    (c_later : C8.Cal P w K mg base (1) "later" sp_later []) (c_l_later : C8.Cal P w K mg base (1) "_law_later" sp_later [])
    (c_not_above : C8.Cal P w K mg base (1) "not_above" sp_na []) (c_l_not_above : C8.Cal P w K mg base (1) "_law_not_above" sp_na [])
    (c_least_order : C8.Cal P w K mg base (1) "least_order" (sp_lo leastM) []) (c_l_least_order : C8.Cal P w K mg base (3) "_law_least_order" (sp_lo lfold) [])
    (c_least_items : C8.Cal P w K mg base (2) "least_items" sp_li []) (c_l_lesser : C8.Cal P w K mg base (2) "_law_lesser" sp_les [])
    (g_l_alike : GCal P w K mg base (1) "_law_alike" (sp_alike K)) : GCal P w K mg base (4) "_law_are_orders_right" sp_judge := by
  refine gcal_of D sc_l_are_orders_right (fun vs H Q E h => ?_) fun f cdv A outer s H vs Q E hG hr h => ?_
  · obtain ⟨g, r, rfl, _⟩ := h
    rfl
  · obtain ⟨g, r, rfl, B, q⟩ := h
    refine ⟨_, (pss_cons (ps_setLc (i := 1) (own := [("_law_k", 9)]) rfl sc_l_are_orders_right.nd rfl rfl (sw_true rfl rfl rfl (by decide +kernel)) (pi_range1 rfl M.range (pa_cons pe_int pa_nil)) (blkOk_by (own := [("_law_k", 9)]) (N := n_l_are_orders_right) (sc := defScope s_l_are_orders_right) (by decide +kernel)) (fun _ _ _ _ _ => (pg_name (i := 9) sc_l_are_orders_right.nd rfl (.inl rfl))) (fun _ _ _ _ _ => pts_nil) (fun _ _ _ _ _ => (C8.pe_c c_l_some hr (by decide) rfl (pa_cons (pv 0) (pa_cons (pe_lst (pa_cons pe_int (pa_cons pe_int (pa_cons (pe_un un_neg pe_int) (pa_cons pe_int (pa_cons pe_non (pa_cons (pe_op op_pow pe_int pe_int) pa_nil))))))) pa_nil)))))
      (pss_cons (ps_par3 rfl sc_l_are_orders_right.nd (i := 2) (j := 3) (l := 4) rfl rfl rfl (by decide) (by decide) (by decide) rfl rfl rfl (pa_cons (pe_ix (ixl K rfl) (pv 1) pe_int (fun _ _ => rfl)) (pa_cons (pe_ix (ixl K rfl) (pv 1) pe_int (fun _ _ => rfl)) (pa_cons (C8.pe_c c_l_delay hr (by decide) rfl (pa_cons (pv 0) pa_nil)) pa_nil))) (by rfl))
      (pss_cons (ps_set (i := 5) sc_l_are_orders_right.nd rfl (.inl rfl) (pe_lst (pa_cons (C8.pe_c c_later hr (by decide) rfl (pa_cons (pv 2) (pa_cons (pv 4) pa_nil))) (pa_cons (C8.pe_c c_not_above hr (by decide) rfl (pa_cons (pv 2) (pa_cons (pv 3) pa_nil))) (pa_cons (C8.pe_c c_not_above hr (by decide) rfl (pa_cons (pv 3) (pa_cons (pv 2) pa_nil))) (pa_cons (C8.pe_c c_least_order hr (by decide) rfl (pa_cons (pv 1) pa_nil)) pa_nil))))))
      (pss_cons (ps_set (i := 6) sc_l_are_orders_right.nd rfl (.inl rfl) (pe_lst (pa_cons (C8.pe_c c_l_later hr (by decide) rfl (pa_cons (pv 2) (pa_cons (pv 4) pa_nil))) (pa_cons (C8.pe_c c_l_not_above hr (by decide) rfl (pa_cons (pv 2) (pa_cons (pv 3) pa_nil))) (pa_cons (C8.pe_c c_l_not_above hr (by decide) rfl (pa_cons (pv 3) (pa_cons (pv 2) pa_nil))) pa_nil)))))
      (pss_cons (ps_set (i := 6) sc_l_are_orders_right.nd rfl (.inl rfl) (pe_op op_cat (pv 6) (pe_lst (pa_cons (C8.pe_c c_l_least_order hr (by decide) rfl (pa_cons (pv 1) pa_nil)) (pa_cons (C8.pe_c c_l_least_order hr (by decide) rfl (pa_cons (pe_slice sl_list (pv 1) (po_some pe_int) po_none) pa_nil)) pa_nil)))))
      (pss_cons (ps_par rfl sc_l_are_orders_right.nd (i := 7) (j := 8) rfl rfl (by decide) rfl rfl (pa_cons (pe_callTy call_tuple_of (by rfl) M.tuple (by decide +kernel) (pa_cons (pe_slice sl_list (pv 1) po_none (po_some pe_int)) pa_nil)) (pa_cons (pe_callTy call_tuple_of (by rfl) M.tuple (by decide +kernel) (pa_cons (pe_slice sl_list (pv 1) (po_some pe_int) po_none) pa_nil)) pa_nil)) (by rfl))
      (pss_cons (ps_set (i := 5) sc_l_are_orders_right.nd rfl (.inl rfl) (pe_op op_cat (pv 5) (pe_lst (pa_cons (C8.pe_c c_least_order hr (by decide) rfl (pa_cons (pe_callTy call_tuple_of (by rfl) M.tuple (by decide +kernel) (pa_cons (pe_slice sl_list (pv 1) (po_some pe_int) po_none) pa_nil)) pa_nil)) (pa_cons (C8.pe_c c_least_order hr (by decide) rfl (pa_cons (pe_lst pa_nil) pa_nil)) (pa_cons (C8.pe_c c_least_order hr (by decide) rfl (pa_cons (pe_tup pa_nil) pa_nil)) pa_nil))))))
      (C8.pss_cut (ps_set (i := 5) sc_l_are_orders_right.nd rfl (.inl rfl) (pe_op op_cat (pv 5) (pe_lst (pa_cons (C8.pe_c c_least_items hr (by decide) rfl (pa_cons (pv 7) (pa_cons (pv 8) pa_nil))) (pa_cons (C8.pe_c c_least_items hr (by decide) rfl (pa_cons (pe_tup pa_nil) (pa_cons (pe_tup pa_nil) pa_nil))) pa_nil)))))
      (pss_one (ps_ret (pe_gc hG g_l_alike hr (by decide) rfl (pa_cons (pv 5) (pa_cons (pe_op op_cat (pv 6) (pe_lst (pa_cons pe_non (pa_cons pe_non (pa_cons (pe_callTy call_tuple_of (by rfl) M.tuple (by decide +kernel) (pa_cons (pe_lc (own := [("_law_a", 10), ("_law_b", 11)]) rfl sc_l_are_orders_right.nd (RZ.pi_zipA (by rfl) M.zip (pa_cons (pv 7) (pa_cons (pv 8) pa_nil))) (blkOk_by (own := [("_law_a", 10), ("_law_b", 11)]) (N := n_l_are_orders_right) (sc := defScope s_l_are_orders_right) (by decide +kernel)) (fun _ _ _ _ _ => (pg_tupK K rfl (n := 2) rfl (pgs_cons (pg_name (i := 10) sc_l_are_orders_right.nd rfl (.inl rfl)) (pgs_cons (pg_name (i := 11) sc_l_are_orders_right.nd rfl (.inl rfl)) pgs_nil)))) (fun _ _ _ _ _ => pts_nil) (fun _ _ _ _ _ => (C8.pe_c c_l_lesser hr (by decide) rfl (pa_cons (pv 10) (pa_cons (pv 11) pa_nil))))) pa_nil)) (pa_cons (pe_tup pa_nil) pa_nil)))))) pa_nil))))))))))))), ?_⟩
    refine ⟨5, rfl, by decide, by decide, fun L nL => ?_⟩
    have nLg := B.ne nL
    have nLr := B.ner nL
    refine lc_range (lo := 0) (n := 5) (fun i H' => ∃ os : List (Option Int), Stay g H H' ∧ BagAt g r H' ∧ H' L = some (.lst (os.map ordV)) ∧ os.length = i ∧ ∀ o ∈ os, ∀ i, o = some i → i.natAbs < 2 ^ 999)
      ⟨[], .of (same_new nL), B.same (same_new nL), upd_same, rfl, fun o h => nomatch h⟩ (fun i H' hi ⟨os, st, B', hL, hl, hb⟩ => ?_) fun H0 ⟨os, st, B0, hL, hl, hb⟩ => ?_
    · refine ⟨rfl, ?_⟩
      refine ⟨_, rfl, _, rfl, 10, 30, rfl, rfl, ⟨by decide, by decide, by decide⟩, by show 6 ≤ sizeLine; decide, fun p np => ?_⟩
      refine ⟨g, r, p, ([some 0, some 1, some (-3), some 7, none, some (10 ^ (30 : Int).toNat)] : List (Option Int)).map ordV, rfl, B'.same (same_new np), upd_same, B'.ne np, by show 0 < 6; decide, by show 6 ≤ 1000; decide, fun x H1 hx st1 B1 => ?_⟩
      obtain ⟨o, ho, rfl⟩ := ords_mem hx
      have s01 : Stay g H' H1 := (Stay.of (same_new np)).trans st1
      refine ⟨os.map ordV, s01 _ _ hL nLg, by rw [List.length_map]; exact small5 (by omega), os ++ [o], stay_mut (st.trans s01) nL, B1.mut nLg.symm nLr, by rw [upd_same, List.map_append]; rfl, by rw [List.length_append, hl]; rfl, fun o' m => ?_⟩
      rcases List.mem_append.mp m with m | m
      · exact hb o' m
      · rw [List.mem_singleton.mp m]
        intro i e
        subst e
        have hh : i = 0 ∨ i = 1 ∨ i = -3 ∨ i = 7 ∨ i = 10 ^ (30 : Int).toNat := by simpa using ho
        have big : (2 : Nat) ^ 100 ≤ 2 ^ 999 := Nat.pow_le_pow_right (by decide) (by decide)
        rcases hh with rfl | rfl | rfl | rfl | rfl <;> exact Nat.lt_of_lt_of_le (by decide) big
    · obtain ⟨o0, o1, o2, o3, o4, rfl⟩ : ∃ o0 o1 o2 o3 o4, os = [o0, o1, o2, o3, o4] := by
        match os, hl with
        | [a, b, c, d, e], _ => exact ⟨a, b, c, d, e, rfl⟩
      have sm : ∀ o ∈ [o0, o1, o2, o3, o4], SmO o := fun o m i e => Nat.lt_of_lt_of_le (hb o m i e) (Nat.pow_le_pow_right (by decide) (by decide))
      -- one, other, delay
      refine ⟨_, rfl, _, _, _, _, rfl, rfl, SqL.of hL, rfl, _, rfl, _, _, _, _, rfl, rfl, SqL.of hL, rfl, _, rfl, g, r, rfl, B0, fun d H1 d1 d2 st1 B1 => ⟨_, _, _, rfl, ?_⟩⟩
      have hL1 : H1 L = some (.lst ([o0, o1, o2, o3, o4].map ordV)) := st1 _ _ hL nLg
      have stA := st.trans st1
      -- told
      refine ⟨_, rfl, _, rfl, o0, d, rfl, _, rfl, _, rfl, o0, o1, rfl, _, rfl, _, rfl, o1, o0, rfl, _, rfl, L, [o0, o1, o2, o3, o4], rfl, .inl hL1, by show 5 ≤ 5000; decide, fun H2 s2 => ⟨by show 4 ≤ sizeLine; decide, fun T1 nT1 => ?_⟩⟩
      generalize eq_H3 : upd _ T1 _ = H3
      obtain ⟨s3, hT1⟩ := ofE eq_H3 nT1
      -- due
      refine ⟨_, rfl, _, rfl, o0, d, rfl, _, rfl, _, rfl, o0, o1, rfl, _, rfl, _, rfl, o1, o0, rfl, by show 3 ≤ sizeLine; decide, fun U1 nU1 => ?_⟩
      generalize eq_H4 : upd _ U1 _ = H4
      obtain ⟨s4, hU1⟩ := ofE eq_H4 nU1
      have sL4 : Same H1 H4 := (s2.trans s3).trans s4
      -- due = due + [..]
      refine ⟨_, rfl, _, rfl, L, [o0, o1, o2, o3, o4], rfl, .inl (sL4 _ _ hL1), by show 5 ≤ 5000; decide, fun H5 s5 => ?_⟩
      have sL5 := sL4.trans s5
      refine ⟨_, rfl, 2, rfl, L, _, rfl, SqL.of (sL5 _ _ hL1), fun p1 np1 => ?_⟩
      generalize eq_H6 : upd _ p1 _ = H6
      obtain ⟨s6, hp1⟩ := ofE eq_H6 np1
      refine ⟨p1, [o2, o3, o4], rfl, .inl hp1, by show 3 ≤ 5000; decide, fun H7 s7 => ⟨by show 2 ≤ sizeLine; decide, fun p2 np2 => ?_⟩⟩
      generalize eq_H8 : upd _ p2 _ = H8
      obtain ⟨s8, hp2⟩ := ofE eq_H8 np2
      have s48 : Same H4 H8 := ((s5.trans s6).trans s7).trans s8
      refine ⟨U1, p2, _, _, rfl, rfl, s48 _ _ hU1, hp2, by show 3 + 2 ≤ sizeLine; decide, fun U2 nU2 => ?_⟩
      generalize eq_H9 : upd _ U2 _ = H9
      obtain ⟨s9, hU2⟩ := ofE eq_H9 nU2
      have sL9 : Same H1 H9 := (sL4.trans s48).trans s9
      -- left, right
      refine ⟨_, rfl, 3, rfl, L, _, rfl, SqL.of (sL9 _ _ hL1), fun p3 np3 => ?_⟩
      generalize eq_Ha : upd _ p3 _ = Ha
      obtain ⟨sa, hp3⟩ := ofE eq_Ha np3
      refine ⟨p3, _, rfl, .inl ⟨SqL.of hp3, fun lf nlf => ?_⟩⟩
      generalize eq_Hb : upd _ lf _ = Hb
      obtain ⟨sb, hlf⟩ := ofE eq_Hb nlf
      have sLb := (sL9.trans sa).trans sb
      refine ⟨_, rfl, 2, rfl, L, _, rfl, SqL.of (sLb _ _ hL1), fun p4 np4 => ?_⟩
      generalize eq_Hc : upd _ p4 _ = Hc
      obtain ⟨sc, hp4⟩ := ofE eq_Hc np4
      refine ⟨p4, _, rfl, .inl ⟨SqL.of hp4, fun rt nrt => ?_⟩⟩
      generalize eq_Hd : upd _ rt _ = Hd
      obtain ⟨sd, hrt⟩ := ofE eq_Hd nrt
      have sbd := sc.trans sd
      have sLd := sLb.trans sbd
      refine ⟨_, _, rfl, ?_⟩
      have hT1d : Hd T1 = some (.lst [ordV (laterM o0 d), .bl (naM o0 o1), .bl (naM o1 o0), ordV (leastM [o0, o1, o2, o3, o4])]) := (((((s4.trans s48).trans s9).trans sa).trans sb).trans sbd) _ _ hT1
      -- told = told + [..]
      refine ⟨_, rfl, _, rfl, 2, rfl, L, _, rfl, SqL.of (sLd _ _ hL1), fun p5 np5 => ?_⟩
      generalize eq_He : upd _ p5 _ = He
      obtain ⟨se, hp5⟩ := ofE eq_He np5
      refine ⟨p5, _, rfl, .inl ⟨SqL.of hp5, fun p6 np6 => ?_⟩⟩
      generalize eq_Hf : upd _ p6 _ = Hf
      obtain ⟨sf, hp6⟩ := ofE eq_Hf np6
      refine ⟨p6, [o2, o3, o4], rfl, .inr hp6, by show 3 ≤ 5000; decide, fun Hg sg => ?_⟩
      refine ⟨Nat.zero_le _, fun p7 np7 => ?_⟩
      generalize eq_Hh : upd _ p7 _ = Hh
      obtain ⟨sh, hp7⟩ := ofE eq_Hh np7
      refine ⟨p7, [], rfl, .inl hp7, by show 0 ≤ 5000; decide, fun Hi si => ?_⟩
      refine ⟨Nat.zero_le _, fun p8 np8 => ?_⟩
      generalize eq_Hj : upd _ p8 _ = Hj
      obtain ⟨sj, hp8⟩ := ofE eq_Hj np8
      refine ⟨p8, [], rfl, .inr hp8, by show 0 ≤ 5000; decide, fun Hk sk => ?_⟩
      refine ⟨by show 3 ≤ sizeLine; decide, fun p9 np9 => ?_⟩
      generalize eq_Hl : upd _ p9 _ = Hl
      obtain ⟨sl, hp9⟩ := ofE eq_Hl np9
      have sdl : Same Hd Hl := (((((((se.trans sf).trans sg).trans sh).trans si).trans sj).trans sk).trans sl)
      refine ⟨T1, p9, _, _, rfl, rfl, sdl _ _ hT1d, hp9, by show 4 + 3 ≤ sizeLine; decide, fun T2 nT2 => ?_⟩
      generalize eq_Hm : upd _ T2 _ = Hm
      obtain ⟨sm2, hT2⟩ := ofE eq_Hm nT2
      have sdm := sdl.trans sm2
      have hlfm : Hm lf = some (.tup ([o0, o1, o2].map ordV)) := (sbd.trans sdm) _ _ hlf
      have hrtm : Hm rt = some (.tup ([o2, o3, o4].map ordV)) := sdm _ _ hrt
      have hT2m := hT2
      have hlfd := sbd _ _ hlf
      have hU2d : Hd U2 = some (.lst ([ordV (laterM o0 d), .bl (naM o0 o1), .bl (naM o1 o0)] ++ [ordV (lfold [o0, o1, o2, o3, o4]), ordV (lfold [o2, o3, o4])])) := ((sa.trans sb).trans sbd) _ _ hU2
      refine ⟨fun σ' H' => ∃ T3 v1 v2, σ' = [some (.ref g), some (.ref L), some (ordV o0), some (ordV o1), some (.int d), some (.ref T3), some (.ref U2), some (.ref lf), some (.ref rt), none, none, none] ∧ Same Hd H' ∧
        H' T3 = some (.lst [ordV (laterM o0 d), .bl (naM o0 o1), .bl (naM o1 o0), ordV (leastM [o0, o1, o2, o3, o4]), ordV (leastM [o2, o3, o4]), .non, .non, v1, v2]) ∧ Dt H' v1 (.tuple ((zipL [o0, o1, o2] [o2, o3, o4]).map orD)) ∧ Dt H' v2 (.tuple []), ?_, ?_⟩
      · -- told = told + [..]
        refine ⟨_, rfl, _, rfl, _, rfl, lf, rt, [o0, o1, o2], [o2, o3, o4], rfl, hlfm, hrtm, rfl, by show 3 ≤ 1000; decide, fun v1 Hn sn hv1 => ?_⟩
        refine ⟨Nat.zero_le _, fun q1 nq1 => ?_⟩
        generalize eq_Ho : upd _ q1 _ = Ho
        obtain ⟨so, hq1⟩ := ofE eq_Ho nq1
        refine ⟨Nat.zero_le _, fun q2 nq2 => ?_⟩
        generalize eq_Hp1 : upd _ q2 _ = Hp1
        obtain ⟨sp1, hq2⟩ := ofE eq_Hp1 nq2
        refine ⟨q1, q2, [], [], rfl, sp1 _ _ hq1, hq2, rfl, by show 0 ≤ 1000; decide, fun v2 Hq sq hv2 => ⟨by show 2 ≤ sizeLine; decide, fun q3 nq3 => ?_⟩⟩
        generalize eq_Hr : upd _ q3 _ = Hr
        obtain ⟨sr, hq3⟩ := ofE eq_Hr nq3
        have snr : Same Hn Hr := ((so.trans sp1).trans sq).trans sr
        have smr := sn.trans snr
        refine ⟨T2, q3, _, _, rfl, rfl, smr _ _ hT2, hq3, by show 7 + 2 ≤ sizeLine; decide, fun T3 nT3 => ?_⟩
        generalize eq_Hs : upd _ T3 _ = Hs
        obtain ⟨ss, hT3⟩ := ofE eq_Hs nT3
        exact ⟨T3, v1, v2, rfl, (sdm.trans smr).trans ss, hT3, hv1.soft (Same.soft (snr.trans ss)), hv2.soft (Same.soft (sr.trans ss))⟩
      rintro σ' Hs ⟨T3, v1, v2, rfl, sds, hT3, hv1, hv2⟩
      have hlfs := sds _ _ hlfd
      have hrts := sds _ _ hrt
      have hU2s := sds _ _ hU2d
      -- alike(told, due + [..])
      refine ⟨_, rfl, _, rfl, ?_⟩
      refine ⟨_, rfl, _, rfl, lf, rt, _, _, rfl, .inr ⟨SqT.of hlfs, SqT.of hrts, ?_⟩⟩
      refine fun Z nZ => lc_zipT (K := K) (a := lf) (b := rt) (xs := [o0, o1, o2].map ordV) (ys := [o2, o3, o4].map ordV) rfl (fun i H' => ∃ acc, Same Hs H' ∧ H' Z = some (.lst acc) ∧ acc = (List.zipWith lesM ([o0, o1, o2].take i) ([o2, o3, o4].take i)).map ordV ∧ acc.length ≤ i)
        ⟨[], same_new nZ, upd_same, rfl, Nat.le_refl _⟩ (fun i H' ⟨_, z, _⟩ => ⟨SqT.of (z _ _ hlfs), SqT.of (z _ _ hrts)⟩) (fun i x y T H' hi hj ⟨acc, z, hZ, e, hz⟩ hT => ?_) fun Ht ⟨acc, z, hZ, e, hz⟩ => ?_
      · obtain ⟨x, hx, rfl⟩ := mapO hi
        obtain ⟨y, hy, rfl⟩ := mapO hj
        have hil : i < 3 := (List.getElem?_eq_some_iff.mp hx).1
        have nZT : Z ≠ T := ne_of_none hZ hT
        have hZT : (upd H' T (.tup [ordV x, ordV y])) Z = some (.lst acc) := by rw [upd_ne nZT]; exact hZ
        have ex : acc ++ [ordV (lesM x y)] = (List.zipWith lesM ([o0, o1, o2].take (i + 1)) ([o2, o3, o4].take (i + 1))).map ordV := by
          rw [e, List.take_add_one (i := i), List.take_add_one (i := i), hx, hy]
          show _ = (List.zipWith lesM (_ ++ [x]) (_ ++ [y])).map ordV
          rw [List.zipWith_append (by rw [List.length_take, List.length_take]; rfl), List.map_append]
          rfl
        have el : (acc ++ [ordV (lesM x y)]).length ≤ i + 1 := by rw [List.length_append]; show acc.length + 1 ≤ i + 1; omega
        refine ⟨T, _, rfl, SqT.of upd_same, rfl, _, _, rfl, _, _, rfl, rfl, rfl, ?_⟩
        exact ⟨_, rfl, _, rfl, x, y, rfl, acc, hZT, small5 (by omega), _, same_mut (z.trans (same_new hT)) nZ, upd_same, ex, el⟩
      · have e' : acc = (List.zipWith lesM [o0, o1, o2] [o2, o3, o4]).map ordV := e
        refine ⟨Z, acc, rfl, .inl ⟨SqL.of hZ, fun r1 nr1 => ?_⟩⟩
        generalize eq_Hu : upd _ r1 _ = Hu
        obtain ⟨su, hr1⟩ := ofE eq_Hu nr1
        refine ⟨Nat.zero_le _, fun r2 nr2 => ?_⟩
        generalize eq_Hv : upd _ r2 _ = Hv
        obtain ⟨sv, hr2⟩ := ofE eq_Hv nr2
        refine ⟨by show 4 ≤ sizeLine; decide, fun r3 nr3 => ?_⟩
        generalize eq_Hw : upd _ r3 _ = Hw
        obtain ⟨sw, hr3⟩ := ofE eq_Hw nr3
        have ssw : Same Hs Hw := ((z.trans su).trans sv).trans sw
        refine ⟨U2, r3, _, _, rfl, rfl, ssw _ _ hU2s, hr3, by show 5 + 4 ≤ sizeLine; decide, fun U3 nU3 => ?_⟩
        generalize eq_Hx : upd _ U3 _ = Hx
        obtain ⟨sx, hU3⟩ := ofE eq_Hx nU3
        have ssx := ssw.trans sx
        have soft := Same.soft ssx
        -- both are the same data
        have w1 : DtA Hx [ordV (laterM o0 d), .bl (naM o0 o1), .bl (naM o1 o0), ordV (leastM [o0, o1, o2, o3, o4]), ordV (leastM [o2, o3, o4]), .non, .non, v1, v2]
            [orD (laterM o0 d), .bool (naM o0 o1), .bool (naM o1 o0), orD (leastM [o0, o1, o2, o3, o4]), orD (leastM [o2, o3, o4]), .none, .none, .tuple ((zipL [o0, o1, o2] [o2, o3, o4]).map orD), .tuple []] :=
          .cons (Dt.ord _) (.cons (.bl _) (.cons (.bl _) (.cons (Dt.ord _) (.cons (Dt.ord _) (.cons .non (.cons .non (.cons (hv1.soft soft) (.one (hv2.soft soft)))))))))
        have w2 : DtA Hx [ordV (laterM o0 d), .bl (naM o0 o1), .bl (naM o1 o0), ordV (lfold [o0, o1, o2, o3, o4]), ordV (lfold [o2, o3, o4]), .non, .non, .ref r1, .ref r2]
            [orD (laterM o0 d), .bool (naM o0 o1), .bool (naM o1 o0), orD (leastM [o0, o1, o2, o3, o4]), orD (leastM [o2, o3, o4]), .none, .none, .tuple ((zipL [o0, o1, o2] [o2, o3, o4]).map orD), .tuple []] := by
          rw [leastM_eq, leastM_eq, zipL_les]
          have x1 : Hx r1 = some (.tup acc) := ((sv.trans sw).trans sx) _ _ hr1
          have x2 : Hx r2 = some (.tup []) := (sw.trans sx) _ _ hr2
          refine .cons (Dt.ord _) (.cons (.bl _) (.cons (.bl _) (.cons (Dt.ord _) (.cons (Dt.ord _) (.cons .non (.cons .non (.cons (.tup x1 ?_) (.one (.tup x2 .nil)))))))))
          rw [e']
          exact DtA.ords _
        have gg : Gd 4 100 (.list [orD (laterM o0 d), .bool (naM o0 o1), .bool (naM o1 o0), orD (leastM [o0, o1, o2, o3, o4]), orD (leastM [o2, o3, o4]), .none, .none, .tuple ((zipL [o0, o1, o2] [o2, o3, o4]).map orD), .tuple []]) := by
          have sm3 : ∀ o ∈ [o2, o3, o4], SmO o := fun o m => sm o (List.mem_cons_of_mem _ (List.mem_cons_of_mem _ m))
          have smz : ∀ o ∈ zipL [o0, o1, o2] [o2, o3, o4], SmO o := fun o m => by
            rw [zipL_les] at m
            have h0 := sm o0 (by simp)
            have h1 := sm o1 (by simp)
            have h2 := sm o2 (by simp)
            have h3 := sm o3 (by simp)
            have h4 := sm o4 (by simp)
            have m' : o = lesM o0 o2 ∨ o = lesM o1 o3 ∨ o = lesM o2 o4 := by simpa using m
            rcases m' with rfl | rfl | rfl
            · exact h0.les h2
            · exact h1.les h3
            · exact h2.les h4
          refine .lst (k := 3) (GdA.cons (n := 0) (m := 99) ((SmO.later (hb o0 (by simp)) d1 d2).gd 3 0) (.cons (n := 0) (m := 98) (.bl 3 0 _) (.cons (n := 0) (m := 97) (.bl 3 0 _) (.cons (n := 0) (m := 96) ((SmO.least sm).gd 3 0) (.cons (n := 0) (m := 95) ((SmO.least sm3).gd 3 0)
            (.cons (n := 0) (m := 94) (.non 3 0) (.cons (n := 0) (m := 93) (.non 3 0) (.cons (n := 3) (m := 89) (.tup (GdA.ords smz 2)) (.cons (n := 0) (m := 88) (.tup (.nil 2 0)) (.nil 3 88))))))))))
        have hT3x : Hx T3 = some (.lst [ordV (laterM o0 d), .bl (naM o0 o1), .bl (naM o1 o0), ordV (leastM [o0, o1, o2, o3, o4]), ordV (leastM [o2, o3, o4]), .non, .non, v1, v2]) := ssx _ _ hT3
        refine ⟨T3, U3, _, 4, 100, rfl, .lst (SqL.of hT3x) w1.dp, .lst (SqL.of hU3) w2.dp, gg, by decide, by decide, ?_⟩
        have fin : Same H1 Hx := (sLd.trans sds).trans ssx
        exact q _ (stA.trans (.of fin)) (B1.same fin)
end
end Vq
set_option maxHeartbeats 4000000
set_option exponentiation.threshold 20000
namespace Vq
open PySem PySem.Spec PyProof.Rows L2
/-- what stands while the sums are judged -/
structure Cx2 (g r L : Addr) (xs : List V) (ns : List (List Tm)) (u1 u2 : V) (a b : List Tm) (H H' : Hp) : Prop where
  st : Stay g H H'
  bag : BagAt g r H'
  hL : H' L = some (.lst xs)
  ne : L ≠ g
  dn : DtA H' xs (ns.map nmD)
  d1 : Dt H' u1 (nmD a)
  d2 : Dt H' u2 (nmD b)
theorem Cx2.stay {g r L : Addr} {xs : List V} {ns : List (List Tm)} {u1 u2 : V} {a b : List Tm} {H H1 H2 : Hp} (C : Cx2 g r L xs ns u1 u2 a b H H1) (s : Stay g H1 H2) (B : BagAt g r H2) : Cx2 g r L xs ns u1 u2 a b H H2 :=
  ⟨C.st.trans s, B, s _ _ C.hL C.ne, C.ne, C.dn.soft (C.bag.soft s), C.d1.soft (C.bag.soft s), C.d2.soft (C.bag.soft s)⟩
theorem Cx2.same {g r L : Addr} {xs : List V} {ns : List (List Tm)} {u1 u2 : V} {a b : List Tm} {H H1 H2 : Hp} (C : Cx2 g r L xs ns u1 u2 a b H H1) (s : Same H1 H2) : Cx2 g r L xs ns u1 u2 a b H H2 :=
  C.stay (.of s) (C.bag.same s)
/-- a list of data at T -/
structure LsAt (g T : Addr) (ts : List V) (ds : List PyData) (H : Hp) : Prop where
  h : H T = some (.lst ts)
  ne : T ≠ g
  d : DtA H ts ds
theorem LsAt.stay {g r T : Addr} {ts : List V} {ds : List PyData} {H1 H2 : Hp} (C : LsAt g T ts ds H1) (s : Stay g H1 H2) (B : BagAt g r H1) : LsAt g T ts ds H2 := ⟨s _ _ C.h C.ne, C.ne, C.d.soft (B.soft s)⟩
theorem LsAt.same {g T : Addr} {ts : List V} {ds : List PyData} {H1 H2 : Hp} (C : LsAt g T ts ds H1) (s : Same H1 H2) : LsAt g T ts ds H2 := ⟨s _ _ C.h, C.ne, C.d.soft (Same.soft s)⟩
theorem Cx2.dS {K : PySem.W.Frag} {g r L p : Addr} {xs : List V} {ns : List (List Tm)} {u1 u2 : V} {a b : List Tm} {H H' : Hp} (C : Cx2 g r L xs ns u1 u2 a b H H') (hp : H' p = some (.lst [.ref L, u1, u2])) : Dp K H' (.ref p) (dS ns a b) :=
  .lst (SqL.of hp) (.cons (.lst (SqL.of C.hL) C.dn.dp) (.cons C.d1.dp (.cons C.d2.dp .nil)))
/-- the first six, and the others -/
def ds6 (ns : List (List Tm)) (a b : List Tm) : List PyData := [nmD (totM ns), nmD (totM ns), nmD (totM [a, minM b]), nmD (totM [a, b]), nmD (timM a b), nmD []]
def ds4 (a : List Tm) (n : Int) (f : Fr) : List PyData := [nmD (numOf [(n, f)]), orD (ordM a), ledD a, nmD []]
theorem mulT_nil (a : List Tm) : mulT a [] = [] := by
  unfold mulT
  induction a with
  | nil => rfl
  | cons t r ih => rw [List.flatMap_cons]; exact ih
theorem gd10 {ns : List (List Tm)} {a b : List Tm} {n : Int} {f : Fr} (h : NumsOk ns) (ha : NumOk a) (hb : NumOk b) (hn : n.natAbs ≤ 4000) (hf : FB 30 f) : Gd 5 12000 (.list (ds6 ns a b ++ ds4 a n f)) := by
  have q1 : Gd 4 1000 (nmD (numOf [(n, f)])) := by
    rw [numOf_one]
    split
    · exact .tup (.nil _ _)
    · refine gdNum (k := 1) (fun t m => ?_) (by show 1 ≤ 200; decide)
      rw [List.mem_singleton.mp m]
      exact ⟨hf.mono (by decide), Nat.le_trans hn (by decide)⟩
  have q2 : Gd 4 1000 (nmD []) := .tup (.nil _ _)
  refine .lst (k := 4) ?_
  exact GdA.cons (n := 1000) (m := 10999) (h.gdT (k := 1)) (.cons (n := 1000) (m := 9998) (h.gdT (k := 1)) (.cons (n := 1000) (m := 8997) (ha.gdCat (k := 1) hb.min) (.cons (n := 1000) (m := 7996) (ha.gdCat (k := 1) hb) (.cons (n := 1000) (m := 6995) (ha.gdMul (k := 1) hb)
    (.cons (n := 1000) (m := 5994) q2 (.cons (n := 1000) (m := 4993) q1 (.cons (n := 1000) (m := 3992) (gdOrd ha) (.cons (n := 1000) (m := 2991) (gdLed (k := 2) ha) (.cons (n := 1000) (m := 1990) q2 (.nil _ _))))))))))
/-- ((power, factor),) if factor[0] != 0 else () -/
theorem due_term {K : PySem.W.Frag} {x0 x1 x2 x3 x4 x5 x6 x9 : Option V} {n : Int} {u : V} {f : Fr} {H : Hp} {Q : VK} (hu : Dt H u (frD f)) (q : Gives H (nmD (numOf [(n, f)])) Q) :
    tIf (tTest (tOp rNe (tOp (rIxT K) (tVar 8) (tC (V.int 0))) (tC (V.int 0)))) (tTup (tCons (tTup (tCons (tVar 7) (tCons (tVar 8) tNil))) tNil)) (tTup tNil)
      [x0, x1, x2, x3, x4, x5, x6, some (.int n), some u, x9] H Q := by
  obtain ⟨a, rfl, ha⟩ := id hu.fr
  refine ⟨_, rfl, _, _, _, _, rfl, rfl, SqT.of ha, rfl, rfl, ?_⟩
  refine ⟨_, rfl, ?_⟩
  rw [numOf_one] at q
  by_cases e0 : f.1 = 0
  · have eb : (!decide (V.int f.1 = V.int 0)) = false := by simp [e0]
    rw [eb]
    rw [if_pos e0] at q
    refine ⟨Nat.zero_le _, fun p np => ?_⟩
    exact q _ _ (same_new np) (.tup upd_same .nil)
  · have eb : (!decide (V.int f.1 = V.int 0)) = true := by simp [e0]
    rw [eb]
    rw [if_neg e0] at q
    refine ⟨_, rfl, _, rfl, by show 2 ≤ sizeLine; decide, fun p np => ?_⟩
    refine ⟨by show 1 ≤ sizeLine; decide, fun p2 np2 => ?_⟩
    have s1 := same_new (o := .tup [.int n, .ref a]) np
    have s2 := same_new (o := .tup [.ref p]) np2
    refine q _ _ (s1.trans s2) (.tup upd_same (.one ?_))
    exact Dt.soft (Same.soft s2) (Dt.mkTm upd_same (hu.soft (Same.soft s1)))
/-- one[0][1] if one != () else None -/
theorem due_led {K K' : PySem.W.Frag} {x0 x1 x3 x4 x5 x6 x7 x8 x9 : Option V} {u : V} {a : List Tm} {H : Hp} {Q : VK} (hu : Dt H u (nmD a)) (q : Gives H (ledD a) Q) :
    tIf (tTest (tOp (rNeD K') (tVar 2) (tTup tNil))) (tOp (rIxT K) (tOp (rIxT K) (tVar 2) (tC (V.int 0))) (tC (V.int 1))) (tC V.non)
      [x0, x1, some u, x3, x4, x5, x6, x7, x8, x9] H Q := by
  obtain ⟨p0, xs, rfl, ha, hx⟩ := id hu.nm
  refine ⟨_, rfl, Nat.zero_le _, fun p hp => ?_⟩
  have s1 : Same H (upd H p (.tup [])) := same_new hp
  refine ⟨_, _, (hu.soft (Same.soft s1)).dp, (Dt.tup upd_same .nil).dp, nm_shaped a, nm_shaped [], _, rfl, ?_⟩
  cases a with
  | nil => exact q _ _ s1 .non
  | cons t r =>
    cases hx with
    | cons h1 h2 =>
      obtain ⟨b, u, rfl, hb, hu⟩ := h1.tm
      exact ⟨_, rfl, _, _, _, _, rfl, rfl, SqT.of (s1 _ _ ha), atI_nat (j := 0) rfl, _, _, _, _, rfl, rfl, SqT.of (s1 _ _ hb), rfl, q _ _ s1 (hu.soft (Same.soft s1))⟩
section
variable {P : Program} {w : World} {K : PySem.W.Frag} {mg : Str → Option Value} {base : Heap}
theorem ok_l_are_sums_right (M : Mg mg) (D : D1 K mg "_law_are_sums_right" s_l_are_sums_right ["_law_bag_here"])
    (c_l_some : C8.Cal P w K mg base (2) "_law_some" sp_some []) (c_l_take : C8.Cal P w K mg base (1) "_law_take" sp_take []) (c_l_factor : C8.Cal P w K mg base (3) "_law_factor" sp_factor [])
    (c_l_any_number : C8.Cal P w K mg base (5) "_law_any_number" (sp_draw 4 5) []) (c_l_great_number : C8.Cal P w K mg base (3) "_law_great_number" (sp_draw 30 12) [])
    (c_l_minus : C8.Cal P w K mg base (1) "_law_minus" sp_min []) (c_l_total : C8.Cal P w K mg base (4) "_law_total" sp_totL []) (c_l_times : C8.Cal P w K mg base (4) "_law_times" sp_tim [])
    (c_l_less : C8.Cal P w K mg base (5) "_law_less" sp_lessL []) (c_l_order_of : C8.Cal P w K mg base (1) "_law_order_of" sp_ordS [])
    (c_total : C8.Cal P w K mg base (3) "total" sp_tot []) (c_less : C8.Cal P w K mg base (4) "less" sp_less []) (c_times : C8.Cal P w K mg base (3) "times" sp_tim []) (c_term : C8.Cal P w K mg base (2) "term" sp_term [])
    (c_order_of : C8.Cal P w K mg base (1) "order_of" sp_ord []) (c_leading_of : C8.Cal P w K mg base (1) "leading_of" sp_led [])
    (c_not_above : C8.Cal P w K mg base (1) "not_above" sp_na []) (c_least_order : C8.Cal P w K mg base (1) "least_order" (sp_lo leastM) [])
    (g_l_alike : GCal P w K mg base (1) "_law_alike" (sp_alike K)) : GCal P w K mg base (6) "_law_are_sums_right" sp_judge := by
  refine gcal_of D sc_l_are_sums_right (fun vs H Q E h => ?_) fun f cdv A outer s H vs Q E hG hr h => ?_
  · obtain ⟨g, r, rfl, _⟩ := h
    rfl
  · obtain ⟨g, r, rfl, B, q⟩ := h
    have hu64 := hr.units
    refine ⟨_, (C8.pss_cut (ps_setLc (i := 1) (own := [("_law_k", 9)]) rfl sc_l_are_sums_right.nd rfl rfl (sw_true rfl rfl rfl (by decide +kernel)) (pi_range1 rfl M.range (pa_cons (C8.pe_c c_l_some hr (by decide) rfl (pa_cons (pv 0) (pa_cons (pe_lst (pa_cons pe_int (pa_cons pe_int (pa_cons pe_int (pa_cons pe_int pa_nil))))) pa_nil))) pa_nil)) (blkOk_by (own := [("_law_k", 9)]) (N := n_l_are_sums_right) (sc := defScope s_l_are_sums_right) (by decide +kernel)) (fun _ _ _ _ _ => (pg_name (i := 9) sc_l_are_sums_right.nd rfl (.inl rfl))) (fun _ _ _ _ _ => pts_nil) (fun _ _ _ _ _ => (C8.pe_c c_l_any_number hr (by decide) rfl (pa_cons (pv 0) pa_nil))))
      (C8.pss_cut (ps_par rfl sc_l_are_sums_right.nd (i := 2) (j := 3) rfl rfl (by decide) rfl rfl (pa_cons (C8.pe_c c_l_any_number hr (by decide) rfl (pa_cons (pv 0) pa_nil)) (pa_cons (C8.pe_c c_l_any_number hr (by decide) rfl (pa_cons (pv 0) pa_nil)) pa_nil)) (by rfl))
      (C8.pss_cut (ps_if (pt_cmpR op_eq (C8.pe_c c_l_take hr (by decide) rfl (pa_cons (pv 0) (pa_cons pe_int pa_nil))) pe_int (nomark _)) (pss_one (ps_par rfl sc_l_are_sums_right.nd (i := 2) (j := 3) rfl rfl (by decide) rfl rfl (pa_cons (C8.pe_c c_l_great_number hr (by decide) rfl (pa_cons (pv 0) pa_nil)) (pa_cons (C8.pe_c c_l_great_number hr (by decide) rfl (pa_cons (pv 0) pa_nil)) pa_nil)) (by rfl))) (pss_one (ps_if (pt_cmpR op_eq (C8.pe_c c_l_take hr (by decide) rfl (pa_cons (pv 0) (pa_cons pe_int pa_nil))) pe_int (nomark _)) (pss_one (ps_set (i := 3) sc_l_are_sums_right.nd rfl (.inl rfl) (C8.pe_c c_l_total hr (by decide) rfl (pa_cons (pe_lst (pa_cons (C8.pe_c c_l_minus hr (by decide) rfl (pa_cons (pv 2) pa_nil)) (pa_cons (C8.pe_c c_l_any_number hr (by decide) rfl (pa_cons (pv 0) pa_nil)) pa_nil))) pa_nil)))) pss_nil)))
      (C8.pss_cut (ps_set (i := 4) sc_l_are_sums_right.nd rfl (.inl rfl) (pe_callB (cr_show hG hu64) (by rfl) M.repr (by decide +kernel) (pa_cons (pe_lst (pa_cons (pv 1) (pa_cons (pv 2) (pa_cons (pv 3) pa_nil)))) pa_nil)))
      (C8.pss_cut (ps_set (i := 5) sc_l_are_sums_right.nd rfl (.inl rfl) (pe_lst (pa_cons (C8.pe_c c_total hr (by decide) rfl (pa_cons (pv 1) pa_nil)) (pa_cons (C8.pe_c c_total hr (by decide) rfl (pa_cons (pe_callTy call_tuple_of (by rfl) M.tuple (by decide +kernel) (pa_cons (pv 1) pa_nil)) pa_nil)) (pa_cons (C8.pe_c c_less hr (by decide) rfl (pa_cons (pv 2) (pa_cons (pv 3) pa_nil))) (pa_cons (C8.pe_c c_total hr (by decide) rfl (pa_cons (pe_lst (pa_cons (pv 2) (pa_cons (pv 3) pa_nil))) pa_nil)) (pa_cons (C8.pe_c c_times hr (by decide) rfl (pa_cons (pv 2) (pa_cons (pv 3) pa_nil))) (pa_cons (C8.pe_c c_less hr (by decide) rfl (pa_cons (pv 2) (pa_cons (pv 2) pa_nil))) pa_nil))))))))
      (C8.pss_cut (ps_set (i := 6) sc_l_are_sums_right.nd rfl (.inl rfl) (pe_lst (pa_cons (C8.pe_c c_l_total hr (by decide) rfl (pa_cons (pv 1) pa_nil)) (pa_cons (C8.pe_c c_l_total hr (by decide) rfl (pa_cons (pv 1) pa_nil)) (pa_cons (C8.pe_c c_l_less hr (by decide) rfl (pa_cons (pv 2) (pa_cons (pv 3) pa_nil))) (pa_cons (C8.pe_c c_l_total hr (by decide) rfl (pa_cons (pe_lst (pa_cons (pv 2) (pa_cons (pv 3) pa_nil))) pa_nil)) pa_nil))))))
      (C8.pss_cut (ps_set (i := 6) sc_l_are_sums_right.nd rfl (.inl rfl) (pe_op op_cat (pv 6) (pe_lst (pa_cons (C8.pe_c c_l_times hr (by decide) rfl (pa_cons (pv 2) (pa_cons (pv 3) pa_nil))) (pa_cons (pe_tup pa_nil) pa_nil)))))
      (C8.pss_cut (ps_par rfl sc_l_are_sums_right.nd (i := 7) (j := 8) rfl rfl (by decide) rfl rfl (pa_cons (C8.pe_c c_l_some hr (by decide) rfl (pa_cons (pv 0) (pa_cons (pe_lst (pa_cons pe_int (pa_cons pe_int (pa_cons (pe_un un_neg pe_int) (pa_cons pe_int pa_nil))))) pa_nil))) (pa_cons (C8.pe_c c_l_some hr (by decide) rfl (pa_cons (pv 0) (pa_cons (pe_lst (pa_cons (pe_tup (pa_cons pe_int (pa_cons pe_int pa_nil))) (pa_cons (C8.pe_c c_l_factor hr (by decide) rfl (pa_cons (pv 0) pa_nil)) pa_nil))) pa_nil))) pa_nil)) (by rfl))
      (C8.pss_cut (ps_set (i := 5) sc_l_are_sums_right.nd rfl (.inl rfl) (pe_op op_cat (pv 5) (pe_lst (pa_cons (C8.pe_c c_term hr (by decide) rfl (pa_cons (pv 7) (pa_cons (pv 8) pa_nil))) (pa_cons (C8.pe_c c_order_of hr (by decide) rfl (pa_cons (pv 2) pa_nil)) (pa_cons (C8.pe_c c_leading_of hr (by decide) rfl (pa_cons (pv 2) pa_nil)) (pa_cons (C8.pe_c c_times hr (by decide) rfl (pa_cons (pv 2) (pa_cons (pe_tup pa_nil) pa_nil))) pa_nil)))))))
      (C8.pss_cut (ps_set (i := 6) sc_l_are_sums_right.nd rfl (.inl rfl) (pe_op op_cat (pv 6) (pe_lst (pa_cons (pe_ifExp (pt_cmpR op_ne (pe_ix (ixt K rfl) (pv 8) pe_int (fun _ _ => rfl)) pe_int (nomark _)) (pe_tup (pa_cons (pe_tup (pa_cons (pv 7) (pa_cons (pv 8) pa_nil))) pa_nil)) (pe_tup pa_nil)) (pa_cons (C8.pe_c c_l_order_of hr (by decide) rfl (pa_cons (pv 2) pa_nil)) (pa_cons (pe_ifExp (pt_cmpR (op_neD hr.units) (pv 2) (pe_tup pa_nil) (nomark _)) (pe_ix (ixt K rfl) (pe_ix (ixt K rfl) (pv 2) pe_int (fun _ _ => rfl)) pe_int (fun _ _ => rfl)) pe_non) (pa_cons (pe_tup pa_nil) pa_nil)))))))
      (C8.pss_cut (ps_if (pt_bool (pw_or (pt_not (pt_val (pe_gc hG g_l_alike hr (by decide) rfl (pa_cons (pv 5) (pa_cons (pv 6) pa_nil))))) (pw_or1 (pt_cmpR op_ne (pe_callB (cr_show hG hu64) (by rfl) M.repr (by decide +kernel) (pa_cons (pe_lst (pa_cons (pv 1) (pa_cons (pv 2) (pa_cons (pv 3) pa_nil)))) pa_nil)) (pv 4) (nomark _))))) (pss_one (ps_ret pe_bl)) pss_nil)
      (C8.pss_cut (ps_if (pt_not (pt_val (C8.pe_c c_not_above hr (by decide) rfl (pa_cons (C8.pe_c c_least_order hr (by decide) rfl (pa_cons (pe_lst (pa_cons (C8.pe_c c_order_of hr (by decide) rfl (pa_cons (pv 2) pa_nil)) (pa_cons (C8.pe_c c_order_of hr (by decide) rfl (pa_cons (pv 3) pa_nil)) pa_nil))) pa_nil)) (pa_cons (C8.pe_c c_order_of hr (by decide) rfl (pa_cons (C8.pe_c c_total hr (by decide) rfl (pa_cons (pe_lst (pa_cons (pv 2) (pa_cons (pv 3) pa_nil))) pa_nil)) pa_nil)) pa_nil))))) (pss_one (ps_ret pe_bl)) pss_nil)
      (pss_one (ps_ret (pe_or (pe_cmpR (op_eqD hr.units) (pv 2) (pe_tup pa_nil) (nomark _)) (pe_or (pe_cmpR (op_eqD hr.units) (pv 3) (pe_tup pa_nil) (nomark _)) (pe_one (pe_cmpR op_eq (C8.pe_c c_order_of hr (by decide) rfl (pa_cons (C8.pe_c c_times hr (by decide) rfl (pa_cons (pv 2) (pa_cons (pv 3) pa_nil))) pa_nil)) (pe_op op_add (C8.pe_c c_order_of hr (by decide) rfl (pa_cons (pv 2) pa_nil)) (C8.pe_c c_order_of hr (by decide) rfl (pa_cons (pv 3) pa_nil))) (nomark _))))))))))))))))))), ?_⟩
    -- some_here
    refine ⟨fun σ' H' => ∃ L xs ns, σ' = [some (.ref g), some (.ref L), none, none, none, none, none, none, none, none] ∧ Stay g H H' ∧ BagAt g r H' ∧ H' L = some (.lst xs) ∧ L ≠ g ∧ DtA H' xs (ns.map nmD) ∧ NumsOk ns, ?_, ?_⟩
    · refine ⟨_, rfl, by show 4 ≤ sizeLine; decide, fun p np => ?_⟩
      refine ⟨g, r, p, ([0, 1, 2, 4] : List Int).map V.int, rfl, B.same (same_new np), upd_same, B.ne np, by decide, by decide, fun x H1 hx st1 B1 => ?_⟩
      obtain ⟨j, hj, rfl⟩ := ints_mem hx
      have hj' : ∀ j ∈ ([0, 1, 2, 4] : List Int), 0 ≤ j ∧ j ≤ 4 := by decide
      obtain ⟨j0, j4⟩ := hj' j hj
      have sA : Stay g H H1 := (Stay.of (same_new np)).trans st1
      refine ⟨j, rfl, by omega, by omega, fun L nL => ?_⟩
      have nLg := B1.ne nL
      have nLr := B1.ner nL
      refine lc_range (lo := 0) (n := j.toNat) (fun i H' => ∃ xs ns, Stay g H1 H' ∧ BagAt g r H' ∧ H' L = some (.lst xs) ∧ DtA H' xs (ns.map nmD) ∧ ns.length = i ∧ ∀ l ∈ ns, Drawn 4 5 l)
        ⟨[], [], .of (same_new nL), B1.same (same_new nL), upd_same, .nil, rfl, fun l h => nomatch h⟩ (fun i H' hi ⟨xs, ns, st, B', hL, hd, hl, hb⟩ => ?_) fun H' ⟨xs, ns, st, B', hL, hd, hl, hb⟩ => ?_
      · refine ⟨rfl, ?_⟩
        refine ⟨_, rfl, g, r, rfl, B', fun v l H2 dr hv st2 B2 => ?_⟩
        have hL2 := st2 _ _ hL nLg
        have lx := hd.len
        rw [List.length_map] at lx
        have sf : Soft H2 (upd H2 L (.lst (xs ++ [v]))) := soft_lst hL2
        refine ⟨xs, hL2, small5 (by omega), xs ++ [v], ns ++ [l], stay_mut (st.trans st2) nL, B2.mut nLg.symm nLr, upd_same, ?_, by rw [List.length_append, hl]; rfl, fun l' m => ?_⟩
        · rw [List.map_append]
          exact ((hd.soft (B'.soft st2)).soft sf).append (.one (hv.soft sf))
        · rcases List.mem_append.mp m with m | m
          · exact hb l' m
          · rw [List.mem_singleton.mp m]; exact dr
      · exact ⟨L, xs, ns, rfl, sA.trans st, B', hL, nLg, hd, by omega, hb⟩
    rintro _ H1 ⟨L, xs, ns, rfl, st1, B1, hL1, nLg, hd1, okn⟩
    -- one, other
    refine ⟨fun σ' H' => ∃ u1 u2 a b, σ' = [some (.ref g), some (.ref L), some u1, some u2, none, none, none, none, none, none] ∧ Cx2 g r L xs ns u1 u2 a b H H' ∧ Drawn 4 5 a ∧ Drawn 4 5 b, ?_, ?_⟩
    · refine ⟨_, rfl, g, r, rfl, B1, fun u1 a H2 da hu1 st2 B2 => ?_⟩
      refine ⟨_, rfl, g, r, rfl, B2, fun u2 b H3 db hu2 st3 B3 => ⟨_, _, rfl, ?_⟩⟩
      have s13 := st2.trans st3
      exact ⟨u1, u2, a, b, rfl, ⟨st1.trans s13, B3, s13 _ _ hL1 nLg, nLg, hd1.soft (B1.soft s13), hu1.soft (B2.soft st3), hu2⟩, da, db⟩
    rintro _ H2 ⟨u1, u2, a, b, rfl, C2, da, db⟩
    -- others
    refine ⟨fun σ' H' => ∃ u1 u2 a b, σ' = [some (.ref g), some (.ref L), some u1, some u2, none, none, none, none, none, none] ∧ Cx2 g r L xs ns u1 u2 a b H H' ∧ NumOk a ∧ NumOk b, ?_, ?_⟩
    · refine ⟨_, rfl, g, r, 6, rfl, C2.bag, by decide, by decide, fun j H3 j0 j6 st3 B3 => ⟨rfl, _, rfl, ite2 (fun _ => ?_) (fun _ => ?_)⟩⟩
      · have C3 := C2.stay st3 B3
        refine ⟨_, rfl, g, r, rfl, B3, fun v1 l1 H4 d4 hv1 st4 B4 => ?_⟩
        refine ⟨_, rfl, g, r, rfl, B4, fun v2 l2 H5 d5 hv2 st5 B5 => ⟨_, _, rfl, ?_⟩⟩
        have C5 := C3.stay (st4.trans st5) B5
        exact ⟨v1, v2, l1, l2, rfl, ⟨C5.st, B5, C5.hL, C5.ne, C5.dn, hv1.soft (B4.soft st5), hv2⟩, d4.ok (by decide) (by decide), d5.ok (by decide) (by decide)⟩
      · have C3 := C2.stay st3 B3
        refine ⟨_, rfl, g, r, 2, rfl, B3, by decide, by decide, fun j H4 j0 j6 st4 B4 => ⟨rfl, _, rfl, ite2 (fun _ => ?_) (fun _ => ?_)⟩⟩
        · have C4 := C3.stay st4 B4
          refine ⟨_, rfl, _, a, rfl, C4.d1, Nat.le_trans da.len (by decide), fun v1 H5 s5 hv1 => ?_⟩
          have C5 := C4.same s5
          refine ⟨_, rfl, g, r, rfl, C5.bag, fun v2 c H6 dc hv2 st6 B6 => ⟨by show 2 ≤ sizeLine; decide, fun p np => ?_⟩⟩
          have C6 := C5.stay st6 B6
          have s7 := same_new (o := .lst [v1, v2]) np
          obtain ⟨k1, k2, k3⟩ := near_ok da dc
          refine ⟨p, [v1, v2], [minM a, c], rfl, upd_same, .cons ((hv1.soft (C5.bag.soft st6)).soft (Same.soft s7)) (.one (hv2.soft (Same.soft s7))), by rw [flat1]; exact k1, by rw [flat1]; omega, fun v H7 s8 hv => ?_⟩
          have C7 := (C6.same s7).same s8
          exact ⟨u1, v, a, totM [minM a, c], rfl, ⟨C7.st, C7.bag, C7.hL, C7.ne, C7.dn, C7.d1, hv⟩, da.ok (by decide) (by decide), k3⟩
        · exact ⟨u1, u2, a, b, rfl, C3.stay st4 B4, da.ok (by decide) (by decide), db.ok (by decide) (by decide)⟩
    clear C2 da db u1 u2 a b
    rintro _ H3 ⟨u1, u2, a, b, rfl, C3, oka, okb⟩
    have gS := gdS okn oka okb
    -- shown
    refine ⟨fun σ' H' => σ' = [some (.ref g), some (.ref L), some u1, some u2, some (.str (dS ns a b).shown), none, none, none, none, none] ∧ Cx2 g r L xs ns u1 u2 a b H H', ?_, ?_⟩
    · refine ⟨_, rfl, _, rfl, _, rfl, by show 3 ≤ sizeLine; decide, fun p np => ?_⟩
      have C4 := C3.same (same_new (o := .lst [.ref L, u1, u2]) np)
      exact ⟨_, dS ns a b, 5, 10000, rfl, C4.dS upd_same, gS, by decide, by decide, ⟨p, rfl⟩, rfl, C4⟩
    clear C3
    rintro _ H4 ⟨rfl, C4⟩
    obtain ⟨okab, lab⟩ := oka.cat okb
    obtain ⟨okm, lm⟩ := oka.cat okb.min
    obtain ⟨okx, lx⟩ := oka.mul okb
    have f4 := okb.f4
    -- told
    refine ⟨fun σ' H' => ∃ T ts, σ' = [some (.ref g), some (.ref L), some u1, some u2, some (.str (dS ns a b).shown), some (.ref T), none, none, none, none] ∧ Cx2 g r L xs ns u1 u2 a b H H' ∧ LsAt g T ts (ds6 ns a b) H', ?_, ?_⟩
    · refine ⟨_, rfl, L, xs, ns, rfl, .inl C4.hL, C4.dn, okn.okT, Nat.le_trans okn.fl (by decide), fun v1 Ha sa hv1 => ?_⟩
      have Ca := C4.same sa
      refine ⟨_, rfl, L, xs, rfl, .inl ⟨SqL.of Ca.hL, fun p np => ?_⟩⟩
      have Cb := Ca.same (same_new (o := .tup xs) np)
      refine ⟨p, xs, ns, rfl, .inr upd_same, Cb.dn, okn.okT, Nat.le_trans okn.fl (by decide), fun v2 Hc sc hv2 => ?_⟩
      have Cc := Cb.same sc
      refine ⟨_, rfl, _, rfl, u1, u2, a, b, rfl, Cc.d1, Cc.d2, f4, by rw [mulT_neg okb.wf]; exact okb.min.one.1, by rw [mulT_neg okb.wf]; exact Nat.le_trans okb.min.one.2 (by decide), by rw [timM_neg okb.wf]; exact okm, by rw [timM_neg okb.wf]; omega, fun v3 Hd sd hv3 => ?_⟩
      rw [timM_neg okb.wf] at hv3
      have Cd := Cc.same sd
      refine ⟨_, rfl, _, rfl, by show 2 ≤ sizeLine; decide, fun p2 np2 => ?_⟩
      have Ce := Cd.same (same_new (o := .lst [u1, u2]) np2)
      refine ⟨p2, [u1, u2], [a, b], rfl, .inl upd_same, .cons Ce.d1 (.one Ce.d2), by rw [flat1]; exact okab, by rw [flat1]; omega, fun v4 Hf sf hv4 => ?_⟩
      have Cf := Ce.same sf
      refine ⟨_, rfl, _, rfl, u1, u2, a, b, rfl, Cf.d1, Cf.d2, oka.f4, okb.f4, okx, by omega, fun v5 Hg sg hv5 => ?_⟩
      have Cg := Cf.same sg
      obtain ⟨oks, ls⟩ := oka.cat oka.min
      refine ⟨_, rfl, _, rfl, u1, u1, a, a, rfl, Cg.d1, Cg.d1, oka.f4, by rw [mulT_neg oka.wf]; exact oka.min.one.1, by rw [mulT_neg oka.wf]; exact Nat.le_trans oka.min.one.2 (by decide), by rw [timM_neg oka.wf]; exact oks, by rw [timM_neg oka.wf]; omega, fun v6 Hh sh hv6 => ?_⟩
      rw [timM_neg oka.wf, less_self oka.wf] at hv6
      have Ch := Cg.same sh
      refine ⟨by show 6 ≤ sizeLine; decide, fun T nT => ?_⟩
      have sT := same_new (o := .lst [v1, v2, v3, v4, v5, v6]) nT
      have e3 : Same Hd (upd Hh T (.lst [v1, v2, v3, v4, v5, v6])) := ((((same_new np2).trans sf).trans sg).trans sh).trans sT
      have e2 := sd.trans e3
      refine ⟨T, _, rfl, Ch.same sT, upd_same, Ch.bag.ne nT, ?_⟩
      exact .cons (hv1.soft (Same.soft (((same_new np).trans sc).trans e2))) (.cons (hv2.soft (Same.soft e2)) (.cons (hv3.soft (Same.soft e3)) (.cons (hv4.soft (Same.soft ((sg.trans sh).trans sT))) (.cons (hv5.soft (Same.soft (sh.trans sT))) (.one (hv6.soft (Same.soft sT)))))))
    clear C4
    rintro _ H5 ⟨T, ts, rfl, C5, hT5⟩
    -- due
    refine ⟨fun σ' H' => ∃ U us, σ' = [some (.ref g), some (.ref L), some u1, some u2, some (.str (dS ns a b).shown), some (.ref T), some (.ref U), none, none, none] ∧ Cx2 g r L xs ns u1 u2 a b H H' ∧ LsAt g T ts (ds6 ns a b) H' ∧ LsAt g U us [nmD (totM ns), nmD (totM ns), nmD (totM [a, minM b]), nmD (totM [a, b])] H', ?_, ?_⟩
    · refine ⟨_, rfl, L, xs, ns, rfl, C5.hL, C5.dn, okn.okT, Nat.le_trans okn.fl (by decide), fun v1 Ha sa hv1 => ?_⟩
      have Ca := C5.same sa
      refine ⟨_, rfl, L, xs, ns, rfl, Ca.hL, Ca.dn, okn.okT, Nat.le_trans okn.fl (by decide), fun v2 Hb sb hv2 => ?_⟩
      have Cb := Ca.same sb
      refine ⟨_, rfl, _, rfl, u1, u2, a, b, rfl, Cb.d1, Cb.d2, Nat.le_trans okb.len (by decide), okm, by omega, fun v3 Hc sc hv3 => ?_⟩
      have Cc := Cb.same sc
      refine ⟨_, rfl, _, rfl, by show 2 ≤ sizeLine; decide, fun p np => ?_⟩
      have sp := same_new (o := .lst [u1, u2]) np
      have Cd := Cc.same sp
      refine ⟨p, [u1, u2], [a, b], rfl, upd_same, .cons Cd.d1 (.one Cd.d2), by rw [flat1]; exact okab, by rw [flat1]; omega, fun v4 He se hv4 => ?_⟩
      have Ce := Cd.same se
      refine ⟨by show 4 ≤ sizeLine; decide, fun U nU => ?_⟩
      have sU := same_new (o := .lst [v1, v2, v3, v4]) nU
      have e3 : Same Hc (upd He U (.lst [v1, v2, v3, v4])) := (sp.trans se).trans sU
      have e2 := sc.trans e3
      have e1 := sb.trans e2
      exact ⟨U, _, rfl, Ce.same sU, hT5.same (sa.trans e1), upd_same, Ce.bag.ne nU, .cons (hv1.soft (Same.soft e1)) (.cons (hv2.soft (Same.soft e2)) (.cons (hv3.soft (Same.soft e3)) (.one (hv4.soft (Same.soft sU)))))⟩
    clear C5 hT5
    rintro _ H6 ⟨U, us, rfl, C6, hT6, hU6⟩
    -- due = due + [..]
    refine ⟨fun σ' H' => ∃ U us, σ' = [some (.ref g), some (.ref L), some u1, some u2, some (.str (dS ns a b).shown), some (.ref T), some (.ref U), none, none, none] ∧ Cx2 g r L xs ns u1 u2 a b H H' ∧ LsAt g T ts (ds6 ns a b) H' ∧ LsAt g U us (ds6 ns a b) H', ?_, ?_⟩
    · refine ⟨_, rfl, _, rfl, _, rfl, u1, u2, a, b, rfl, C6.d1, C6.d2, oka.f4, okb.f4, okx, by omega, fun v5 Ha sa hv5 => ?_⟩
      refine ⟨Nat.zero_le _, fun q nq => ?_⟩
      have sq := same_new (o := .tup []) nq
      refine ⟨by show 2 ≤ sizeLine; decide, fun p np => ?_⟩
      have sp := same_new (o := .lst [v5, .ref q]) np
      have s1 := (sa.trans sq).trans sp
      have lu := hU6.d.len
      refine ⟨U, p, us, _, rfl, rfl, s1 _ _ hU6.h, upd_same, by rw [lu]; show 4 + 2 ≤ sizeLine; decide, fun U2 nU => ?_⟩
      have sU := same_new (o := .lst (us ++ [v5, .ref q])) nU
      have C7 := (C6.same s1).same sU
      refine ⟨U2, _, rfl, C7, (hT6.same s1).same sU, upd_same, (C6.same s1).bag.ne nU, ?_⟩
      exact ((hU6.same s1).same sU).d.append (.cons (hv5.soft (Same.soft ((sq.trans sp).trans sU))) (.one (.tup ((sp.trans sU) _ _ upd_same) .nil)))
    clear C6 hT6 hU6 us U
    rintro _ H7 ⟨U, us, rfl, C7, hT7, hU7⟩
    -- power, factor
    refine ⟨fun σ' H' => ∃ n u f, σ' = [some (.ref g), some (.ref L), some u1, some u2, some (.str (dS ns a b).shown), some (.ref T), some (.ref U), some (.int n), some u, none] ∧ Cx2 g r L xs ns u1 u2 a b H H' ∧ LsAt g T ts (ds6 ns a b) H' ∧ LsAt g U us (ds6 ns a b) H' ∧ n.natAbs ≤ 4000 ∧ FB 30 f ∧ Dt H' u (frD f), ?_, ?_⟩
    · refine ⟨_, rfl, _, rfl, by show 4 ≤ sizeLine; decide, fun p np => ?_⟩
      have B7 := C7.bag.same (same_new (o := .lst (([0, 3, -7, 150] : List Int).map V.int)) np)
      refine ⟨g, r, p, ([0, 3, -7, 150] : List Int).map V.int, rfl, B7, upd_same, C7.bag.ne np, by decide, by decide, fun x Ha hx sa Ba => ?_⟩
      obtain ⟨n, hn, rfl⟩ := ints_mem hx
      have hn' : ∀ j ∈ ([0, 3, -7, 150] : List Int), j.natAbs ≤ 4000 := by decide
      have s1 : Stay g H7 Ha := (Stay.of (same_new np)).trans sa
      refine ⟨_, rfl, ?_⟩
      refine ⟨by show 2 ≤ sizeLine; decide, fun p1 np1 => ?_⟩
      have C8a := C7.stay s1 Ba
      have s2 := same_new (o := .tup [.int 0, .int 1]) np1
      have C8b := C8a.same s2
      refine ⟨_, rfl, g, r, rfl, C8b.bag, fun v f Hb wf hf hv sb Bb => ?_⟩
      refine ⟨by show 2 ≤ sizeLine; decide, fun p2 np2 => ?_⟩
      have s3 := same_new (o := .lst [.ref p1, v]) np2
      have Cc := (C8b.stay sb Bb).same s3
      refine ⟨g, r, p2, [.ref p1, v], rfl, Cc.bag, upd_same, Bb.ne np2, by show 0 < 2; decide, by show 2 ≤ 1000; decide, fun x Hd hx2 sd Bd => ⟨_, _, rfl, ?_⟩⟩
      have Cd := Cc.stay sd Bd
      have sall : Stay g H7 Hd := ((s1.trans (.of s2)).trans sb).trans ((Stay.of s3).trans sd)
      have x1 : Dt Hb (.ref p1) (frD (0, 1)) := by
        have h0 : (upd Ha p1 (.tup [.int 0, .int 1])) p1 = some (.tup [.int 0, .int 1]) := upd_same
        exact .tup (sb _ _ h0 (C8a.bag.ne np1)) (.cons (.int _) (.one (.int _)))
      obtain ⟨f', h1, h2⟩ : ∃ f', FB 30 f' ∧ Dt Hd x (frD f') := by
        rcases List.mem_cons.mp hx2 with e | e
        · exact ⟨(0, 1), ⟨by decide, by decide, by decide⟩, by rw [e]; exact (x1.soft (Same.soft s3)).soft (Cc.bag.soft sd)⟩
        · exact ⟨f, hf.mono (by decide), by rw [List.mem_singleton.mp e]; exact (hv.soft (Same.soft s3)).soft (Cc.bag.soft sd)⟩
      exact ⟨n, x, f', rfl, Cd, hT7.stay sall C7.bag, hU7.stay sall C7.bag, hn' n hn, h1, h2⟩
    clear C7 hT7 hU7
    rintro _ H8 ⟨n, u, f, rfl, C8', hT8, hU8, hn, hf, hu⟩
    -- told = told + [..]
    refine ⟨fun σ' H' => ∃ T ts, σ' = [some (.ref g), some (.ref L), some u1, some u2, some (.str (dS ns a b).shown), some (.ref T), some (.ref U), some (.int n), some u, none] ∧ Cx2 g r L xs ns u1 u2 a b H H' ∧ LsAt g T ts (ds6 ns a b ++ ds4 a n f) H' ∧ LsAt g U us (ds6 ns a b) H' ∧ Dt H' u (frD f), ?_, ?_⟩
    · refine ⟨_, rfl, _, rfl, _, rfl, n, u, f, rfl, hu, fun v1 Ha sa hv1 => ?_⟩
      have Ca := C8'.same sa
      refine ⟨_, rfl, u1, a, rfl, Ca.d1, ?_⟩
      refine ⟨_, rfl, u1, a, rfl, Ca.d1, fun v3 Hb sb hv3 => ?_⟩
      have Cb := Ca.same sb
      refine ⟨_, rfl, Nat.zero_le _, fun q nq => ?_⟩
      have sq := same_new (o := .tup []) nq
      have Cq := Cb.same sq
      refine ⟨u1, .ref q, a, [], rfl, Cq.d1, .tup upd_same .nil, oka.f4, (fun t m => nomatch m), ?_, ?_, fun v4 Hc sc hv4 => ?_⟩
      · rw [mulT_nil]
        exact okT_len (b := 30) (n := 0) (by decide) (fun t m => nomatch m) (by decide) (by decide) (by decide)
      · rw [mulT_nil]
        decide
      refine ⟨by show 4 ≤ sizeLine; decide, fun p np => ?_⟩
      have e4 : timM a [] = [] := by
        unfold timM
        rw [mulT_nil]
        show (sortI []).filterMap (pickM []) = []
        rw [sortI_own List.Pairwise.nil]
        rfl
      rw [e4] at hv4
      have sp := same_new (o := .lst [v1, ordV (ordM a), v3, v4]) np
      have s1 := (((sa.trans sb).trans sq).trans sc).trans sp
      have lt := hT8.d.len
      refine ⟨T, p, ts, _, rfl, rfl, s1 _ _ hT8.h, upd_same, by rw [lt]; show 6 + 4 ≤ sizeLine; decide, fun T2 nT => ?_⟩
      have sT := same_new (o := .lst (ts ++ [v1, ordV (ordM a), v3, v4])) nT
      have s2 := s1.trans sT
      refine ⟨T2, _, rfl, C8'.same s2, ⟨upd_same, (C8'.same s1).bag.ne nT, ?_⟩, hU8.same s2, hu.soft (Same.soft s2)⟩
      exact (hT8.same s2).d.append (.cons (hv1.soft (Same.soft ((((sb.trans sq).trans sc).trans sp).trans sT))) (.cons (Dt.ord _) (.cons (hv3.soft (Same.soft (((sq.trans sc).trans sp).trans sT))) (.one (hv4.soft (Same.soft (sp.trans sT)))))))
    clear C8' hT8 hU8 hu ts T
    rintro _ H9 ⟨T, ts, rfl, C9, hT9, hU9, hu⟩
    -- due = due + [..]
    refine ⟨fun σ' H' => ∃ U us, σ' = [some (.ref g), some (.ref L), some u1, some u2, some (.str (dS ns a b).shown), some (.ref T), some (.ref U), some (.int n), some u, none] ∧ Cx2 g r L xs ns u1 u2 a b H H' ∧ LsAt g T ts (ds6 ns a b ++ ds4 a n f) H' ∧ LsAt g U us (ds6 ns a b ++ ds4 a n f) H', ?_, ?_⟩
    · refine ⟨_, rfl, ?_⟩
      refine due_term hu fun v1 Ha sa hv1 => ?_
      have Ca := C9.same sa
      refine ⟨_, rfl, u1, a, rfl, Ca.d1, fun Hb sb => ?_⟩
      have Cb := Ca.same sb
      refine due_led Cb.d1 fun v3 Hc sc hv3 => ?_
      refine ⟨Nat.zero_le _, fun q nq => ?_⟩
      have sq := same_new (o := .tup []) nq
      refine ⟨by show 4 ≤ sizeLine; decide, fun p np => ?_⟩
      have sp := same_new (o := .lst [v1, ordV (ordM a), v3, .ref q]) np
      have s1 := (((sa.trans sb).trans sc).trans sq).trans sp
      have lu := hU9.d.len
      refine ⟨U, p, us, _, rfl, rfl, s1 _ _ hU9.h, upd_same, by rw [lu]; show 6 + 4 ≤ sizeLine; decide, fun U2 nU => ?_⟩
      have sU := same_new (o := .lst (us ++ [v1, ordV (ordM a), v3, .ref q])) nU
      have s2 := s1.trans sU
      refine ⟨U2, _, rfl, C9.same s2, hT9.same s2, ⟨upd_same, (C9.same s1).bag.ne nU, ?_⟩⟩
      exact (hU9.same s2).d.append (.cons (hv1.soft (Same.soft ((((sb.trans sc).trans sq).trans sp).trans sU))) (.cons (Dt.ord _) (.cons (hv3.soft (Same.soft ((sq.trans sp).trans sU))) (.one (.tup ((sp.trans sU) _ _ upd_same) .nil)))))
    clear C9 hT9 hU9 hu us U
    rintro _ Ha ⟨U, us, rfl, Ca, hTa, hUa⟩
    have gg := gd10 okn oka okb hn hf
    -- if not alike(told, due) or repr(..) != shown
    refine ⟨fun σ' H' => σ' = [some (.ref g), some (.ref L), some u1, some u2, some (.str (dS ns a b).shown), some (.ref T), some (.ref U), some (.int n), some u, none] ∧ Cx2 g r L xs ns u1 u2 a b H H', ?_, ?_⟩
    · refine ⟨_, rfl, _, rfl, T, U, .list (ds6 ns a b ++ ds4 a n f), 5, 12000, rfl, .lst (SqL.of hTa.h) hTa.d.dp, .lst (SqL.of hUa.h) hUa.d.dp, gg, by decide, by decide, _, rfl, ?_⟩
      refine ⟨_, rfl, _, rfl, _, rfl, by show 3 ≤ sizeLine; decide, fun p np => ?_⟩
      have Cb := Ca.same (same_new (o := .lst [.ref L, u1, u2]) np)
      refine ⟨_, dS ns a b, 5, 10000, rfl, Cb.dS upd_same, gS, by decide, by decide, ⟨p, rfl⟩, _, rfl, rfl, _, rfl, ?_⟩
      have e : (!decide (V.str (dS ns a b).shown = V.str (dS ns a b).shown)) = false := by simp
      rw [e]
      exact ⟨rfl, Cb⟩
    clear Ca hTa hUa gg
    rintro _ Hb ⟨rfl, Cb⟩
    -- if not not_above(least_order(..), order_of(total(..)))
    refine ⟨fun σ' H' => σ' = [some (.ref g), some (.ref L), some u1, some u2, some (.str (dS ns a b).shown), some (.ref T), some (.ref U), some (.int n), some u, none] ∧ Cx2 g r L xs ns u1 u2 a b H H', ?_, ?_⟩
    · refine ⟨_, rfl, u1, a, rfl, Cb.d1, _, rfl, u2, b, rfl, Cb.d2, by show 2 ≤ sizeLine; decide, fun p np => ?_⟩
      have Cc := Cb.same (same_new (o := .lst [ordV (ordM a), ordV (ordM b)]) np)
      refine ⟨p, [ordM a, ordM b], rfl, .inl upd_same, by show 2 ≤ 5000; decide, fun Hd sd => ?_⟩
      have Cd := Cc.same sd
      refine ⟨_, rfl, _, rfl, by show 2 ≤ sizeLine; decide, fun p2 np2 => ?_⟩
      have Ce := Cd.same (same_new (o := .lst [u1, u2]) np2)
      refine ⟨p2, [u1, u2], [a, b], rfl, .inl upd_same, .cons Ce.d1 (.one Ce.d2), by rw [flat1]; exact okab, by rw [flat1]; omega, fun v Hf sf hv => ?_⟩
      refine ⟨v, totM [a, b], rfl, hv, leastM [ordM a, ordM b], ordM (totM [a, b]), rfl, _, rfl, ?_⟩
      rw [ord_total oka.wf okb.wf]
      exact ⟨rfl, Ce.same sf⟩
    clear Cb
    rintro _ Hc ⟨rfl, Cc⟩
    -- return
    refine ⟨_, rfl, Nat.zero_le _, fun p np => ?_⟩
    have sp := same_new (o := .tup []) np
    have Cd := Cc.same sp
    refine ⟨_, _, Cd.d1.dp, (Dt.tup upd_same .nil).dp, nm_shaped a, nm_shaped [], _, rfl, ?_⟩
    cases a with
    | nil => exact q _ Cd.st Cd.bag
    | cons t a =>
      refine ⟨_, rfl, Nat.zero_le _, fun p2 np2 => ?_⟩
      have Ce := Cd.same (same_new (o := .tup []) np2)
      refine ⟨_, _, Ce.d2.dp, (Dt.tup upd_same .nil).dp, nm_shaped b, nm_shaped [], _, rfl, ?_⟩
      cases b with
      | nil => exact q _ Ce.st Ce.bag
      | cons t2 b =>
        refine ⟨_, rfl, _, rfl, u1, u2, _, _, rfl, Ce.d1, Ce.d2, oka.f4, okb.f4, okx, by omega, fun v Hf sf hv => ?_⟩
        have Cf := Ce.same sf
        refine ⟨v, _, rfl, hv, _, rfl, u1, _, rfl, Cf.d1, _, rfl, u2, _, rfl, Cf.d2, _, _, rfl, rfl, ?_⟩
        rw [ord_times oka.wf okb.wf]
        refine ⟨rfl, ?_⟩
        rw [show decide (ordV (some (t.1 + t2.1)) = V.int (t.1 + t2.1)) = true from decide_eq_true rfl]
        exact q _ Cf.st Cf.bag
end
end Vq
set_option maxHeartbeats 4000000
set_option exponentiation.threshold 20000
namespace Vq
open PySem PySem.Spec PyProof.Rows L2
section
variable {P : Program} {w : World} {K : PySem.W.Frag} {mg : Str → Option Value} {base : Heap}
def sp_law (K : PySem.W.Frag) : Sp := fun vs H Q _ => ∃ (a : Addr) (ns : List Int), vs = [.ref a] ∧ SqL K H a (ns.map V.int) ∧ ns.length ≤ 63 ∧ ∀ H', Q (.bl true) H'
theorem ok_law {f : Addr} {fd : FuncData} (M : Mg mg) (F : L2.Fun K "law" "law" s_law f fd) (c_l_bag : C8.Cal P w K mg base (1) "_law_bag" (sp_bag K) [])
    (g_l_are_orders_right : GCal P w K mg base (4) "_law_are_orders_right" sp_judge) (g_l_are_sums_right : GCal P w K mg base (6) "_law_are_sums_right" sp_judge) :
    GFn P w K mg base (7) f fd ["_law_script"] (sp_law K) := by
  refine gfn_of F sc_law (fun vs H Q E h => ?_) fun cdv A outer s H vs Q E hG hr h => ?_
  · obtain ⟨a, ns, rfl, _⟩ := h
    rfl
  · obtain ⟨a, ns, rfl, hS, hlen, q⟩ := h
    refine ⟨_, (pss_cons (ps_set (i := 1) sc_law.nd rfl (.inl rfl) (C8.pe_c c_l_bag hr (by decide) rfl (pa_cons (pv 0) pa_nil)))
      (pss_cons (ps_for PassesOwn.never rfl (pi_range1 rfl M.range (pa_cons pe_int pa_nil)) (pg_name (i := 2) sc_law.nd rfl (.inl rfl)) (pss_one (ps_if (pt_bool (pw_or (pt_not (pt_val (pe_gc hG g_l_are_orders_right hr (by decide) rfl (pa_cons (pv 1) pa_nil)))) (pw_or1 (pt_not (pt_val (pe_gc hG g_l_are_sums_right hr (by decide) rfl (pa_cons (pv 1) pa_nil))))))) (pss_one (ps_ret pe_bl)) pss_nil)))
      (pss_one (ps_ret pe_bl)))), ?_⟩
    refine ⟨_, rfl, a, ns, rfl, hS, hlen, fun g r H1 s1 ng B1 => ?_⟩
    refine ⟨6, rfl, by decide, by decide, for_range (lo := 0) (n := 6) (fun i σ H' => ∃ yt, σ = [some (.ref a), some (.ref g), yt] ∧ BagAt g r H') ⟨none, rfl, B1⟩ ?_ ?_⟩
    · rintro i σ H' hi ⟨yt, rfl, B⟩
      refine ⟨_, rfl, g, r, rfl, B, fun H2 s2 B2 => ⟨_, rfl, ?_⟩⟩
      refine ⟨_, rfl, g, r, rfl, B2, fun H3 s3 B3 => ⟨_, rfl, ?_⟩⟩
      exact ⟨_, rfl, B3⟩
    · rintro σ H' ⟨yt, rfl, B⟩
      exact q _
end
end Vq
set_option maxHeartbeats 4000000
set_option exponentiation.threshold 20000
namespace Vq
open PySem PySem.Spec PyProof.Rows L2
/-! ### the program's top -/
/-- what stands at the top for a def -/
structure Ft (K : PySem.W.Frag) (x : Str) (st : Stmt) : Prop where
  ex : ∃ (f : Addr) (oc : Value) (od an : Option Addr) (osl : Array (Option Value)) (kV doc pm cdv ct : Value), PySem.W.nsIn K mainGlobals x = some (some (.ref f)) ∧
    K.lookup f = some ⟨oc, od, .func (PySem.W.fnOf x x (defArgs st) (defBody st) (defScope st) .none kV doc pm an cdv ct), osl⟩ ∧ PySem.W.codeIn K cdv x = true ∧ PySem.W.keepIn K (.ref f) = true
theorem ft_mk {K : PySem.W.Frag} {x : Str} {st : Stmt} {f : Addr} {oc : Value} {od an : Option Addr} {osl : Array (Option Value)} {kV doc pm cdv ct : Value} (a : PySem.W.nsIn K mainGlobals x = some (some (.ref f)))
    (l : K.lookup f = some ⟨oc, od, .func (PySem.W.fnOf x x (defArgs st) (defBody st) (defScope st) .none kV doc pm an cdv ct), osl⟩) (c : PySem.W.codeIn K cdv x = true) (k : PySem.W.keepIn K (.ref f) = true) : Ft K x st :=
  ⟨f, oc, od, an, osl, kV, doc, pm, cdv, ct, a, l, c, k⟩
theorem Ft.d1 {K : PySem.W.Frag} {x : Str} {st : Stmt} {h : Heap} {mg : Str → Option Value} {ps : List Str} (F : Ft K x st) (X : K.In h) (G : h.Ns mainGlobals mg)
    (b : ∀ (kV doc pm : Value) (an : Option Addr) (cdv ct : Value) (us : List Value), us.length = ps.length → bindArgs (PySem.W.fnOf x x (defArgs st) (defBody st) (defScope st) .none kV doc pm an cdv ct) ⟨us, []⟩ = pure (ps.zip us)) : D1 K mg x st ps := by
  obtain ⟨f, oc, od, an, osl, kV, doc, pm, cdv, ct, a, l, c, k⟩ := F.ex
  have Fn := fun_mk (st := st) l c k
  exact ⟨f, _, Fn, PySem.W.mg_of X G a, Fn.binds b⟩
theorem all_mk {P : Program} {w : World} {K : PySem.W.Frag} {h : Heap} {mg : Str → Option Value} {fa : Addr} (X : K.In h) (G : h.Ns mainGlobals mg) (hfa : mg "law" = some (.ref fa))
    (F_fraction_of : Ft K "fraction_of" s_fraction_of)
    (F_fraction_total : Ft K "fraction_total" s_fraction_total)
    (F_fraction_times : Ft K "fraction_times" s_fraction_times)
    (F_number_of : Ft K "number_of" s_number_of)
    (F_term : Ft K "term" s_term)
    (F_order_of : Ft K "order_of" s_order_of)
    (F_leading_of : Ft K "leading_of" s_leading_of)
    (F_total : Ft K "total" s_total)
    (F_less : Ft K "less" s_less)
    (F_times : Ft K "times" s_times)
    (F_later : Ft K "later" s_later)
    (F_not_above : Ft K "not_above" s_not_above)
    (F_least_order : Ft K "least_order" s_least_order)
    (F_least_items : Ft K "least_items" s_least_items)
    (F_l_bag : Ft K "_law_bag" s_l_bag)
    (F_l_take : Ft K "_law_take" s_l_take)
    (F_l_some : Ft K "_law_some" s_l_some)
    (F_l_alike : Ft K "_law_alike" s_l_alike)
    (F_l_later : Ft K "_law_later" s_l_later)
    (F_l_not_above : Ft K "_law_not_above" s_l_not_above)
    (F_l_lesser : Ft K "_law_lesser" s_l_lesser)
    (F_l_least_order : Ft K "_law_least_order" s_l_least_order)
    (F_l_delay : Ft K "_law_delay" s_l_delay)
    (F_l_greatest_divisor : Ft K "_law_greatest_divisor" s_l_greatest_divisor)
    (F_l_fraction : Ft K "_law_fraction" s_l_fraction)
    (F_l_factor : Ft K "_law_factor" s_l_factor)
    (F_l_summed : Ft K "_law_summed" s_l_summed)
    (F_l_total : Ft K "_law_total" s_l_total)
    (F_l_times : Ft K "_law_times" s_l_times)
    (F_l_minus : Ft K "_law_minus" s_l_minus)
    (F_l_order_of : Ft K "_law_order_of" s_l_order_of)
    (F_l_number : Ft K "_law_number" s_l_number)
    (F_l_less : Ft K "_law_less" s_l_less)
    (F_l_any_number : Ft K "_law_any_number" s_l_any_number)
    (F_l_are_orders_right : Ft K "_law_are_orders_right" s_l_are_orders_right)
    (F_l_great_number : Ft K "_law_great_number" s_l_great_number)
    (F_l_are_sums_right : Ft K "_law_are_sums_right" s_l_are_sums_right)
    (F_law : Ft K "law" s_law) (zG : PySem.W.nsIn K mainGlobals "gcd" = some (some (.builtin "math.gcd")))
    (z_abs : PySem.W.nsIn K mainGlobals "abs" = some none) (z_int : PySem.W.nsIn K mainGlobals "int" = some none) (z_len : PySem.W.nsIn K mainGlobals "len" = some none) (z_min : PySem.W.nsIn K mainGlobals "min" = some none) (z_sorted : PySem.W.nsIn K mainGlobals "sorted" = some none) (z_tuple : PySem.W.nsIn K mainGlobals "tuple" = some none) (z_range : PySem.W.nsIn K mainGlobals "range" = some none) (z_zip : PySem.W.nsIn K mainGlobals "zip" = some none) (z_repr : PySem.W.nsIn K mainGlobals "repr" = some none) :
    ∃ fd : FuncData, (∀ (s : Shared) (v : Value), BindsTo s fd ⟨[v], []⟩ [("_law_script", v)]) ∧ ∀ base : Heap, K.In base → base.Ns mainGlobals mg → GFn P w K mg base (7) fa fd ["_law_script"] (sp_law K) := by
  have M : Mg mg := ⟨PySem.W.mg_of X G zG, PySem.W.mg_none_of X G z_abs, PySem.W.mg_none_of X G z_int, PySem.W.mg_none_of X G z_len, PySem.W.mg_none_of X G z_min, PySem.W.mg_none_of X G z_sorted, PySem.W.mg_none_of X G z_tuple, PySem.W.mg_none_of X G z_range, PySem.W.mg_none_of X G z_zip, PySem.W.mg_none_of X G z_repr⟩
  obtain ⟨f, oc, od, an, osl, kV, doc, pm, cdv, ct, a, l, c, k⟩ := F_law.ex
  have e := hfa.symm.trans (PySem.W.mg_of X G a)
  cases e
  refine ⟨PySem.W.fnOf "law" "law" (defArgs s_law) (defBody s_law) (defScope s_law) .none kV doc pm an cdv ct, fun s v => .of_eq rfl, fun base _ _ => ?_⟩
  have D_fraction_of : D1 K mg "fraction_of" s_fraction_of ["num", "den"] := F_fraction_of.d1 X G fun _ _ _ _ _ _ us hl => match us, hl with | [_, _], _ => rfl
  have D_fraction_total : D1 K mg "fraction_total" s_fraction_total ["one", "other"] := F_fraction_total.d1 X G fun _ _ _ _ _ _ us hl => match us, hl with | [_, _], _ => rfl
  have D_fraction_times : D1 K mg "fraction_times" s_fraction_times ["one", "other"] := F_fraction_times.d1 X G fun _ _ _ _ _ _ us hl => match us, hl with | [_, _], _ => rfl
  have D_number_of : D1 K mg "number_of" s_number_of ["factors"] := F_number_of.d1 X G fun _ _ _ _ _ _ us hl => match us, hl with | [_], _ => rfl
  have D_term : D1 K mg "term" s_term ["power", "factor"] := F_term.d1 X G fun _ _ _ _ _ _ us hl => match us, hl with | [_, _], _ => rfl
  have D_order_of : D1 K mg "order_of" s_order_of ["number"] := F_order_of.d1 X G fun _ _ _ _ _ _ us hl => match us, hl with | [_], _ => rfl
  have D_leading_of : D1 K mg "leading_of" s_leading_of ["number"] := F_leading_of.d1 X G fun _ _ _ _ _ _ us hl => match us, hl with | [_], _ => rfl
  have D_total : D1 K mg "total" s_total ["numbers"] := F_total.d1 X G fun _ _ _ _ _ _ us hl => match us, hl with | [_], _ => rfl
  have D_less : D1 K mg "less" s_less ["one", "other"] := F_less.d1 X G fun _ _ _ _ _ _ us hl => match us, hl with | [_, _], _ => rfl
  have D_times : D1 K mg "times" s_times ["one", "other"] := F_times.d1 X G fun _ _ _ _ _ _ us hl => match us, hl with | [_, _], _ => rfl
  have D_later : D1 K mg "later" s_later ["order", "delay"] := F_later.d1 X G fun _ _ _ _ _ _ us hl => match us, hl with | [_, _], _ => rfl
  have D_not_above : D1 K mg "not_above" s_not_above ["one", "other"] := F_not_above.d1 X G fun _ _ _ _ _ _ us hl => match us, hl with | [_, _], _ => rfl
  have D_least_order : D1 K mg "least_order" s_least_order ["orders"] := F_least_order.d1 X G fun _ _ _ _ _ _ us hl => match us, hl with | [_], _ => rfl
  have D_least_items : D1 K mg "least_items" s_least_items ["one", "other"] := F_least_items.d1 X G fun _ _ _ _ _ _ us hl => match us, hl with | [_, _], _ => rfl
  have D_l_bag : D1 K mg "_law_bag" s_l_bag ["_law_script"] := F_l_bag.d1 X G fun _ _ _ _ _ _ us hl => match us, hl with | [_], _ => rfl
  have D_l_take : D1 K mg "_law_take" s_l_take ["_law_bag_here", "_law_many"] := F_l_take.d1 X G fun _ _ _ _ _ _ us hl => match us, hl with | [_, _], _ => rfl
  have D_l_some : D1 K mg "_law_some" s_l_some ["_law_bag_here", "_law_things"] := F_l_some.d1 X G fun _ _ _ _ _ _ us hl => match us, hl with | [_, _], _ => rfl
  have D_l_alike : D1 K mg "_law_alike" s_l_alike ["_law_found", "_law_due"] := F_l_alike.d1 X G fun _ _ _ _ _ _ us hl => match us, hl with | [_, _], _ => rfl
  have D_l_later : D1 K mg "_law_later" s_l_later ["_law_order", "_law_delay_here"] := F_l_later.d1 X G fun _ _ _ _ _ _ us hl => match us, hl with | [_, _], _ => rfl
  have D_l_not_above : D1 K mg "_law_not_above" s_l_not_above ["_law_one", "_law_other"] := F_l_not_above.d1 X G fun _ _ _ _ _ _ us hl => match us, hl with | [_, _], _ => rfl
  have D_l_lesser : D1 K mg "_law_lesser" s_l_lesser ["_law_one", "_law_other"] := F_l_lesser.d1 X G fun _ _ _ _ _ _ us hl => match us, hl with | [_, _], _ => rfl
  have D_l_least_order : D1 K mg "_law_least_order" s_l_least_order ["_law_orders"] := F_l_least_order.d1 X G fun _ _ _ _ _ _ us hl => match us, hl with | [_], _ => rfl
  have D_l_delay : D1 K mg "_law_delay" s_l_delay ["_law_bag_here"] := F_l_delay.d1 X G fun _ _ _ _ _ _ us hl => match us, hl with | [_], _ => rfl
  have D_l_greatest_divisor : D1 K mg "_law_greatest_divisor" s_l_greatest_divisor ["_law_one", "_law_other"] := F_l_greatest_divisor.d1 X G fun _ _ _ _ _ _ us hl => match us, hl with | [_, _], _ => rfl
  have D_l_fraction : D1 K mg "_law_fraction" s_l_fraction ["_law_num", "_law_den"] := F_l_fraction.d1 X G fun _ _ _ _ _ _ us hl => match us, hl with | [_, _], _ => rfl
  have D_l_factor : D1 K mg "_law_factor" s_l_factor ["_law_bag_here"] := F_l_factor.d1 X G fun _ _ _ _ _ _ us hl => match us, hl with | [_], _ => rfl
  have D_l_summed : D1 K mg "_law_summed" s_l_summed ["_law_terms"] := F_l_summed.d1 X G fun _ _ _ _ _ _ us hl => match us, hl with | [_], _ => rfl
  have D_l_total : D1 K mg "_law_total" s_l_total ["_law_numbers"] := F_l_total.d1 X G fun _ _ _ _ _ _ us hl => match us, hl with | [_], _ => rfl
  have D_l_times : D1 K mg "_law_times" s_l_times ["_law_one", "_law_other"] := F_l_times.d1 X G fun _ _ _ _ _ _ us hl => match us, hl with | [_, _], _ => rfl
  have D_l_minus : D1 K mg "_law_minus" s_l_minus ["_law_number_here"] := F_l_minus.d1 X G fun _ _ _ _ _ _ us hl => match us, hl with | [_], _ => rfl
  have D_l_order_of : D1 K mg "_law_order_of" s_l_order_of ["_law_number_here"] := F_l_order_of.d1 X G fun _ _ _ _ _ _ us hl => match us, hl with | [_], _ => rfl
  have D_l_number : D1 K mg "_law_number" s_l_number ["_law_bag_here", "_law_order", "_law_most"] := F_l_number.d1 X G fun _ _ _ _ _ _ us hl => match us, hl with | [_, _, _], _ => rfl
  have D_l_less : D1 K mg "_law_less" s_l_less ["_law_one", "_law_other"] := F_l_less.d1 X G fun _ _ _ _ _ _ us hl => match us, hl with | [_, _], _ => rfl
  have D_l_any_number : D1 K mg "_law_any_number" s_l_any_number ["_law_bag_here"] := F_l_any_number.d1 X G fun _ _ _ _ _ _ us hl => match us, hl with | [_], _ => rfl
  have D_l_are_orders_right : D1 K mg "_law_are_orders_right" s_l_are_orders_right ["_law_bag_here"] := F_l_are_orders_right.d1 X G fun _ _ _ _ _ _ us hl => match us, hl with | [_], _ => rfl
  have D_l_great_number : D1 K mg "_law_great_number" s_l_great_number ["_law_bag_here"] := F_l_great_number.d1 X G fun _ _ _ _ _ _ us hl => match us, hl with | [_], _ => rfl
  have D_l_are_sums_right : D1 K mg "_law_are_sums_right" s_l_are_sums_right ["_law_bag_here"] := F_l_are_sums_right.d1 X G fun _ _ _ _ _ _ us hl => match us, hl with | [_], _ => rfl
  have c_l_bag := ok_l_bag (P := P) (w := w) (base := base) M D_l_bag
  have c_l_take := ok_l_take (P := P) (w := w) (base := base) M D_l_take
  have c_l_some := ok_l_some (P := P) (w := w) (base := base) M D_l_some c_l_take
  have c_l_delay := ok_l_delay (P := P) (w := w) (base := base) D_l_delay c_l_some
  have c_later := ok_later (P := P) (w := w) (base := base) D_later
  have c_l_later := ok_l_later (P := P) (w := w) (base := base) D_l_later
  have c_not_above := ok_not_above (P := P) (w := w) (base := base) D_not_above
  have c_l_not_above := ok_l_not_above (P := P) (w := w) (base := base) D_l_not_above
  have c_least_order := ok_least_order (P := P) (w := w) (base := base) M D_least_order
  have c_l_lesser := ok_l_lesser (P := P) (w := w) (base := base) D_l_lesser c_l_not_above
  have c_l_least_order := ok_l_least_order (P := P) (w := w) (base := base) D_l_least_order c_l_lesser
  have c_least_items := ok_least_items (P := P) (w := w) (base := base) M D_least_items c_least_order
  have g_l_alike := ok_l_alike (P := P) (w := w) (base := base) M D_l_alike
  have g_l_are_orders_right := ok_l_are_orders_right (P := P) (w := w) (base := base) M D_l_are_orders_right c_l_some c_l_delay c_later c_l_later c_not_above c_l_not_above c_least_order c_l_least_order c_least_items c_l_lesser g_l_alike
  have c_l_greatest_divisor := ok_l_greatest_divisor (P := P) (w := w) (base := base) D_l_greatest_divisor
  have c_l_fraction := ok_l_fraction (P := P) (w := w) (base := base) M D_l_fraction c_l_greatest_divisor
  have c_l_factor := ok_l_factor (P := P) (w := w) (base := base) D_l_factor c_l_some c_l_fraction
  have c_l_number := ok_l_number (P := P) (w := w) (base := base) M D_l_number c_l_take c_l_factor
  have c_l_any_number := ok_l_any_number (P := P) (w := w) (base := base) D_l_any_number c_l_some c_l_number
  have c_l_great_number := ok_l_great_number (P := P) (w := w) (base := base) M D_l_great_number c_l_take c_l_some c_l_fraction
  have c_l_minus := ok_l_minus (P := P) (w := w) (base := base) M D_l_minus
  have c_l_summed := ok_l_summed (P := P) (w := w) (base := base) M D_l_summed c_l_fraction
  have c_l_total := ok_l_total (P := P) (w := w) (base := base) D_l_total c_l_summed
  have c_l_times := ok_l_times (P := P) (w := w) (base := base) D_l_times c_l_fraction c_l_summed
  have c_l_less := ok_l_less (P := P) (w := w) (base := base) D_l_less c_l_minus c_l_total
  have c_l_order_of := ok_l_order_of (P := P) (w := w) (base := base) D_l_order_of
  have c_fraction_of := ok_fraction_of (P := P) (w := w) (base := base) M D_fraction_of
  have c_fraction_total := ok_fraction_total (P := P) (w := w) (base := base) M D_fraction_total c_fraction_of
  have c_number_of := ok_number_of (P := P) (w := w) (base := base) M D_number_of
  have c_total := ok_total (P := P) (w := w) (base := base) D_total c_fraction_total c_number_of
  have c_fraction_times := ok_fraction_times (P := P) (w := w) (base := base) M D_fraction_times c_fraction_of
  have c_times := ok_times (P := P) (w := w) (base := base) D_times c_fraction_times c_fraction_total c_number_of
  have c_less := ok_less (P := P) (w := w) (base := base) D_less c_times c_total
  have c_term := ok_term (P := P) (w := w) (base := base) D_term c_number_of
  have c_order_of := ok_order_of (P := P) (w := w) (base := base) D_order_of
  have c_leading_of := ok_leading_of (P := P) (w := w) (base := base) D_leading_of
  have g_l_are_sums_right := ok_l_are_sums_right (P := P) (w := w) (base := base) M D_l_are_sums_right c_l_some c_l_take c_l_factor c_l_any_number c_l_great_number c_l_minus c_l_total c_l_times c_l_less c_l_order_of c_total c_less c_times c_term c_order_of c_leading_of c_not_above c_least_order g_l_alike
  exact ok_law M (fun_mk (st := s_law) l c k) c_l_bag g_l_are_orders_right g_l_are_sums_right
theorem walk {l : PySem.W.OpenLaw} {q : Program} {loose : List Str} {XP : (Str → Option Value) → Heap → Prop} {YP : World → Heap → Prop} {d : DefRec} {K : Params → PySem.W.Frag} (hn : l.most = some 63) (hdf : d.params.defaults = [])
    (hY : ∀ (w : World) (h : Heap), YP w h → (K w.params).In h)
    (F : ∀ (w : World) (mg : Str → Option Value) (fa : Addr) (h : Heap), (K w.params).In h → h.Ns mainGlobals mg → mg d.name = some (.ref fa) →
      ∃ fd : FuncData, (∀ (s : Shared) (u : Value), BindsTo s fd ⟨[u], []⟩ [("_law_script", u)]) ∧ ∀ base : Heap, (K w.params).In base → base.Ns mainGlobals mg → GFn l.prog w (K w.params) mg base (7) fa fd ["_law_script"] (sp_law (K w.params))) :
    PySem.W.WalkO q loose XP YP l.row.toRowW d [] (fun f vs => PySem.call f vs) :=
  gwalk (n := 63) (k := 7) (x := "_law_script") (sp := fun w => sp_law (K w.params)) hn (by decide) hdf ⟨rfl, by decide, by decide⟩ hY F fun _ _ a ns hl hS _ => ⟨a, ns, rfl, hS, hl, fun _ => rfl⟩
end Vq
open PySem PySem.W PyProof.Rows in
set_option maxRecDepth 100000 in
set_option maxHeartbeats 0 in
theorem PySem.Challenge.cw_leastpowers_k02_numbers_by_sums_holds : PySem.Challenge.rw_leastpowers_k02_numbers_by_sums.Holds := by
  w_on; o_law; k_head; (case hw => w_witness2)
  k_fill
  refine Vq.walk (l := PySem.Challenge.rw_leastpowers_k02_numbers_by_sums) rfl rfl (fun w h Y => PySem.W.kIn_of Y) ?F
  case F =>
    intro w mg fa h KX G hmg
    refine' Vq.all_mk KX G hmg (Vq.ft_mk ?a_fraction_of ?l_fraction_of ?c_fraction_of ?k_fraction_of) (Vq.ft_mk ?a_fraction_total ?l_fraction_total ?c_fraction_total ?k_fraction_total) (Vq.ft_mk ?a_fraction_times ?l_fraction_times ?c_fraction_times ?k_fraction_times) (Vq.ft_mk ?a_number_of ?l_number_of ?c_number_of ?k_number_of) (Vq.ft_mk ?a_term ?l_term ?c_term ?k_term) (Vq.ft_mk ?a_order_of ?l_order_of ?c_order_of ?k_order_of) (Vq.ft_mk ?a_leading_of ?l_leading_of ?c_leading_of ?k_leading_of) (Vq.ft_mk ?a_total ?l_total ?c_total ?k_total) (Vq.ft_mk ?a_less ?l_less ?c_less ?k_less) (Vq.ft_mk ?a_times ?l_times ?c_times ?k_times) (Vq.ft_mk ?a_later ?l_later ?c_later ?k_later) (Vq.ft_mk ?a_not_above ?l_not_above ?c_not_above ?k_not_above) (Vq.ft_mk ?a_least_order ?l_least_order ?c_least_order ?k_least_order) (Vq.ft_mk ?a_least_items ?l_least_items ?c_least_items ?k_least_items) (Vq.ft_mk ?a_l_bag ?l_l_bag ?c_l_bag ?k_l_bag) (Vq.ft_mk ?a_l_take ?l_l_take ?c_l_take ?k_l_take) (Vq.ft_mk ?a_l_some ?l_l_some ?c_l_some ?k_l_some) (Vq.ft_mk ?a_l_alike ?l_l_alike ?c_l_alike ?k_l_alike) (Vq.ft_mk ?a_l_later ?l_l_later ?c_l_later ?k_l_later) (Vq.ft_mk ?a_l_not_above ?l_l_not_above ?c_l_not_above ?k_l_not_above) (Vq.ft_mk ?a_l_lesser ?l_l_lesser ?c_l_lesser ?k_l_lesser) (Vq.ft_mk ?a_l_least_order ?l_l_least_order ?c_l_least_order ?k_l_least_order) (Vq.ft_mk ?a_l_delay ?l_l_delay ?c_l_delay ?k_l_delay) (Vq.ft_mk ?a_l_greatest_divisor ?l_l_greatest_divisor ?c_l_greatest_divisor ?k_l_greatest_divisor) (Vq.ft_mk ?a_l_fraction ?l_l_fraction ?c_l_fraction ?k_l_fraction) (Vq.ft_mk ?a_l_factor ?l_l_factor ?c_l_factor ?k_l_factor) (Vq.ft_mk ?a_l_summed ?l_l_summed ?c_l_summed ?k_l_summed) (Vq.ft_mk ?a_l_total ?l_l_total ?c_l_total ?k_l_total) (Vq.ft_mk ?a_l_times ?l_l_times ?c_l_times ?k_l_times) (Vq.ft_mk ?a_l_minus ?l_l_minus ?c_l_minus ?k_l_minus) (Vq.ft_mk ?a_l_order_of ?l_l_order_of ?c_l_order_of ?k_l_order_of) (Vq.ft_mk ?a_l_number ?l_l_number ?c_l_number ?k_l_number) (Vq.ft_mk ?a_l_less ?l_l_less ?c_l_less ?k_l_less) (Vq.ft_mk ?a_l_any_number ?l_l_any_number ?c_l_any_number ?k_l_any_number) (Vq.ft_mk ?a_l_are_orders_right ?l_l_are_orders_right ?c_l_are_orders_right ?k_l_are_orders_right) (Vq.ft_mk ?a_l_great_number ?l_l_great_number ?c_l_great_number ?k_l_great_number) (Vq.ft_mk ?a_l_are_sums_right ?l_l_are_sums_right ?c_l_are_sums_right ?k_l_are_sums_right) (Vq.ft_mk ?a_law ?l_law ?c_law ?k_law) ?zG ?z_abs ?z_int ?z_len ?z_min ?z_sorted ?z_tuple ?z_range ?z_zip ?z_repr
    (case a_fraction_of => k_is); (case l_fraction_of => k_is); (case c_fraction_of => k_is); (case k_fraction_of => k_is)
    (case a_fraction_total => k_is); (case l_fraction_total => k_is); (case c_fraction_total => k_is); (case k_fraction_total => k_is)
    (case a_fraction_times => k_is); (case l_fraction_times => k_is); (case c_fraction_times => k_is); (case k_fraction_times => k_is)
    (case a_number_of => k_is); (case l_number_of => k_is); (case c_number_of => k_is); (case k_number_of => k_is)
    (case a_term => k_is); (case l_term => k_is); (case c_term => k_is); (case k_term => k_is)
    (case a_order_of => k_is); (case l_order_of => k_is); (case c_order_of => k_is); (case k_order_of => k_is)
    (case a_leading_of => k_is); (case l_leading_of => k_is); (case c_leading_of => k_is); (case k_leading_of => k_is)
    (case a_total => k_is); (case l_total => k_is); (case c_total => k_is); (case k_total => k_is)
    (case a_less => k_is); (case l_less => k_is); (case c_less => k_is); (case k_less => k_is)
    (case a_times => k_is); (case l_times => k_is); (case c_times => k_is); (case k_times => k_is)
    (case a_later => k_is); (case l_later => k_is); (case c_later => k_is); (case k_later => k_is)
    (case a_not_above => k_is); (case l_not_above => k_is); (case c_not_above => k_is); (case k_not_above => k_is)
    (case a_least_order => k_is); (case l_least_order => k_is); (case c_least_order => k_is); (case k_least_order => k_is)
    (case a_least_items => k_is); (case l_least_items => k_is); (case c_least_items => k_is); (case k_least_items => k_is)
    (case a_l_bag => k_is); (case l_l_bag => k_is); (case c_l_bag => k_is); (case k_l_bag => k_is)
    (case a_l_take => k_is); (case l_l_take => k_is); (case c_l_take => k_is); (case k_l_take => k_is)
    (case a_l_some => k_is); (case l_l_some => k_is); (case c_l_some => k_is); (case k_l_some => k_is)
    (case a_l_alike => k_is); (case l_l_alike => k_is); (case c_l_alike => k_is); (case k_l_alike => k_is)
    (case a_l_later => k_is); (case l_l_later => k_is); (case c_l_later => k_is); (case k_l_later => k_is)
    (case a_l_not_above => k_is); (case l_l_not_above => k_is); (case c_l_not_above => k_is); (case k_l_not_above => k_is)
    (case a_l_lesser => k_is); (case l_l_lesser => k_is); (case c_l_lesser => k_is); (case k_l_lesser => k_is)
    (case a_l_least_order => k_is); (case l_l_least_order => k_is); (case c_l_least_order => k_is); (case k_l_least_order => k_is)
    (case a_l_delay => k_is); (case l_l_delay => k_is); (case c_l_delay => k_is); (case k_l_delay => k_is)
    (case a_l_greatest_divisor => k_is); (case l_l_greatest_divisor => k_is); (case c_l_greatest_divisor => k_is); (case k_l_greatest_divisor => k_is)
    (case a_l_fraction => k_is); (case l_l_fraction => k_is); (case c_l_fraction => k_is); (case k_l_fraction => k_is)
    (case a_l_factor => k_is); (case l_l_factor => k_is); (case c_l_factor => k_is); (case k_l_factor => k_is)
    (case a_l_summed => k_is); (case l_l_summed => k_is); (case c_l_summed => k_is); (case k_l_summed => k_is)
    (case a_l_total => k_is); (case l_l_total => k_is); (case c_l_total => k_is); (case k_l_total => k_is)
    (case a_l_times => k_is); (case l_l_times => k_is); (case c_l_times => k_is); (case k_l_times => k_is)
    (case a_l_minus => k_is); (case l_l_minus => k_is); (case c_l_minus => k_is); (case k_l_minus => k_is)
    (case a_l_order_of => k_is); (case l_l_order_of => k_is); (case c_l_order_of => k_is); (case k_l_order_of => k_is)
    (case a_l_number => k_is); (case l_l_number => k_is); (case c_l_number => k_is); (case k_l_number => k_is)
    (case a_l_less => k_is); (case l_l_less => k_is); (case c_l_less => k_is); (case k_l_less => k_is)
    (case a_l_any_number => k_is); (case l_l_any_number => k_is); (case c_l_any_number => k_is); (case k_l_any_number => k_is)
    (case a_l_are_orders_right => k_is); (case l_l_are_orders_right => k_is); (case c_l_are_orders_right => k_is); (case k_l_are_orders_right => k_is)
    (case a_l_great_number => k_is); (case l_l_great_number => k_is); (case c_l_great_number => k_is); (case k_l_great_number => k_is)
    (case a_l_are_sums_right => k_is); (case l_l_are_sums_right => k_is); (case c_l_are_sums_right => k_is); (case k_l_are_sums_right => k_is)
    (case a_law => k_is); (case l_law => k_is); (case c_law => k_is); (case k_law => k_is)
    (case zG => k_is)
    (case z_abs => k_is)
    (case z_int => k_is)
    (case z_len => k_is)
    (case z_min => k_is)
    (case z_sorted => k_is)
    (case z_tuple => k_is)
    (case z_range => k_is)
    (case z_zip => k_is)
    (case z_repr => k_is)
