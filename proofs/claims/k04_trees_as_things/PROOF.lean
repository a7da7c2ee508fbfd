import PyProof.Rows.All
import Wide.All
import OpenK.AllK
import Wide.FinOn
import HandS.ForMost
import HandS.IsInst
import HandS.Walk
import HandS.ForExc
import HandS.Small
import HandS.Dict
import KE.KDictPairs
import HandS.ExcInit
import HandS.ExcField
import HandS.Codes
import HandS.Iter
import HandS.Sort
import KE.SortData
import KE.SortKeyHeap
import HandS.Lambda
import HandS.SortKw
import HandS.Strs
import KE.GoesEnum
import HandS.OwnEq
import PyProof.InstNe
import HandS.List
import HandS.ListEq
import KE.KEqNest
import HandS.Style
import HandS.TupAny
import HandS.EndOwn
import PySem.Challenge.RW_namewalk_k04_trees_as_things
set_option Elab.async false
set_option maxRecDepth 100000
set_option maxHeartbeats 4000000
/-! NG: general lemmas over the hand layer -/
namespace NG
open PySem L2
theorem Same.upd {H : Hp} {p : Addr} {o : HO} (h : H p = none) : Same H (upd H p o) := fun a u e => by rw [upd_ne (ne_of_none e h)]; exact e
theorem Same.sqT {K : PySem.W.Frag} {H H' : Hp} {a : Addr} {xs : List V} (e : Same H H') (h : SqT K H a xs) : SqT K H' a xs := by
  rcases h with (h | ⟨o, h⟩) | h
  · exact .inl (.inl (e _ _ h))
  · exact .inl (.inr ⟨o, e _ _ h⟩)
  · exact .inr h
/-- all but p as it was -/
def But (p : Addr) (H H' : Hp) : Prop := ∀ b o, H b = some o → b ≠ p → H' b = some o
theorem But.refl (p : Addr) (H : Hp) : But p H H := fun _ _ h _ => h
theorem But.trans {p : Addr} {H H1 H2 : Hp} (a : But p H H1) (b : But p H1 H2) : But p H H2 := fun c o h n => b c o (a c o h n) n
theorem But.same {p : Addr} {H H1 H2 : Hp} (a : But p H H1) (b : Same H1 H2) : But p H H2 := fun c o h n => b c o (a c o h n)
theorem But.ofSame {p : Addr} {H H1 : Hp} (a : Same H H1) : But p H H1 := fun c o h _ => a c o h
theorem But.upd {p : Addr} {H H1 : Hp} {o : HO} (a : But p H H1) : But p H (L2.upd H1 p o) := fun c u h n => by rw [upd_ne n]; exact a c u h n
theorem But.sqT {K : PySem.W.Frag} {p dx C : Addr} {fs : List (Str × V)} {H H' : Hp} {a : Addr} {xs : List V} (hp : H p = some (.ins C dx fs)) (e : But p H H') (h : SqT K H a xs) : SqT K H' a xs := by
  rcases h with (h | ⟨o, h⟩) | h
  · exact .inl (.inl (e _ _ h (ne_of h hp (by intro z; cases z))))
  · exact .inl (.inr ⟨o, e _ _ h (ne_of h hp (by intro z; cases z))⟩)
  · exact .inr h
theorem len_putF (f : Str) (v : V) : ∀ fs : List (Str × V), (putF f v fs).length ≤ fs.length + 1
  | [] => by unfold putF; simp
  | (g, w) :: r => by
    have := len_putF f v r
    unfold putF
    split
    · simp
    · simp only [List.length_cons]; omega
theorem take_succ {α : Type} {l : List α} {i : Nat} {x : α} (h : l[i]? = some x) : l.take (i + 1) = l.take i ++ [x] := by rw [List.take_add_one, h]; rfl
/-- a comprehension of one clause over what a walk gives: items f x for those of xs with p x; tests and items may lay new objects -/
theorem lc_gen {J : It} {xs : List V} {G : Hp → Prop} (w : Walk J xs.length G (YAt xs)) {tt : TT} {te : TE} {i : Nat} {σ : St} {H1 : Hp} {D : Addr} {Q : Hp → Prop} (p : V → Bool) (f : V → V) (hx : xs.length < sizeLine) (hD : H1 D = none) (hG : ∀ H, Same H1 H → G H)
    (ht : ∀ (k : Nat) (x : V) (H : Hp) (R : Bool → Hp → Prop), xs[k]? = some x → Same H1 H → (∀ H', Same H H' → R (p x) H') → tt ((wipe σ [i]).set i (some x)) H R)
    (he : ∀ (k : Nat) (x : V) (H : Hp) (R : V → Hp → Prop), xs[k]? = some x → p x = true → Same H1 H → (∀ H', Same H H' → R (f x) H') → te ((wipe σ [i]).set i (some x)) H R)
    (hd : ∀ H, Same H1 H → H D = some (.lst ((xs.filter p).map f)) → Q H) :
    ∃ W : Nat → Nat → Hp → Prop, (∃ m, W 0 m (L2.upd H1 D (.lst []))) ∧ ∀ k m H, W k m H →
      (J.stop k H ∧ Q H) ∨ (J.go k H ∧ ∃ Nx : Hp → Prop, (∀ H', Nx H' → ∃ m', m' < m ∧ W (k + 1) m' H') ∧ ∀ x H', J.yld k H x H' → gName i x (wipe σ [i]) H' fun σ2 H2 => wipe σ2 [i] = wipe σ [i] ∧ tt σ2 H2 fun b H3 =>
        if b = true then te σ2 H3 fun y H4 => ∃ acc, H4 D = some (.lst acc) ∧ acc.length < sizeLine ∧ Nx (L2.upd H4 D (.lst (acc ++ [y]))) else Nx H3) := by
  refine lc_it w (fun k H => Same H1 H ∧ H D = some (.lst (((xs.take k).filter p).map f))) ⟨Same.upd hD, by rw [upd_same]; simp⟩ (fun _ H _ h => hG H h.1) ?_ ?_
  · rintro k x H H' hk ⟨s1, eD⟩ ⟨rfl, hxk⟩
    refine ⟨?_, ?_⟩
    · show List.set (List.set (List.set σ i none) i _) i none = List.set σ i none
      rw [List.set_set, List.set_set]
    · have et := take_succ hxk
      have ll : (((xs.take k).filter p).map f).length < sizeLine := by
        rw [List.length_map]
        have := List.length_filter_le p (xs.take k)
        have := List.length_take_le k xs
        omega
      refine ht k x _ _ hxk s1 (fun H3 s3 => ?_)
      have eD3 := s3 _ _ eD
      have s13 := s1.trans s3
      refine ite2 (fun hp => ?_) (fun hp => ?_)
      · refine he k x _ _ hxk hp s13 (fun H4 s4 => ⟨_, s4 _ _ eD3, ll, ?_, ?_⟩)
        · intro b o e
          have hb : b ≠ D := ne_of_none e hD
          rw [upd_ne hb]
          exact s4 _ _ (s13 _ _ e)
        · rw [upd_same, et, List.filter_append, List.map_append]
          congr 2
          congr 1
          have : [x].filter p = [x] := by simp [hp]
          rw [this]
          rfl
      · refine ⟨s13, ?_⟩
        rw [et, List.filter_append, List.map_append]
        have : [x].filter p = [] := by simp [hp]
        rw [this]
        simpa using eD3
  · rintro H ⟨s1, eD⟩
    rw [List.take_length] at eD
    exact hd H s1 eD
/-- the same without a test -/
theorem lc_map {J : It} {xs : List V} {G : Hp → Prop} (w : Walk J xs.length G (YAt xs)) {te : TE} {i : Nat} {σ : St} {H1 : Hp} {D : Addr} {Q : Hp → Prop} (f : V → V) (hx : xs.length < sizeLine) (hD : H1 D = none) (hG : ∀ H, Same H1 H → G H)
    (he : ∀ (k : Nat) (x : V) (H : Hp) (R : V → Hp → Prop), xs[k]? = some x → Same H1 H → (∀ H', Same H H' → R (f x) H') → te ((wipe σ [i]).set i (some x)) H R)
    (hd : ∀ H, Same H1 H → H D = some (.lst (xs.map f)) → Q H) :
    ∃ W : Nat → Nat → Hp → Prop, (∃ m, W 0 m (L2.upd H1 D (.lst []))) ∧ ∀ k m H, W k m H →
      (J.stop k H ∧ Q H) ∨ (J.go k H ∧ ∃ Nx : Hp → Prop, (∀ H', Nx H' → ∃ m', m' < m ∧ W (k + 1) m' H') ∧ ∀ x H', J.yld k H x H' → gName i x (wipe σ [i]) H' fun σ2 H2 => wipe σ2 [i] = wipe σ [i] ∧ tYes σ2 H2 fun b H3 =>
        if b = true then te σ2 H3 fun y H4 => ∃ acc, H4 D = some (.lst acc) ∧ acc.length < sizeLine ∧ Nx (L2.upd H4 D (.lst (acc ++ [y]))) else Nx H3) :=
  lc_gen w (fun _ => true) f hx hD hG (fun _ _ H _ _ _ h => h H (L2.Same.refl H)) (fun k x H R h _ s r => he k x H R h s r) (fun H s e => hd H s (by rw [List.filter_eq_self.mpr (fun _ _ => rfl)] at e; exact e))
end NG

set_option maxRecDepth 100000
set_option maxHeartbeats 4000000
namespace NG
open PySem L2
section
variable {X : Cx}
theorem op_mulStr : OpR X (binaryOp .Mult) (fun x y H Q => ∃ (i : Str) (n : Int), x = .str i ∧ y = .int n ∧ MulOk i n ∧ Q (.str (Txt.mul i n)) H) := by
  intro pins s σ H x y v u Q I rx ry h
  obtain ⟨i, n, rfl, rfl, hm, q⟩ := h
  obtain ⟨t, rfl⟩ := rx
  obtain ⟨t', rfl⟩ := ry
  exact SB.mul hm fun t' k => ⟨.str (Txt.mul i n), H, I.tok _, ⟨_, rfl⟩, q⟩
end
theorem foldl_app (a : Array Nat) : ∀ (k : Nat) (b : Array Nat), ((List.replicate k a).foldl (· ++ ·) b).toList = b.toList ++ (List.replicate k a.toList).flatten
  | 0, b => by simp
  | k + 1, b => by
    rw [List.replicate_succ, List.foldl_cons, foldl_app a k, List.replicate_succ, List.flatten_cons]
    simp
theorem pick {α : Type} {xs : List α} {d : Int} (h0 : 0 ≤ d) (h1 : d < (xs.length : Nat)) : ∃ v, v ∈ xs ∧ atI xs d = some v := by
  obtain ⟨k, rfl⟩ : ∃ k : Nat, d = (k : Int) := ⟨d.toNat, by omega⟩
  have hk : k < xs.length := by omega
  exact ⟨xs[k], List.getElem_mem hk, atI_nat (List.getElem?_eq_getElem hk)⟩
/-- a text's signs, as texts -/
def sgs (z : Str) : List V := z.cps.toList.map fun c => .str ⟨#[c]⟩
theorem sgs_len (z : Str) : (sgs z).length = z.length := by unfold sgs; simp [Str.length]
theorem walk_sgs {z : Str} : Walk (Its z) (sgs z).length (fun _ => True) (YAt (sgs z)) := by
  rw [sgs_len]
  refine Walk.mono (walk_str (z := z)) (fun _ h => h) (fun i H x H' hi _ ⟨e, c, hc, hx⟩ => ⟨e, ?_⟩)
  unfold sgs
  rw [List.getElem?_map]
  have : z.cps.toList[i]? = some c := by simpa using hc
  rw [this, hx]
  rfl
theorem sgs_get {z : Str} {k : Nat} {x : V} (h : (sgs z)[k]? = some x) : ∃ c, x = .str ⟨#[c]⟩ ∧ c ∈ z.cps.toList := by
  unfold sgs at h
  rw [List.getElem?_map] at h
  cases e : z.cps.toList[k]? with
  | none => rw [e] at h; cases h
  | some c => rw [e] at h; exact ⟨c, (Option.some.inj h).symm, List.mem_of_getElem? e⟩
/-! ### draws in loops: p holds the numbers' state -/
def DSo (o : HO) : Prop := ∃ a m c : Int, o = .lst [.int a, .int m, .int c] ∧ 0 ≤ a ∧ 7 ≤ m ∧ m < 2147483636 ∧ 0 ≤ c ∧ c < 2147483587
structure Dr (p : Addr) (H H' : Hp) : Prop where
  but : But p H H'
  st : ∃ o, H' p = some o ∧ DSo o
theorem Dr.refl {p : Addr} {H : Hp} {o : HO} (h : H p = some o) (d : DSo o) : Dr p H H := ⟨But.refl _ _, o, h, d⟩
theorem Dr.trans {p : Addr} {H H1 H2 : Hp} (a : Dr p H H1) (b : Dr p H1 H2) : Dr p H H2 := ⟨a.but.trans b.but, b.st⟩
theorem Dr.same {p : Addr} {H H1 H2 : Hp} (a : Dr p H H1) (b : Same H1 H2) : Dr p H H2 := ⟨a.but.same b, let ⟨o, h, d⟩ := a.st; ⟨o, b _ _ h, d⟩⟩
theorem Dr.next {p : Addr} {H H1 : Hp} {o : HO} (a : Dr p H H1) (d : DSo o) : Dr p H (L2.upd H1 p o) := ⟨a.but.upd, o, upd_same, d⟩
/-- a comprehension over range(n) whose items are drawn -/
theorem lc_draw {lo : Int} {n : Nat} {te : TE} {i : Nat} {σ : St} {p : Addr} {H1 : Hp} {D : Addr} {Q : Hp → Prop} (Px : V → Hp → Prop) (hn : n < sizeLine) (hD : H1 D = none) (h0 : Dr p H1 H1) (hm : ∀ x H H', But D H H' → Px x H → Px x H') (hm2 : ∀ x H H', Dr p H H' → Px x H → Px x H')
    (he : ∀ (k : Nat) (H : Hp) (R : V → Hp → Prop), k < n → Dr p H1 H → (∀ x H', Px x H' → Dr p H H' → R x H') → te ((wipe σ [i]).set i (some (.int (lo + k)))) H R)
    (hd : ∀ H xs, Dr p H1 H → H D = some (.lst xs) → xs.length = n → (∀ x ∈ xs, Px x H) → Q H) :
    ∃ W : Nat → Nat → Hp → Prop, (∃ m, W 0 m (L2.upd H1 D (.lst []))) ∧ ∀ k m H, W k m H →
      ((Itr lo n).stop k H ∧ Q H) ∨ ((Itr lo n).go k H ∧ ∃ Nx : Hp → Prop, (∀ H', Nx H' → ∃ m', m' < m ∧ W (k + 1) m' H') ∧ ∀ x H', (Itr lo n).yld k H x H' → gName i x (wipe σ [i]) H' fun σ2 H2 => wipe σ2 [i] = wipe σ [i] ∧ tYes σ2 H2 fun b H3 =>
        if b = true then te σ2 H3 fun y H4 => ∃ acc, H4 D = some (.lst acc) ∧ acc.length < sizeLine ∧ Nx (L2.upd H4 D (.lst (acc ++ [y]))) else Nx H3) := by
  obtain ⟨o0, ep0, d0⟩ := h0.st
  have npD : p ≠ D := ne_of_none ep0 hD
  refine lc_range (fun k H => Dr p H1 H ∧ ∃ acc, H D = some (.lst acc) ∧ acc.length = k ∧ ∀ x ∈ acc, Px x H) ⟨⟨But.ofSame (Same.upd hD), o0, by rw [upd_ne npD]; exact ep0, d0⟩, [], upd_same, rfl, by simp⟩ ?_ ?_
  · rintro k H hk ⟨dr, acc, eD, el, hx⟩
    refine ⟨?_, ?_⟩
    · show List.set (List.set (List.set σ i none) i _) i none = List.set σ i none
      rw [List.set_set, List.set_set]
    · refine he k H _ hk dr (fun x H' hpx dr' => ?_)
      have eD' : H' D = some (.lst acc) := dr'.but _ _ eD npD.symm
      have bD : But D H' (L2.upd H' D (.lst (acc ++ [x]))) := (But.refl D H').upd
      refine ⟨acc, eD', by omega, ⟨fun b o e n => ?_, ?_⟩, acc ++ [x], upd_same, by simp [el], fun y hy => ?_⟩
      · have hb : b ≠ D := ne_of_none e hD
        rw [upd_ne hb]
        exact (dr.trans dr').but _ _ e n
      · obtain ⟨o, e, d⟩ := dr'.st
        exact ⟨o, by rw [upd_ne npD]; exact e, d⟩
      · refine hm y _ _ bD ?_
        rcases List.mem_append.mp hy with h | h
        · exact hm2 y _ _ dr' (hx y h)
        · rw [List.mem_singleton.mp h]; exact hpx
  · rintro H ⟨dr, acc, eD, el, hx⟩
    exact hd H acc dr eD el hx
end NG

set_option maxRecDepth 100000
set_option maxHeartbeats 4000000
/-! comprehensions over pairs -/
namespace NG
open PySem L2
theorem wipe2 {σ : St} {i j : Nat} (hij : i ≠ j) (a b : Option V) : wipe (((wipe σ [i, j]).set i a).set j b) [i, j] = wipe σ [i, j] := by
  show List.set (List.set (List.set (List.set (List.set (List.set σ j none) i none) i a) j b) j none) i none = List.set (List.set σ j none) i none
  rw [List.set_set, List.set_set, List.set_comm _ _ (Ne.symm hij), List.set_set, List.set_comm _ _ hij, List.set_set]
  all_goals first | rfl | (rw [List.set_comm _ _ hij]; rfl) | skip
theorem lc_pair {K : PySem.W.Frag} {J : It} {xs : List V} {G : Hp → Prop} (w : Walk J xs.length G (YAt xs)) {tt : TT} {te : TE} {i j : Nat} (hij : i ≠ j) {σ : St} {H1 : Hp} {D : Addr} {Q : Hp → Prop} (ps : List (V × V)) (hl : ps.length = xs.length) (p : V × V → Bool) (f : V × V → V)
    (hT : ∀ (k : Nat) (x : V) (q : V × V), xs[k]? = some x → ps[k]? = some q → ∃ t, x = V.ref t ∧ SqT K H1 t [q.1, q.2]) (hx : xs.length < sizeLine) (hD : H1 D = none) (hG : ∀ H, Same H1 H → G H)
    (ht : ∀ (k : Nat) (q : V × V) (H : Hp) (R : Bool → Hp → Prop), ps[k]? = some q → Same H1 H → (∀ H', Same H H' → R (p q) H') → tt (((wipe σ [i, j]).set i (some q.1)).set j (some q.2)) H R)
    (he : ∀ (k : Nat) (q : V × V) (H : Hp) (R : V → Hp → Prop), ps[k]? = some q → p q = true → Same H1 H → (∀ H', Same H H' → R (f q) H') → te (((wipe σ [i, j]).set i (some q.1)).set j (some q.2)) H R)
    (hd : ∀ H, Same H1 H → H D = some (.lst ((ps.filter p).map f)) → Q H) :
    ∃ W : Nat → Nat → Hp → Prop, (∃ m, W 0 m (L2.upd H1 D (.lst []))) ∧ ∀ k m H, W k m H →
      (J.stop k H ∧ Q H) ∨ (J.go k H ∧ ∃ Nx : Hp → Prop, (∀ H', Nx H' → ∃ m', m' < m ∧ W (k + 1) m' H') ∧ ∀ x H', J.yld k H x H' → gTup K 2 (gCons (gName i) (gCons (gName j) gNil)) x (wipe σ [i, j]) H' fun σ2 H2 => wipe σ2 [i, j] = wipe σ [i, j] ∧ tt σ2 H2 fun b H3 =>
        if b = true then te σ2 H3 fun y H4 => ∃ acc, H4 D = some (.lst acc) ∧ acc.length < sizeLine ∧ Nx (L2.upd H4 D (.lst (acc ++ [y]))) else Nx H3) := by
  refine lc_it w (fun k H => Same H1 H ∧ H D = some (.lst (((ps.take k).filter p).map f))) ⟨Same.upd hD, by rw [upd_same]; simp⟩ (fun _ H _ h => hG H h.1) ?_ ?_
  · rintro k x H H' hk ⟨s1, eD⟩ ⟨rfl, hxk⟩
    have hkp : k < ps.length := by omega
    have hq : ps[k]? = some ps[k] := List.getElem?_eq_getElem hkp
    obtain ⟨t, rfl, hT'⟩ := hT k x _ hxk hq
    refine ⟨t, [ps[k].1, ps[k].2], rfl, Same.sqT s1 hT', rfl, _, _, rfl, _, _, rfl, rfl, wipe2 hij _ _, ?_⟩
    have et := take_succ hq
    have ll : (((ps.take k).filter p).map f).length < sizeLine := by
      rw [List.length_map]
      have := List.length_filter_le p (ps.take k)
      have := List.length_take_le k ps
      omega
    refine ht k _ _ _ hq s1 (fun H3 s3 => ?_)
    have eD3 := s3 _ _ eD
    have s13 := s1.trans s3
    refine ite2 (fun hp => ?_) (fun hp => ?_)
    · refine he k _ _ _ hq hp s13 (fun H4 s4 => ⟨_, s4 _ _ eD3, ll, ?_, ?_⟩)
      · intro b o e
        have hb : b ≠ D := ne_of_none e hD
        rw [upd_ne hb]
        exact s4 _ _ (s13 _ _ e)
      · rw [upd_same, et, List.filter_append, List.map_append]
        congr 2
        congr 1
        have : [ps[k]].filter p = [ps[k]] := by simp [hp]
        rw [this]
        rfl
    · refine ⟨s13, ?_⟩
      rw [et, List.filter_append, List.map_append]
      have : [ps[k]].filter p = [] := by simp [hp]
      rw [this]
      simpa using eD3
  · rintro H ⟨s1, eD⟩
    rw [← hl, List.take_length] at eD
    exact hd H s1 eD
end NG

set_option maxRecDepth 100000
set_option maxHeartbeats 4000000
/-! tuples made by tuple(..) of which it is known that they have no dict of their own; dict(such a tuple of pairs) -/
namespace NG
open PySem PySem.Spec PyProof.Rows L2
/-- a tuple without a dict of its own -/
def PlT (H : Hp) (a : Addr) (xs : List V) : Prop := ∃ o : Obj, H a = some (.frz o (.tup xs)) ∧ o.dict = none ∧ o.cls = .type "tuple"
theorem PlT.sqT {K : PySem.W.Frag} {H : Hp} {a : Addr} {xs : List V} (h : PlT H a xs) : SqT K H a xs := let ⟨o, e, _⟩ := h; .inl (.inr ⟨o, e⟩)
theorem PlT.keep {H H' : Hp} {a : Addr} {xs : List V} (h : PlT H a xs) (k : ∀ o, H a = some (.frz o (.tup xs)) → H' a = some (.frz o (.tup xs))) : PlT H' a xs := let ⟨o, e, r⟩ := h; ⟨o, k o e, r⟩
theorem PlT.same {H H' : Hp} {a : Addr} {xs : List V} (h : PlT H a xs) (s : Same H H') : PlT H' a xs := h.keep fun _ e => s _ _ e
def rTupP (K : PySem.W.Frag) : List V → Hp → VK → Prop := fun vs H Q => ∃ (p : Addr) (ys : List V), vs = [.ref p] ∧ SqL K H p ys ∧ ∀ (l : Addr) (o : Obj), H l = none → o.dict = none → o.cls = .type "tuple" → Q (.ref l) (upd H l (.frz o (.tup ys)))
section
variable {X : Cx}
theorem call_tuple_ofP : CallR X (.type "tuple") (rTupP X.K) := by
  intro pins s σ H xs us Q I r h
  obtain ⟨p, ys, rfl, hq, q⟩ := h
  obtain ⟨u, rfl, rx⟩ := vals1 r
  cases rx
  obtain ⟨its, r', pl, hz⟩ := I.list hq
  have hlen := r'.length
  refine call_tuple_list pl.isList (fun h' kp => ?_) (by simp only [List.size_toArray]; omega)
  have I1 : Inv X pins σ H { s with heap := h' } := I.kept (t' := s.toks) kp
  have I2 := I1.laid (t' := s.toks) (a := h'.objs.size) (o := .frz { cls := .type "tuple", data := .seq its.toArray } (.tup ys)) (h' := h'.push { cls := .type "tuple", data := .seq its.toArray }) (fun b o e => Heap.get?_push_of_some _ e) (Nat.le_refl _) ⟨Heap.get?_push_size _ rfl, hz, its, r', IsTup.new _ _⟩
  exact ⟨.ref h'.objs.size, _, I2, rfl, q _ _ (I1.hok.fresh (Nat.le_refl _)) rfl rfl⟩
def rDictT (K : PySem.W.Frag) : List V → Hp → VK → Prop := fun vs H Q => ∃ (a : Addr) (ps : List Addr) (kvs : List (Key × V)), vs = [.ref a] ∧ PlT H a (ps.map V.ref) ∧ Paired (fun p kv => SqT K H p [kV kv.1, kv.2]) ps kvs ∧
  ∀ p, H p = none → Q (.ref p) (upd H p (.dK (mergeK [] kvs)))
/-- dict(xs), xs a tuple of pairs (key, value) -/
theorem call_dictT (hcalm : X.calm = true) : CallR X (.type "dict") (rDictT X.K) := by
  intro pins s σ H xs us Q I r h
  obtain ⟨a, ps, kvs, rfl, ⟨o, ea, hd, hc⟩, hp, q⟩ := h
  obtain ⟨u, rfl, rx⟩ := vals1 r
  cases rx
  obtain ⟨ho, hz, its, rv, oT, hoT, hcT, n, hdT⟩ := I.hok a _ ea
  rw [ho] at hoT
  cases hoT
  have ei := refs_at rv
  subst ei
  rw [List.length_map] at hz
  obtain ⟨prs, rel, hl, hpr⟩ := pairs_of I hp
  have ex : ∀ j : Nat, ∃ q : Value × Value, ∀ p, prs[j]? = some p → q.2 = p.2 ∧ ∃ b, ps[j]? = some b ∧ IsTup s.heap b #[q.1, q.2] ∧ keyIs p.1 q.1 = true := fun j => by
    cases e : prs[j]? with
    | none => exact ⟨(.none, .none), fun p z => by cases z⟩
    | some p =>
      obtain ⟨b, u, e1, e2, e3⟩ := hpr j p e
      exact ⟨(u, p.2), fun p' z => by cases Option.some.inj z; exact ⟨rfl, b, e1, e2, e3⟩⟩
  obtain ⟨f, hf⟩ := Classical.skolem.mp ex
  have lk : ∀ (j : Nat) (k v : Value), ((List.range prs.length).map f)[j]? = some (k, v) → j < prs.length ∧ f j = (k, v) := fun j k v e => by
    rw [List.getElem?_map] at e
    cases e2 : (List.range prs.length)[j]? with
    | none => rw [e2] at e; cases e
    | some i =>
      rw [e2] at e
      have e3 := List.getElem?_eq_some_iff.mp e2
      obtain ⟨h1, h2⟩ := e3
      rw [List.getElem_range] at h2
      subst h2
      rw [List.length_range] at h1
      exact ⟨h1, Option.some.inj e⟩
  have ll : ((List.range prs.length).map f).length = prs.length := by rw [List.length_map, List.length_range]
  refine PySem.call_dict_pairs (knd := mixKind X.prog X.w) (kvs := prs) (PySem.PairArg.tuple a ((ps.map Value.ref).toArray) (fun j => (ps[j]?).getD 0) ((List.range prs.length).map f)) (I.ok.hd hcalm) ⟨⟨_, n, ho, hc, hd, hdT⟩, ?_, fun j k v e => ?_⟩ ⟨ll.symm, fun i key v e => ?_⟩ (by rw [ll, hl]; exact hz) fun h' tk hd' k => ?_
  · rw [ll, hl, List.size_toArray, List.length_map]
  · obtain ⟨h1, h2⟩ := lk j k v e
    obtain ⟨h3, b, h4, h5, _⟩ := hf j _ (List.getElem?_eq_getElem h1)
    rw [h2] at h5
    refine ⟨?_, .inl ?_⟩
    · show _ = some (Value.ref ((ps[j]?).getD 0))
      rw [List.getElem?_toArray, List.getElem?_map, h4]; rfl
    · show IsTup s.heap ((ps[j]?).getD 0) _
      rw [h4]; exact h5
  · obtain ⟨h1, h2⟩ := lk i key v e
    obtain ⟨h3, b, h4, h5, h6⟩ := hf i _ (List.getElem?_eq_getElem h1)
    rw [h2] at h3 h6
    exact ⟨prs[i].1, by rw [List.getElem?_eq_getElem h1]; exact congrArg some (Prod.ext rfl h3.symm), h6⟩
  · have hm : (s.heap.objs.size == sysModules) = false := beq_eq_false_iff_ne.mpr (Nat.ne_of_gt I.big)
    have hlen : (mergeK [] kvs).length ≤ sizeLine := by
      refine Nat.le_trans (length_mergeK kvs []) ?_
      rw [List.length_nil, Nat.zero_add, rel.length, hl]
      exact hz
    exact ⟨.ref s.heap.objs.size, _, I.laid (t' := tk) (o := .dK (mergeK [] kvs)) (fun b o e => k b o (fun h => nomatch h) e) (Nat.le_refl _) ⟨hlen, hm, merged [] prs, KV.merge rel .nil, hd'⟩, rfl, q _ (I.hok.fresh (Nat.le_refl _))⟩
end
end NG

set_option maxRecDepth 100000
set_option maxHeartbeats 4000000
namespace NW
open PySem L2 NG
def top (i : Nat) : Stmt := PySem.Challenge.pw_namewalk_k04_trees_as_things.main.body.getD i (.Pass ⟨0, 0, 0, 0⟩)
abbrev sState : Stmt := top 31
abbrev sDigit : Stmt := top 32
/-! ### draws -/
def spState : Sp := fun vs H Q _ => ∃ n : Int, vs = [.int n] ∧ ∀ p o, H p = none → DSo o → Q (.ref p) (upd H p o)
def spDigit : Sp := fun vs H Q _ => ∃ (p : Addr) (b : Int) (o : HO), vs = [.ref p, .int b] ∧ 0 < b ∧ b < 1073741824 ∧ H p = some o ∧ DSo o ∧
  ∀ (d : Int) (o' : HO), 0 ≤ d → d < b → DSo o' → Q (.int d) (upd H p o')
structure TxtA (mg : Str → Option Value) : Prop where
  m_int : mg "int" = none
  m_abs : mg "abs" = none
section
variable {P : Program} {w : World} {K : PySem.W.Frag} {mg : Str → Option Value} {base : Heap}
theorem scState : FnScope ["_law_source"] ["_law_source"] (defScope sState) := ⟨rfl, rfl, rfl, by decide +kernel, rfl, by decide +kernel, by decide +kernel⟩
theorem ok_state {f : Addr} {fd : FuncData} (F : Fun K "_law_state" "_law_state" sState f fd) (T : TxtA mg) : FnOk P w K mg base CX0 1 f fd ["_law_source"] spState := by
  have nd := scState.nd
  refine F.ok scState (fun vs H Q E h => ?_) (fun cdv A outer s H vs Q E hr h => ?_)
  · obtain ⟨n, rfl, _⟩ := h
    rfl
  · obtain ⟨n, rfl, k⟩ := h
    refine ⟨_, (pss_cons (ps_set (i := 0) nd rfl (Or.inl rfl) (pe_callB call_abs (by rfl) T.m_abs (by decide +kernel) (pa_cons (pv 0) pa_nil)))
  (pss_one (ps_ret (pe_lst (pa_cons (pe_op op_mul (pv 0) (pe_callTy call_int1 (by rfl) T.m_int (by decide +kernel) (pa_cons (pe_cmpR op_ge (pv 0) (pe_op op_pow pe_int pe_int) (nomark _)) pa_nil))) (pa_cons (pe_op op_add (pe_op op_mod (pe_callTy call_int1 (by rfl) T.m_int (by decide +kernel) (pa_cons (pv 0) pa_nil)) pe_int) pe_int) (pa_cons (pe_op op_mod (pe_callTy call_int1 (by rfl) T.m_int (by decide +kernel) (pa_cons (pv 0) pa_nil)) pe_int) pa_nil))))))), ?_⟩
    refine ⟨_, rfl, _, rfl, ?_⟩
    generalize hz : (if n < 0 then -n else n) = z
    have hz0 : 0 ≤ z := by rw [← hz]; split <;> omega
    refine ⟨_, rfl, _, rfl, _, _, rfl, rfl, ⟨by decide, by decide, by decide⟩, _, _, rfl, rfl, .inr ⟨_, rfl, ?_⟩⟩
    refine ⟨_, _, rfl, rfl, .inr ⟨by split <;> decide, by split <;> decide⟩, ?_⟩
    refine ⟨_, rfl, .inl ⟨_, rfl, _, _, rfl, rfl, (by show (0 : Int) < 2147483629; decide), _, _, rfl, rfl, ?_⟩⟩
    refine ⟨_, rfl, .inl ⟨_, rfl, _, _, rfl, rfl, (by show (0 : Int) < 2147483587; decide), ?_⟩⟩
    refine ⟨(by show 3 ≤ sizeLine; decide), fun p hp => k p _ hp ⟨_, _, _, rfl, ?_, ?_, ?_, ?_, ?_⟩⟩
    · split
      · omega
      · omega
    · have := Int.emod_nonneg z (by decide : (2147483629 : Int) ≠ 0); omega
    · have := Int.emod_lt_of_pos z (by decide : (0 : Int) < 2147483629); omega
    · exact Int.emod_nonneg z (by decide)
    · exact Int.emod_lt_of_pos z (by decide)
theorem scDigit : FnScope ["_law_state_here", "_law_base", "_law_found", "_law_mixed"] ["_law_state_here", "_law_base"] (defScope sDigit) := ⟨rfl, rfl, rfl, by decide +kernel, rfl, by decide +kernel, by decide +kernel⟩
theorem ok_digit {f : Addr} {fd : FuncData} (F : Fun K "_law_digit" "_law_digit" sDigit f fd) (T : TxtA mg) : FnOk P w K mg base CX0 1 f fd ["_law_state_here", "_law_base"] spDigit := by
  have nd := scDigit.nd
  refine F.ok scDigit (fun vs H Q E h => ?_) (fun cdv A outer s H vs Q E hr h => ?_)
  · obtain ⟨p, b, o, rfl, _⟩ := h
    rfl
  · obtain ⟨p, b, o, rfl, b0, b1, hp, ⟨a, m, c, rfl, ha, hm0, hm1, hc0, hc1⟩, k⟩ := h
    refine ⟨_, (pss_cons (ps_if (pt_cmpR op_gt (pe_ix ix_list (pv 0) pe_int (fun _ _ => rfl)) pe_int (nomark _)) (pss_cons (ps_set (i := 2) nd rfl (Or.inl rfl) (pe_op op_mod (pe_callTy call_int1 (by rfl) T.m_int (by decide +kernel) (pa_cons (pe_ix ix_list (pv 0) pe_int (fun _ _ => rfl)) pa_nil)) (pv 1)))
  (pss_cons (ps_asg (pe_op op_fdiv (pe_ix ix_list (pv 0) pe_int (fun _ _ => rfl)) (pv 1)) (pg_sub (pv 0) pe_int set_list))
  (pss_one (ps_ret (pv 2))))) pss_nil)
  (pss_cons (ps_set (i := 3) nd rfl (Or.inl rfl) (pe_op op_mul (pe_ix ix_list (pv 0) pe_int (fun _ _ => rfl)) (pe_op op_add (pe_op op_fdiv (pe_ix ix_list (pv 0) pe_int (fun _ _ => rfl)) pe_int) pe_int)))
  (pss_cons (ps_asg (pe_op op_add (pe_op op_mod (pe_callTy call_int1 (by rfl) T.m_int (by decide +kernel) (pa_cons (pe_op op_add (pv 3) (pe_ix ix_list (pv 0) pe_int (fun _ _ => rfl))) pa_nil)) pe_int) pe_int) (pg_sub (pv 0) pe_int set_list))
  (pss_one (ps_ret (pe_op op_mod (pe_callTy call_int1 (by rfl) T.m_int (by decide +kernel) (pa_cons (pe_op op_fdiv (pe_ix ix_list (pv 0) pe_int (fun _ _ => rfl)) pe_int) pa_nil)) (pv 1))))))), ?_⟩
    have sq : ∀ i : Int, SqL K H p [.int a, .int m, .int c] := fun _ => SqL.of hp
    refine ⟨_, rfl, p, _, _, _, rfl, rfl, SqL.of hp, rfl, _, _, rfl, rfl, _, rfl, ?_⟩
    refine ite2 (fun h => ?_) (fun h => ?_)
    · refine ⟨_, rfl, p, _, _, _, rfl, rfl, SqL.of hp, rfl, .inl ⟨_, rfl, _, rfl, _, _, rfl, rfl, b0, ?_⟩⟩
      refine ⟨_, rfl, p, _, _, _, rfl, rfl, SqL.of hp, rfl, _, rfl, _, _, rfl, rfl, ⟨b0, b1⟩, ?_⟩
      refine ⟨_, rfl, p, _, _, _, rfl, rfl, hp, rfl, _, rfl, ?_⟩
      exact k _ _ (Int.emod_nonneg _ (by omega)) (Int.emod_lt_of_pos _ b0) ⟨_, _, _, rfl, Int.ediv_nonneg ha (by omega), hm0, hm1, hc0, hc1⟩
    · refine ⟨_, rfl, p, _, _, _, rfl, rfl, SqL.of hp, rfl, _, rfl, p, _, _, _, rfl, rfl, SqL.of hp, rfl, _, _, rfl, rfl, ⟨by decide, by decide⟩, _, _, rfl, rfl, _, _, rfl, rfl, .inl ⟨by omega, by omega⟩, ?_⟩
      refine ⟨_, rfl, _, rfl, p, _, _, _, rfl, rfl, SqL.of hp, rfl, _, _, rfl, rfl, .inl ⟨_, rfl, _, _, rfl, rfl, (by show (0 : Int) < 2147483629; decide), _, _, rfl, rfl, ?_⟩⟩
      refine ⟨_, rfl, p, _, _, _, rfl, rfl, hp, rfl, ?_⟩
      refine ⟨_, rfl, p, _, _, _, rfl, rfl, SqL.of upd_same, rfl, _, _, rfl, rfl, ⟨by decide, by decide⟩, .inl ⟨_, rfl, _, rfl, _, _, rfl, rfl, b0, ?_⟩⟩
      have e0 := Int.emod_nonneg (m * (m / 1009 + 69621) + c) (by decide : (2147483629 : Int) ≠ 0)
      have e1 := Int.emod_lt_of_pos (m * (m / 1009 + 69621) + c) (by decide : (0 : Int) < 2147483629)
      exact k _ _ (Int.emod_nonneg _ (by omega)) (Int.emod_lt_of_pos _ b0) ⟨_, _, _, rfl, ha, by omega, by omega, hc0, hc1⟩
end
end NW

set_option maxRecDepth 100000
set_option maxHeartbeats 4000000
namespace NW
open PySem L2 NG
abbrev sName : Stmt := top 8
abbrev sStep : Stmt := top 10
/-! ### names -/
def letters : Str := "abcdefghijklmnopqrstuvwxyz0123456789_-."
def nameZ (z : Str) : Bool := decide (1 ≤ z.length) && decide (z.length ≤ 12) && (!(z == ("." : Str)) && !(z == (".." : Str))) && z.cps.toList.all (fun c => decide (c ∈ letters.cps.toList))
def stepZ (z : Str) : Bool := nameZ z || decide (z = ("..":Str))
structure TxtN (K : PySem.W.Frag) (mg : Str → Option Value) (fName fStep : Addr) : Prop where
  m_isinstance : mg "isinstance" = none
  m_str : mg "str" = none
  m_len : mg "len" = none
  m_all : mg "all" = none
  g_LONGEST_NAME : ∃ t, mg "LONGEST_NAME" = some (.int 12 t)
  g_NAME_LETTERS : ∃ t, mg "NAME_LETTERS" = some (.str letters t)
  g_is_name : mg "is_name" = some (.ref fName)
  kp_is_name : PySem.W.keepIn K (.ref fName) = true
  g_is_step : mg "is_step" = some (.ref fStep)
  kp_is_step : PySem.W.keepIn K (.ref fStep) = true
def spName : Sp := fun vs H Q _ => ∃ z : Str, vs = [.str z] ∧ z.length ≤ sizeLine ∧ ∀ H', Same H H' → Q (.bl (nameZ z)) H'
/-- a comprehension over a text's signs, its element pure -/
theorem lc_signs {z : Str} {te : TE} {i : Nat} {σ : St} {H1 : Hp} {D : Addr} {Q : Hp → Prop} (f : Nat → V) (hz : z.length ≤ sizeLine) (hD : H1 D = none)
    (he : ∀ (c : Nat) (H : Hp) (R : V → Hp → Prop), R (f c) H → te ((wipe σ [i]).set i (some (.str ⟨#[c]⟩))) H R)
    (hd : Q (upd H1 D (.lst (z.cps.toList.map f)))) :
    ∃ W : Nat → Nat → Hp → Prop, (∃ m, W 0 m (upd H1 D (.lst []))) ∧ ∀ k m H, W k m H →
      ((Its z).stop k H ∧ Q H) ∨ ((Its z).go k H ∧ ∃ Nx : Hp → Prop, (∀ H', Nx H' → ∃ m', m' < m ∧ W (k + 1) m' H') ∧ ∀ x H', (Its z).yld k H x H' → gName i x (wipe σ [i]) H' fun σ2 H2 => wipe σ2 [i] = wipe σ [i] ∧ tYes σ2 H2 fun b H3 =>
        if b = true then te σ2 H3 fun y H4 => ∃ acc, H4 D = some (.lst acc) ∧ acc.length < sizeLine ∧ Nx (upd H4 D (.lst (acc ++ [y]))) else Nx H3) := by
  refine lc_it walk_str (fun k H => H = upd H1 D (.lst ((z.cps.toList.take k).map f))) (by simp) (fun _ _ _ _ => True.intro) ?_ ?_
  · rintro k x H H' hk rfl ⟨rfl, c, hc, rfl⟩
    refine ⟨?_, ?_⟩
    · show List.set (List.set (List.set σ i none) i _) i none = List.set σ i none
      rw [List.set_set, List.set_set]
    · refine he c _ _ ?_
      refine ⟨_, upd_same, ?_, ?_⟩
      · rw [List.length_map, List.length_take]
        have : z.cps.toList.length = z.length := by simp [Str.length]
        have hk' : k < z.length := hk
        omega
      · rw [upd_upd]
        congr 2
        have hc' : z.cps.toList[k]? = some c := by simpa using hc
        rw [List.take_add_one, hc', List.map_append]
        rfl
  · rintro H rfl
    have : z.cps.toList.take z.cps.size = z.cps.toList := List.take_of_length_le (by simp)
    rw [this]
    exact hd
section
variable {P : Program} {w : World} {K : PySem.W.Frag} {mg : Str → Option Value} {base : Heap} {fName fStep : Addr}
theorem scName : FnScope ["value", "letter"] ["value"] (defScope sName) := ⟨rfl, rfl, rfl, by decide +kernel, rfl, by decide +kernel, by decide +kernel⟩
theorem ok_name {fd : FuncData} (F : Fun K "is_name" "is_name" sName fName fd) (T : TxtN K mg fName fStep) : FnOk P w K mg base CX0 1 fName fd ["value"] spName := by
  have nd := scName.nd
  obtain ⟨t1, g1⟩ := T.g_LONGEST_NAME
  obtain ⟨t2, g2⟩ := T.g_NAME_LETTERS
  refine F.ok scName (fun vs H Q E h => ?_) (fun cdv A outer s H vs Q E hr h => ?_)
  · obtain ⟨z, rfl, _⟩ := h
    rfl
  · obtain ⟨z, rfl, hz, k⟩ := h
    refine ⟨_, (pss_cons (ps_if (PW.pt (pw_or (pt_not (pt_val (pe_callB call_isi (by rfl) T.m_isinstance (by decide +kernel) (pa_cons (pv 0) (pa_cons (pe_bltn (v := .ty "str") (by rfl) T.m_str (by decide +kernel) rfl) pa_nil))))) (pw_or1 (pt_not (pt_chain op_le op_le pe_int (pe_callB call_len_str (by rfl) T.m_len (by decide +kernel) (pa_cons (pv 0) pa_nil)) (pe_glob (v := .int 12) (by rfl) g1 ⟨_, rfl⟩)))))) (pss_one (ps_ret pe_bl)) pss_nil)
  (pss_cons (ps_if (pt_cmpR op_in_seq (pv 0) (pe_tup (pa_cons pe_str (pa_cons pe_str pa_nil))) (by rfl)) (pss_one (ps_ret pe_bl)) pss_nil)
  (pss_one (ps_ret (pe_callB (cr_all rfl) (by rfl) T.m_all (by decide +kernel) (pa_cons (pe_lc (own := [("letter", 1)]) rfl nd (pi_str (pv 0)) (blkOk_by (N := ["value", "letter"]) (sc := defScope sName) (by decide +kernel)) (fun _ _ _ _ _ => (pg_name (i := 1) nd rfl (Or.inl rfl))) (fun _ _ _ _ _ => pts_nil) (fun _ _ _ _ _ => (pe_cmpR op_in_sign (pv 1) (pe_glob (v := .str letters) (by rfl) g2 ⟨_, rfl⟩) (by rfl)))) pa_nil)))))), ?_⟩
    refine ⟨_, rfl, _, _, _, _, true, rfl, .ty _, .base (.str z), rfl, _, rfl, ?_⟩
    refine iteF ?_
    refine ⟨_, rfl, _, rfl, hz, _, _, rfl, rfl, _, rfl, ?_⟩
    have cut : ∀ (c : Bool), (c = true → 1 ≤ z.length ∧ z.length ≤ 12) → (c = false → ¬ (1 ≤ z.length ∧ z.length ≤ 12)) → ∀ {A B : Prop}, ((nameZ z = false) → A) → ((1 ≤ z.length ∧ z.length ≤ 12) → B) → if (!c) = true then A else B := fun c h1 h2 A B ha hb => by
      cases c with
      | true => exact iteF (hb (h1 rfl))
      | false =>
        refine iteT (ha ?_)
        have q := h2 rfl
        unfold nameZ
        by_cases a1 : 1 ≤ z.length
        · have a2 : ¬ z.length ≤ 12 := fun a2 => q ⟨a1, a2⟩
          simp [a2]
        · simp [a1]
    have rest : (1 ≤ z.length ∧ z.length ≤ 12) → (tSeq (tIfS (tTest (tOp (rIn K false) (tVar 0) (tTup (tCons (tC (V.str ".")) (tCons (tC (V.str "..")) tNil))))) (tRet (tC (V.bl false))) tNext)
        (tRet (tCB (rAll K) (tCons (tLc (iStr (tVar 0)) (gName 1) tYes (tOp (fun x y H Q => ∃ c z, x = V.str { cps := #[c] } ∧ y = V.str z ∧ Q (V.bl (decide (c ∈ z.cps.toList))) H) (tVar 1) (tC (V.str letters))) [1]) tNil))) { nx := fun _ H' => Q V.non H', rt := Q }) (start ["value", "letter"] [V.str z]) H := fun ⟨l1, l2⟩ => by
      refine ⟨_, rfl, (by show 2 ≤ sizeLine; decide), fun p hp => ⟨p, _, rfl, .inr (SqT.of upd_same), rfl, rfl, _, rfl, ?_⟩⟩
      have s1 : Same H (upd H p (.tup [.str ".", .str ".."])) := NG.Same.upd hp
      have eI : (if false = true then !inV (V.str z) [V.str ".", V.str ".."] else inV (V.str z) [V.str ".", V.str ".."]) = (z == ("." : Str) || z == (".." : Str)) := by
        show (((("." : Str) == z) || (((".." : Str) == z) || false))) = _
        rw [Bool.or_false]
        congr 1
        · exact Bool.beq_comm
        · exact Bool.beq_comm
      rw [eI]
      refine ite2 (fun h => ?_) (fun h => ?_)
      · have e : nameZ z = false := by
          unfold nameZ
          have : (!(z == ("." : Str)) && !(z == (".." : Str))) = false := by
            rw [← Bool.not_or, h]; rfl
          rw [this]; simp
        have := k _ s1
        rw [e] at this
        exact this
      · refine ⟨_, rfl, z, rfl, fun D hD => lc_signs (fun c => .bl (decide (c ∈ letters.cps.toList))) hz hD (fun c H R hR => ⟨_, rfl, c, letters, rfl, rfl, hR⟩) ?_⟩
        refine ⟨D, z.cps.toList.map (fun c => decide (c ∈ letters.cps.toList)), rfl, SqL.of ?_, ?_⟩
        · rw [upd_same, List.map_map]
          rfl
        · have e : nameZ z = (z.cps.toList.map (fun c => decide (c ∈ letters.cps.toList))).all id := by
            unfold nameZ
            have : (!(z == ("." : Str)) && !(z == (".." : Str))) = true := by
              rw [← Bool.not_or]
              simpa using h
            rw [this, List.all_map]
            simp [l1, l2]
          rw [← e]
          exact k _ (s1.trans (NG.Same.upd hD))
    refine ite2 (fun c1 => ?_) (fun c1 => ?_)
    · refine ⟨_, _, rfl, rfl, _, rfl, ?_⟩
      have c1' : (1 : Int) ≤ (z.length : Int) := of_decide_eq_true c1
      refine cut _ (fun h => ⟨by omega, by have := of_decide_eq_true h; omega⟩) (fun h q => by have := of_decide_eq_false h; omega) (fun e => ?_) rest
      have := k _ (Same.refl H)
      rw [e] at this
      exact this
    · refine ⟨_, rfl, ?_⟩
      refine cut _ (fun h => by cases h) (fun _ q => c1 (decide_eq_true (by omega))) (fun e => ?_) rest
      have := k _ (Same.refl H)
      rw [e] at this
      exact this
end
end NW

set_option maxRecDepth 100000
set_option maxHeartbeats 4000000
namespace NW
open PySem L2 NG
def spStep : Sp := fun vs H Q _ => ∃ z : Str, vs = [.str z] ∧ z.length ≤ sizeLine ∧ ∀ H', Same H H' → Q (.bl (stepZ z)) H'
section
variable {P : Program} {w : World} {K : PySem.W.Frag} {mg : Str → Option Value} {base : Heap} {fName fStep : Addr}
theorem scStep : FnScope ["value"] ["value"] (defScope sStep) := ⟨rfl, rfl, rfl, by decide +kernel, rfl, by decide +kernel, by decide +kernel⟩
theorem ok_step {fd fdN : FuncData} (F : Fun K "is_step" "is_step" sStep fStep fd) (T : TxtN K mg fName fStep) (G_is_name : FnOk P w K mg base CX0 1 fName fdN ["value"] spName) (b_is_name : Binds K fdN ["value"] []) :
    FnOk P w K mg base CX0 2 fStep fd ["value"] spStep := by
  have nd := scStep.nd
  refine F.ok scStep (fun vs H Q E h => ?_) (fun cdv A outer s H vs Q E hr h => ?_)
  · obtain ⟨z, rfl, _⟩ := h
    rfl
  · obtain ⟨z, rfl, hz, k⟩ := h
    have hr_is_name : Room 1 _ := hr
    refine ⟨_, (pss_one (ps_ret (pe_or (pe_call G_is_name hr_is_name (by rfl) T.g_is_name T.kp_is_name b_is_name .nil pass0 (pa_cons (pv 0) pa_nil)) (pe_one (pe_cmpR op_eq (pv 0) pe_str (nomark _)))))), ?_⟩
    refine ⟨_, rfl, z, rfl, hz, fun H' s1 => ⟨_, rfl, ?_⟩⟩
    have k' := k _ s1
    unfold stepZ at k'
    refine ite2 (fun c => ?_) (fun c => ?_)
    · rw [c] at k'
      exact k'
    · have c' : nameZ z = false := by simpa using c
      rw [c'] at k'
      refine ⟨_, rfl, rfl, ?_⟩
      rw [Bool.false_or] at k'
      have e : decide (V.str z = V.str "..") = decide (z = (".." : Str)) := by
        by_cases h : z = ".."
        · simp [h]
        · rw [decide_eq_false h, decide_eq_false (fun q => h (V.str.inj q))]
      show Q (V.bl (decide (V.str z = V.str ".."))) H'
      rw [e]
      exact k'
end
end NW

set_option maxRecDepth 100000
set_option maxHeartbeats 4000000
namespace NW
open PySem L2 NG
abbrev sBad : Stmt := top 11
/-! ### texts -/
def plain (p : Str) : Bool := (p == ("" : Str)) || (p == ("." : Str))
def badPart (p : Str) : Bool := !plain p && !stepZ p
def goBad : Nat → List Str → Option Nat
  | _, [] => none
  | k, p :: r => if badPart p then some k else goBad (k + p.length + 1) r
def partsOf (z : Str) : List Str := Txt.split z "/"
def badP (z : Str) : Option Nat := if z = ("" : Str) then some 0 else goBad 0 (partsOf z)
def spBad (K : PySem.W.Frag) : Sp := fun vs H Q _ => (∃ (x : V) (t : Value), vs = [x] ∧ TyX K H x t ∧ PySem.W.kitOne K t (.type "str") = some false ∧ Q (.int 0) H) ∨
  (∃ z : Str, vs = [.str z] ∧ z.length + 2 ≤ sizeLine ∧ (∀ p ∈ partsOf z, p.length ≤ sizeLine) ∧ (∀ n, badP z = some n → ∀ H', Same H H' → Q (.int (n : Nat)) H') ∧ (badP z = none → ∀ H', Same H H' → Q .non H'))
theorem inV2 (x a b : Str) : (if true = true then !inV (V.str x) [V.str a, V.str b] else inV (V.str x) [V.str a, V.str b]) = !(x == a || x == b) := by
  show (!((a == x) || ((b == x) || false))) = _
  rw [Bool.or_false, Bool.beq_comm (a := a), Bool.beq_comm (a := b)]
section
variable {P : Program} {w : World} {K : PySem.W.Frag} {mg : Str → Option Value} {base : Heap} {fName fStep fBad : Addr}
theorem scBad : FnScope ["text", "place", "part"] ["text"] (defScope sBad) := ⟨rfl, rfl, rfl, by decide +kernel, rfl, by decide +kernel, by decide +kernel⟩
theorem ok_bad {fd fdS : FuncData} (F : Fun K "bad_place" "bad_place" sBad fBad fd) (T : TxtN K mg fName fStep) (G_is_step : FnOk P w K mg base CX0 2 fStep fdS ["value"] spStep) (b_is_step : Binds K fdS ["value"] []) :
    FnOk P w K mg base CX0 3 fBad fd ["text"] (spBad K) := by
  have nd := scBad.nd
  refine F.ok scBad (fun vs H Q E h => ?_) (fun cdv A outer s H vs Q E hr h => ?_)
  · rcases h with ⟨x, t, rfl, _⟩ | ⟨z, rfl, _⟩
    · rfl
    · rfl
  · have hr_is_step : Room 2 _ := hr
    refine ⟨_, (pss_cons (ps_if (PW.pt (pw_or (pt_not (pt_val (pe_callB call_isi (by rfl) T.m_isinstance (by decide +kernel) (pa_cons (pv 0) (pa_cons (pe_bltn (v := .ty "str") (by rfl) T.m_str (by decide +kernel) rfl) pa_nil))))) (pw_or1 (pt_cmpR op_eq (pv 0) pe_str (nomark _))))) (pss_one (ps_ret pe_int)) pss_nil)
  (pss_cons (ps_set (i := 1) nd rfl (Or.inl rfl) pe_int)
  (pss_cons (ps_for PassesOwn.never rfl (pi_list (pe_split (pv 0) pe_str)) (pg_name (i := 2) nd rfl (Or.inl rfl))
  (pss_cons (ps_if (PW.pt (pw_and (pt_cmpR op_notIn_seq (pv 2) (pe_tup (pa_cons pe_str (pa_cons pe_str pa_nil))) (by rfl)) (pw_and1 (pt_not (pt_val (pe_call G_is_step hr_is_step (by rfl) T.g_is_step T.kp_is_step b_is_step .nil pass0 (pa_cons (pv 2) pa_nil))))))) (pss_one (ps_ret (pv 1))) pss_nil)
  (pss_one (ps_aug (i := 1) nd rfl (Or.inl rfl) (pe_op op_add (pe_callB call_len_str (by rfl) T.m_len (by decide +kernel) (pa_cons (pv 2) pa_nil)) pe_int) ip_add))))
  (pss_one (ps_ret pe_non))))), ?_⟩
    rcases h with ⟨x, t, rfl, ty, kt, k⟩ | ⟨z, rfl, hz, hps, kS, kN⟩
    · exact ⟨_, rfl, _, _, _, _, false, rfl, .ty _, ty, kt, _, rfl, iteT k⟩
    · refine ⟨_, rfl, _, _, _, _, true, rfl, .ty _, .base (.str z), rfl, _, rfl, ?_⟩
      refine iteF ?_
      refine ⟨_, rfl, rfl, _, rfl, ?_⟩
      by_cases h0 : z = ("" : Str)
      · rw [decide_eq_true (by rw [h0])]
        refine iteT ?_
        exact kS 0 (by unfold badP; rw [if_pos h0]) H (Same.refl H)
      · rw [decide_eq_false (fun q => h0 (V.str.inj q))]
        refine iteF ?_
        have eb : badP z = goBad 0 (partsOf z) := by unfold badP; rw [if_neg h0]
        refine ⟨_, rfl, ⟨z, rfl⟩, z, "/", rfl, rfl, by decide +kernel, hz, fun p hp => ⟨p, rfl, ⟨_, SqL.of upd_same⟩, ?_⟩⟩
        have s1 : Same H (upd H p (.lst ((partsOf z).map V.str))) := NG.Same.upd hp
        refine for_list (K := K) (a := p) (xs := (partsOf z).map V.str) (fun i σ H' => ∃ (n : Nat) (v : Option V), σ = [some (.str z), some (.int (n : Nat)), v] ∧ Same (upd H p (.lst ((partsOf z).map V.str))) H' ∧ badP z = goBad n ((partsOf z).drop i))
          ⟨0, none, rfl, Same.refl _, eb⟩ (fun i σ H' _ ⟨_, _, _, s2, _⟩ => SqL.of (s2 _ _ upd_same)) ?_ ?_
        · rintro i y σ H' hi ⟨n, v, rfl, s2, eg⟩
          obtain ⟨q, hq, rfl⟩ : ∃ q, (partsOf z)[i]? = some q ∧ y = V.str q := by
            rw [List.getElem?_map] at hi
            cases e : (partsOf z)[i]? with
            | none => rw [e] at hi; cases hi
            | some q => rw [e] at hi; exact ⟨q, rfl, (Option.some.inj hi).symm⟩
          have hdrop : (partsOf z).drop i = q :: (partsOf z).drop (i + 1) := by
            have hlt := (List.getElem?_eq_some_iff.mp hq).1
            rw [List.drop_eq_getElem_cons hlt, (List.getElem?_eq_some_iff.mp hq).2]
          have ql := hps q (List.mem_of_getElem? hq)
          rw [hdrop] at eg
          unfold goBad at eg
          have go : ∀ H2, Same H' H2 → badPart q = false → (tAug 1 (tOp (rI0 fun i j => V.int (i + j)) (tCB (fun xs H Q => ∃ z, xs = [V.str z] ∧ z.length ≤ sizeLine ∧ Q (V.int z.length) H) (tCons (tVar 2) tNil)) (tC (V.int 1))) (ipI fun i j => i + j)
              { nx := fun σ H' => ∃ (n : Nat) (v : Option V), σ = [some (.str z), some (.int (n : Nat)), v] ∧ Same (upd H p (.lst ((partsOf z).map V.str))) H' ∧ badP z = goBad n ((partsOf z).drop (i + 1)), rt := Q }
              [some (.str z), some (.int (n : Nat)), some (.str q)] H2) := fun H2 s3 hb => by
            refine ⟨_, rfl, _, rfl, _, rfl, ql, _, _, rfl, rfl, _, _, rfl, rfl, ?_⟩
            refine ⟨n + q.length + 1, some (.str q), ?_, s2.trans s3, ?_⟩
            · show [some (V.str z), some (V.int ((n : Int) + ((q.length : Int) + 1))), some (V.str q)] = _
              have : (n : Int) + ((q.length : Int) + 1) = ((n + q.length + 1 : Nat) : Int) := by omega
              rw [this]
            · rw [eg, hb]
              rfl
          refine ⟨_, rfl, (by show 2 ≤ sizeLine; decide), fun t ht => ⟨t, _, rfl, .inr (SqT.of upd_same), rfl, rfl, _, rfl, ?_⟩⟩
          have s3 : Same H' (upd H' t (.tup [.str "", .str "."])) := NG.Same.upd ht
          rw [inV2]
          cases hpl : plain q with
          | true =>
            have e1 : ((q == ("" : Str)) || (q == ("." : Str))) = true := hpl
            rw [e1]
            refine iteF ?_
            refine iteF ?_
            exact go _ s3 (by unfold badPart; rw [hpl]; rfl)
          | false =>
            have e1 : ((q == ("" : Str)) || (q == ("." : Str))) = false := hpl
            rw [e1]
            refine iteT ?_
            refine ⟨_, rfl, q, rfl, ql, fun H2 s4 => ⟨_, rfl, ?_⟩⟩
            cases hst : stepZ q with
            | true =>
              refine iteF ?_
              exact go _ (s3.trans s4) (by unfold badPart; rw [hst]; simp)
            | false =>
              refine iteT ?_
              refine ⟨_, rfl, ?_⟩
              have hb : badPart q = true := by unfold badPart; rw [hst, hpl]; rfl
              rw [hb, if_pos rfl] at eg
              exact kS n eg _ (s1.trans (s2.trans (s3.trans s4)))
        · rintro σ H' ⟨n, v, rfl, s2, eg⟩
          rw [List.length_map, List.drop_length] at eg
          exact kN eg _ (s1.trans s2)
end
end NW

set_option maxRecDepth 100000
set_option maxHeartbeats 4000000
namespace NW
open PySem L2 NG
def okS (z : Str) : Prop := z.length ≤ sizeLine ∧ z.cps.all (· < 0x110000) = true
def stepsOf (ps : List Str) : List Str := ps.filter fun p => !plain p
def absOf (ps : List Str) : Bool := match ps.head? with
  | none => false
  | some q => decide (q = ("" : Str))
def fol3 (q : Str) : Bool := q == ("" : Str) || (q == ("." : Str) || q == (".." : Str))
def folOf (ps : List Str) : Bool := match ps.getLast? with
  | none => false
  | some q => fol3 q
/-- z is read as the components ps -/
structure PartsAre (z : Str) (ps : List Str) : Prop where
  sp : partsOf z = ps
  ne : ps ≠ []
  ok : ∀ p ∈ ps, okS p
  zl : z.length + 2 ≤ sizeLine
  pl : ps.length < sizeLine
theorem goBad_none : ∀ {ps : List Str} {k : Nat}, goBad k ps = none → ∀ p ∈ ps, badPart p = false
  | [], _, _, p, hp => by cases hp
  | q :: r, k, h, p, hp => by
    unfold goBad at h
    cases hb : badPart q with
    | true => rw [hb, if_pos rfl] at h; cases h
    | false =>
      rw [hb, if_neg Bool.false_ne_true] at h
      rcases List.mem_cons.mp hp with rfl | hp
      · exact hb
      · exact goBad_none h p hp
theorem len_app (x y : Str) : (x ++ y).length = x.length + y.length := by
  rw [TL.len_tl, TL.len_tl x, TL.len_tl y, TL.tl_append, List.length_append]
theorem len_join_le (xs : List Str) : (Txt.join "/" xs).length ≤ (xs.map (·.length)).sum + xs.length := by
  have h : ("/" : Str).length = 1 := by decide +kernel
  rw [TL.join_eq]
  induction xs with
  | nil => show (Str.join "/" []).length ≤ 0; exact Nat.le_refl 0
  | cons x r ih =>
    cases r with
    | nil => show x.length ≤ _; simp
    | cons y q =>
      show (x ++ ("/" : Str) ++ Str.join "/" (y :: q)).length ≤ _
      rw [len_app, len_app, h]
      simp only [List.map_cons, List.sum_cons, List.length_cons] at ih ⊢
      omega
end NW

set_option maxRecDepth 100000
set_option maxHeartbeats 4000000
namespace NG
open PySem L2
theorem strs_of {R : Str → Prop} : ∀ {xs : List V}, (∀ x ∈ xs, ∃ z, x = V.str z ∧ R z) → ∃ ys : List Str, xs = ys.map V.str ∧ ∀ z ∈ ys, R z
  | [], _ => ⟨[], rfl, by simp⟩
  | x :: r, h => by
    obtain ⟨z, rfl, hz⟩ := h x List.mem_cons_self
    obtain ⟨ys, rfl, hy⟩ := strs_of (xs := r) fun y hy => h y (List.mem_cons_of_mem _ hy)
    refine ⟨z :: ys, rfl, fun q hq => ?_⟩
    rcases List.mem_cons.mp hq with rfl | hq
    · exact hz
    · exact hy q hq
theorem mem_joinL {c : Nat} {S : List Nat} : ∀ {ps : List (List Nat)}, c ∈ TL.joinL S ps → c ∈ S ∨ ∃ p ∈ ps, c ∈ p
  | [], h => by cases h
  | [p], h => .inr ⟨p, List.mem_cons_self, h⟩
  | p :: q :: r, h => by
    rcases List.mem_append.mp (show c ∈ p ++ (S ++ TL.joinL S (q :: r)) from h) with h | h
    · exact .inr ⟨p, List.mem_cons_self, h⟩
    · rcases List.mem_append.mp h with h | h
      · exact .inl h
      · rcases mem_joinL h with h | ⟨x, hx, h⟩
        · exact .inl h
        · exact .inr ⟨x, List.mem_cons_of_mem _ hx, h⟩
theorem mem_join {c : Nat} {y : Str} {ps : List Str} (h : c ∈ (Txt.join y ps).cps.toList) : c ∈ y.cps.toList ∨ ∃ p ∈ ps, c ∈ p.cps.toList := by
  rw [TL.join_eq] at h
  have h' : c ∈ TL.tl (Str.join y ps) := h
  rw [TL.tl_join] at h'
  rcases mem_joinL h' with h | ⟨x, hx, h⟩
  · exact .inl h
  · obtain ⟨p, hp, rfl⟩ := List.mem_map.mp hx
    exact .inr ⟨p, hp, h⟩
end NG
namespace NW
open PySem L2 NG
theorem len_join_gen (y : Str) (xs : List Str) : (Txt.join y xs).length ≤ (xs.map (·.length)).sum + xs.length * y.length := by
  rw [TL.join_eq]
  induction xs with
  | nil => show (Str.join y []).length ≤ _; exact Nat.zero_le _
  | cons x r ih =>
    cases r with
    | nil => show x.length ≤ _; simp only [List.map_cons, List.sum_cons]; omega
    | cons z q =>
      show (x ++ y ++ Str.join y (z :: q)).length ≤ _
      rw [len_app, len_app]
      simp only [List.map_cons, List.sum_cons, List.length_cons] at ih ⊢
      rw [Nat.add_mul (q.length + 1) 1, Nat.one_mul]
      omega
/-- a component that may be drawn -/
def compB (z : Str) : Bool := decide (z.length ≤ 5000) && z.cps.toList.all (fun c => decide (c < 128) && decide (c ≠ 47))
theorem compB_ok {z : Str} (h : compB z = true) : okS z := by
  unfold compB at h
  rw [Bool.and_eq_true] at h
  refine ⟨Nat.le_trans (of_decide_eq_true h.1) (by decide), ?_⟩
  rw [← Array.all_toList, List.all_eq_true]
  intro c hc
  have := List.all_eq_true.mp h.2 c hc
  simp only [Bool.and_eq_true, decide_eq_true_eq] at this
  simp only [decide_eq_true_eq]
  omega
theorem compB_sl {z : Str} (h : compB z = true) : 47 ∉ z.cps.toList := by
  unfold compB at h
  rw [Bool.and_eq_true] at h
  intro hc
  have := List.all_eq_true.mp h.2 47 hc
  simp at this
theorem compB_len {z : Str} (h : compB z = true) : z.length ≤ 5000 := by
  unfold compB at h
  rw [Bool.and_eq_true] at h
  exact of_decide_eq_true h.1
theorem long_a : compB (Txt.mul "a" 5000) = true := by
  have e : (Txt.mul "a" 5000).cps.toList = List.replicate 5000 97 := by
    have h1 : ("a" : Str).cps = #[97] := by decide +kernel
    have h2 : Txt.mul "a" 5000 = ⟨(List.replicate 5000 ("a" : Str).cps).foldl (· ++ ·) #[]⟩ := by
      unfold Txt.mul
      rw [if_neg (by decide), if_neg (by decide +kernel)]
      rfl
    rw [h2, foldl_app, h1]
    show [] ++ (List.replicate 5000 [97]).flatten = _
    rw [List.nil_append]
    have : ∀ k : Nat, (List.replicate k [97]).flatten = List.replicate k 97 := fun k => by
      induction k with
      | zero => rfl
      | succ k ih => rw [List.replicate_succ, List.flatten_cons, ih, List.replicate_succ]; rfl
    exact this 5000
  unfold compB
  rw [e, Bool.and_eq_true]
  refine ⟨decide_eq_true ?_, ?_⟩
  · rw [TL.len_tl]
    show (Txt.mul "a" 5000).cps.toList.length ≤ 5000
    rw [e, List.length_replicate]
    exact Nat.le_refl _
  · rw [List.all_eq_true]
    intro c hc
    rw [(List.mem_replicate.mp hc).2]
    decide
theorem len_zero {p : Str} (h : p.length = 0) : p = ("" : Str) := by
  apply TL.ext_tl
  have : (TL.tl p).length = 0 := by rw [← TL.len_tl]; exact h
  rw [List.eq_nil_of_length_eq_zero this]
  decide +kernel
theorem goBad_cons (n : Nat) (q : Str) (r : List Str) : goBad n (q :: r) = if badPart q then some n else goBad (n + q.length + 1) r := rfl
end NW

set_option maxRecDepth 100000
set_option maxHeartbeats 4000000
namespace NW
open PySem L2 NG
theorem tl_slash : TL.tl ("/" : Str) = [47] := by decide +kernel
theorem tl_empty : TL.tl ("" : Str) = [] := by decide +kernel
theorem parts_join {ps : List Str} (hne : ps ≠ []) (hp : ∀ p ∈ ps, compB p = true) : partsOf (Txt.join "/" ps) = ps :=
  TL.split_join (s := 47) (S := []) tl_slash (by decide +kernel) hne fun p h => compB_sl (hp p h)
theorem sum_len {ps : List Str} (hp : ∀ p ∈ ps, compB p = true) : (ps.map (·.length)).sum ≤ ps.length * 5000 := by
  induction ps with
  | nil => simp
  | cons x r ih =>
    have h1 := compB_len (hp x List.mem_cons_self)
    have h2 := ih fun p h => hp p (List.mem_cons_of_mem _ h)
    simp only [List.map_cons, List.sum_cons, List.length_cons]
    omega
theorem parts_are {ps : List Str} (hne : ps ≠ []) (hp : ∀ p ∈ ps, compB p = true) (hl : ps.length ≤ 20) : PartsAre (Txt.join "/" ps) ps := by
  have h1 := len_join_le ps
  have h2 := sum_len hp
  have hs : sizeLine = 16777216 := sizeLine_eq
  exact ⟨parts_join hne hp, hne, fun p h => compB_ok (hp p h), by omega, by omega⟩
theorem goBad_of : ∀ {ps : List Str} {k : Nat}, (∀ p ∈ ps, badPart p = false) → goBad k ps = none
  | [], _, _ => rfl
  | q :: r, k, h => by
    rw [goBad_cons, h q List.mem_cons_self, if_neg (by decide)]
    exact goBad_of fun p hp => h p (List.mem_cons_of_mem _ hp)
/-- joined lists -/
theorem jl_cons (S p : List Nat) (r : List (List Nat)) (h : r ≠ []) : TL.joinL S (p :: r) = p ++ (S ++ TL.joinL S r) := by
  cases r with
  | nil => exact absurd rfl h
  | cons q r => rfl
theorem jl_snoc (S q : List Nat) : ∀ (ps : List (List Nat)), ps ≠ [] → TL.joinL S (ps ++ [q]) = TL.joinL S ps ++ (S ++ q)
  | [], h => absurd rfl h
  | [p], _ => rfl
  | p :: z :: r, _ => by
    have ih := jl_snoc S q (z :: r) (by simp)
    rw [List.cons_append, jl_cons _ _ _ (by simp), ih, jl_cons _ _ (z :: r) (by simp)]
    simp only [List.append_assoc]
theorem tl_joinT (ps : List Str) : TL.tl (Txt.join "/" ps) = TL.joinL [47] (ps.map TL.tl) := by rw [TL.join_eq, TL.tl_join, tl_slash]

end NW

set_option maxRecDepth 100000
set_option maxHeartbeats 4000000
/-! xs + ys of lists that are to be read, locked ones too -/
namespace NG
open PySem L2 PyProof.Rows
def rCatS (K : PySem.W.Frag) : R2 := fun x y H Q => ∃ (l b : Addr) (xs zs : List V), x = .ref l ∧ y = .ref b ∧ SqL K H l xs ∧ SqL K H b zs ∧ xs.length + zs.length ≤ sizeLine ∧ ∀ p, H p = none → Q (.ref p) (L2.upd H p (.lst (xs ++ zs)))
theorem op_catS {X : Cx} : OpR X (binaryOp .Add) (rCatS X.K) := by
  intro pins s σ H x y v u Q I rx ry h
  obtain ⟨l, b, xs, zs, rfl, rfl, h1, h2, hz, q⟩ := h
  cases rx
  cases ry
  obtain ⟨its, r, ⟨⟨c1, d1, t1, s1⟩, n, e, ec, ed, et⟩, _⟩ := I.list h1
  obtain ⟨its2, r2, ⟨⟨c2, d2, t2, s2⟩, n2, e2, ec2, ed2, et2⟩, _⟩ := I.list h2
  simp only at ec ed et ec2 ed2 et2
  subst ec ed et ec2 ed2 et2
  have hl : its.toArray.size + its2.toArray.size ≤ sizeLine := by rw [List.size_toArray, List.size_toArray, ← r.length, ← r2.length]; exact hz
  have ea : its.toArray ++ its2.toArray = (its ++ its2).toArray := by simp
  refine concat_meets ⟨_, e, rfl⟩ ⟨_, e2, rfl⟩ noFill_list_add seq_list_add PySem.F.slot_list_add PySem.F.entry_list_add (PySem.F.args_list_add_2 _ _) (list_addW l b its.toArray its2.toArray n n2 none none s1 s2 hl) ⟨e, e2, ?_⟩
  rw [ea]
  exact ⟨.ref _, _, I.lnew (t' := s.toks) (r.append r2) (by rw [List.length_append]; omega), rfl, q _ I.fresh⟩
end NG

set_option maxRecDepth 100000
set_option maxHeartbeats 8000000
namespace NW
open PySem L2 NG
abbrev sNum : Stmt := top 6
abbrev sOwner : Stmt := top 7
abbrev sAt : Stmt := top 25
abbrev sPool : Stmt := top 33
abbrev sFree : Stmt := top 34
abbrev sTxt : Stmt := top 35
structure TxtK (K : PySem.W.Frag) (mg : Str → Option Value) (fNum fAt fDigit fPool : Addr) : Prop where
  m_isinstance : mg "isinstance" = none
  m_int : mg "int" = none
  m_bool : mg "bool" = none
  m_len : mg "len" = none
  m_range : mg "range" = none
  m_min : mg "min" = none
  g_is_number : mg "is_number" = some (.ref fNum)
  kp_is_number : PySem.W.keepIn K (.ref fNum) = true
  g_is_at : mg "is_at" = some (.ref fAt)
  kp_is_at : PySem.W.keepIn K (.ref fAt) = true
  g_digit : mg "_law_digit" = some (.ref fDigit)
  kp_digit : PySem.W.keepIn K (.ref fDigit) = true
  g_pool : mg "_law_pool" = some (.ref fPool)
  kp_pool : PySem.W.keepIn K (.ref fPool) = true
/-! ### numbers -/
def spNum (K : PySem.W.Frag) : Sp := fun vs H Q _ => ∃ (v : V) (t : Value) (bi bb : Bool), vs = [v] ∧ TyX K H v t ∧ PySem.W.kitOne K t (.type "int") = some bi ∧ PySem.W.kitOne K t (.type "bool") = some bb ∧ Q (.bl (bi && !bb)) H
def spOwner : Sp := fun vs H Q _ => ∃ n : Int, vs = [.int n] ∧ Q (.bl (decide (0 ≤ n))) H
/-- whether a value is the number of one of so many nodes -/
def spAt (K : PySem.W.Frag) : Sp := fun vs H Q _ => ∃ (a : Addr) (xs : List V) (v : V), vs = [.ref a, v] ∧ SqT K H a xs ∧
  ((∃ n : Int, v = .int n ∧ Q (.bl (decide (0 ≤ n) && decide (n < (xs.length : Nat)))) H) ∨ ∃ (t : Value) (bi bb : Bool), TyX K H v t ∧ PySem.W.kitOne K t (.type "int") = some bi ∧ PySem.W.kitOne K t (.type "bool") = some bb ∧ (bi && !bb) = false ∧ Q (.bl false) H)
section
variable {P : Program} {w : World} {K : PySem.W.Frag} {mg : Str → Option Value} {base : Heap} {fNum fOwner fAt fDigit fPool fFree fTxt : Addr}
theorem scNum : FnScope ["value"] ["value"] (defScope sNum) := ⟨rfl, rfl, rfl, by decide +kernel, rfl, by decide +kernel, by decide +kernel⟩
theorem ok_num {fd : FuncData} (F : Fun K "is_number" "is_number" sNum fNum fd) (T : TxtK K mg fNum fAt fDigit fPool) : FnOk P w K mg base CX0 1 fNum fd ["value"] (spNum K) := by
  refine F.ok scNum (fun vs H Q E h => ?_) (fun cdv A outer s H vs Q E hr h => ?_)
  · obtain ⟨v, t, bi, bb, rfl, _⟩ := h
    rfl
  · obtain ⟨v, t, bi, bb, rfl, ty, ki, kb, k⟩ := h
    refine ⟨_, (pss_one (ps_ret (pe_and (pe_callB call_isi (by rfl) T.m_isinstance (by decide +kernel) (pa_cons (pv 0) (pa_cons (pe_bltn (v := .ty "int") (by rfl) T.m_int (by decide +kernel) rfl) pa_nil))) (pe_one (pe_not (pe_callB call_isi (by rfl) T.m_isinstance (by decide +kernel) (pa_cons (pv 0) (pa_cons (pe_bltn (v := .ty "bool") (by rfl) T.m_bool (by decide +kernel) rfl) pa_nil)))))))), ?_⟩
    refine ⟨_, rfl, _, _, _, _, bi, rfl, .ty _, ty, ki, _, rfl, ?_⟩
    cases bi with
    | false => exact iteF k
    | true => exact iteT ⟨_, rfl, _, _, _, _, bb, rfl, .ty _, ty, kb, _, rfl, k⟩
theorem scOwner : FnScope ["value"] ["value"] (defScope sOwner) := ⟨rfl, rfl, rfl, by decide +kernel, rfl, by decide +kernel, by decide +kernel⟩
theorem ok_owner {fd fdN : FuncData} (F : Fun K "is_owner" "is_owner" sOwner fOwner fd) (T : TxtK K mg fNum fAt fDigit fPool) (G : FnOk P w K mg base CX0 1 fNum fdN ["value"] (spNum K)) (b : Binds K fdN ["value"] []) : FnOk P w K mg base CX0 2 fOwner fd ["value"] spOwner := by
  refine F.ok scOwner (fun vs H Q E h => ?_) (fun cdv A outer s H vs Q E hr h => ?_)
  · obtain ⟨n, rfl, _⟩ := h
    rfl
  · obtain ⟨n, rfl, k⟩ := h
    have hr1 : Room 1 _ := hr
    refine ⟨_, (pss_one (ps_ret (pe_and (pe_call G hr1 (by rfl) T.g_is_number T.kp_is_number b .nil pass0 (pa_cons (pv 0) pa_nil)) (pe_one (pe_cmpR op_ge (pv 0) pe_int (nomark _)))))), ?_⟩
    exact ⟨_, rfl, .int n, _, true, false, rfl, .base (.int n), rfl, rfl, _, rfl, iteT ⟨_, rfl, _, _, rfl, rfl, k⟩⟩
theorem scAt : FnScope ["nodes", "number"] ["nodes", "number"] (defScope sAt) := ⟨rfl, rfl, rfl, by decide +kernel, rfl, by decide +kernel, by decide +kernel⟩
theorem ok_at {fd fdN : FuncData} (F : Fun K "is_at" "is_at" sAt fAt fd) (T : TxtK K mg fNum fAt fDigit fPool) (G : FnOk P w K mg base CX0 1 fNum fdN ["value"] (spNum K)) (b : Binds K fdN ["value"] []) : FnOk P w K mg base CX0 2 fAt fd ["nodes", "number"] (spAt K) := by
  refine F.ok scAt (fun vs H Q E h => ?_) (fun cdv A outer s H vs Q E hr h => ?_)
  · obtain ⟨a, xs, v, rfl, _⟩ := h
    rfl
  · obtain ⟨a, xs, v, rfl, hS, k⟩ := h
    have hr1 : Room 1 _ := hr
    refine ⟨_, (pss_one (ps_ret (pe_and (pe_call G hr1 (by rfl) T.g_is_number T.kp_is_number b .nil pass0 (pa_cons (pv 1) pa_nil)) (pe_one (pe_chain op_le op_lt pe_int (pv 1) (pe_callB call_len_seq (by rfl) T.m_len (by decide +kernel) (pa_cons (pv 0) pa_nil))))))), ?_⟩
    rcases k with ⟨n, rfl, k⟩ | ⟨t, bi, bb, ty, ki, kb, e, k⟩
    · refine ⟨_, rfl, .int n, _, true, false, rfl, .base (.int n), rfl, rfl, _, rfl, iteT ?_⟩
      refine ⟨_, rfl, _, _, rfl, rfl, _, rfl, ?_⟩
      refine ite2 (fun h => ?_) (fun h => ?_)
      · rw [h, Bool.true_and] at k
        exact ⟨_, rfl, a, xs, rfl, .inr hS, _, _, rfl, rfl, k⟩
      · have h' : decide (0 ≤ n) = false := by simpa using h
        rw [h', Bool.false_and] at k
        exact k
    · refine ⟨_, rfl, v, t, bi, bb, rfl, ty, ki, kb, _, rfl, ?_⟩
      rw [e]
      exact iteF k
/-! ### drawn texts -/
def pool : List Str := ["a", "b", "c", "...", "a.b", "x-1", "_", "0", "-", ".a", "abcdefghijkl", "b..", "zz"]
def spPool : Sp := fun vs H Q _ => vs = [] ∧ ∀ l, H l = none → Q (.ref l) (upd H l (.lst (pool.map V.str)))
theorem scPool : FnScope [] [] (defScope sPool) := ⟨rfl, rfl, rfl, by decide +kernel, rfl, by decide +kernel, by decide +kernel⟩
theorem ok_pool {fd : FuncData} (F : Fun K "_law_pool" "_law_pool" sPool fPool fd) : FnOk P w K mg base CX0 1 fPool fd [] spPool := by
  refine F.ok scPool (fun vs H Q E h => ?_) (fun cdv A outer s H vs Q E hr h => ?_)
  · rw [h.1]
    rfl
  · obtain ⟨rfl, k⟩ := h
    refine ⟨_, (pss_one (ps_ret (pe_lst (pa_cons pe_str (pa_cons pe_str (pa_cons pe_str (pa_cons pe_str (pa_cons pe_str (pa_cons pe_str (pa_cons pe_str (pa_cons pe_str (pa_cons pe_str (pa_cons pe_str (pa_cons pe_str (pa_cons pe_str (pa_cons pe_str pa_nil)))))))))))))))), ?_⟩
    exact ⟨(by show 13 ≤ sizeLine; decide), fun l hl => k l hl⟩
/-- a path's text, by its components -/
def LinkText (z : Str) : Prop := ∃ qs : List Str, qs ≠ [] ∧ (∀ q ∈ qs, compB q = true ∧ badPart q = false) ∧ qs.length ≤ 7 ∧ z = Txt.join "/" qs ∧ z ≠ ("" : Str)
def spTxt : Sp := fun vs H Q _ => ∃ p : Addr, vs = [.ref p] ∧ (∃ o, H p = some o ∧ DSo o) ∧ ∀ z H', LinkText z → Dr p H H' → Q (.str z) H'
def compL : List Str := ["a", "b", "c", "..", ".", "", "...", "a.b"]
theorem compL_ok : ∀ q ∈ compL, compB q = true ∧ badPart q = false := by decide +kernel
theorem cps_ext {x y : Str} (h : TL.tl x = TL.tl y) : x = y := by
  have : x.cps.toList = y.cps.toList := h
  cases x; cases y
  congr
  exact Array.toList_inj.mp this
theorem join_lead {ps : List Str} (h : ps ≠ []) : ("/" : Str) ++ Txt.join "/" ps = Txt.join "/" (("" : Str) :: ps) := by
  apply cps_ext
  rw [TL.tl_append, tl_slash, tl_joinT, tl_joinT, List.map_cons, jl_cons _ _ _ (by simpa using h), tl_empty]
  rfl
theorem join_trail {ps : List Str} (h : ps ≠ []) : Txt.join "/" ps ++ ("/" : Str) = Txt.join "/" (ps ++ [("" : Str)]) := by
  apply cps_ext
  rw [TL.tl_append, tl_slash, tl_joinT, tl_joinT, List.map_append, List.map_cons, List.map_nil, jl_snoc _ _ _ (by simpa using h), tl_empty]
  simp
theorem empty_app (x : Str) : ("" : Str) ++ x = x := by
  apply cps_ext
  rw [TL.tl_append, tl_empty, List.nil_append]
theorem app_empty (x : Str) : x ++ ("" : Str) = x := by
  apply cps_ext
  rw [TL.tl_append, tl_empty, List.append_nil]
theorem ce_ok : compB ("" : Str) = true ∧ badPart ("" : Str) = false := by decide +kernel
theorem text_of {ps : List Str} (hne : ps ≠ []) (ok : ∀ q ∈ ps, compB q = true ∧ badPart q = false) {lead trail : Str} (hl : lead = ("" : Str) ∨ lead = ("/" : Str)) (ht : trail = ("" : Str) ∨ trail = ("/" : Str)) :
    ∃ qs : List Str, qs ≠ [] ∧ (∀ q ∈ qs, compB q = true ∧ badPart q = false) ∧ qs.length ≤ ps.length + 2 ∧ lead ++ Txt.join "/" ps ++ trail = Txt.join "/" qs := by
  have h1 : ∃ rs : List Str, rs ≠ [] ∧ (∀ q ∈ rs, compB q = true ∧ badPart q = false) ∧ rs.length ≤ ps.length + 1 ∧ lead ++ Txt.join "/" ps = Txt.join "/" rs := by
    rcases hl with rfl | rfl
    · exact ⟨ps, hne, ok, by omega, empty_app _⟩
    · refine ⟨("" : Str) :: ps, by simp, fun q hq => ?_, by simp, join_lead hne⟩
      rcases List.mem_cons.mp hq with rfl | hq
      · exact ce_ok
      · exact ok q hq
  obtain ⟨rs, r1, r2, r3, r4⟩ := h1
  rw [r4]
  rcases ht with rfl | rfl
  · exact ⟨rs, r1, r2, by omega, app_empty _⟩
  · refine ⟨rs ++ [("" : Str)], by simp, fun q hq => ?_, by simp; omega, join_trail r1⟩
    rcases List.mem_append.mp hq with hq | hq
    · exact r2 q hq
    · rw [List.mem_singleton.mp hq]; exact ce_ok
theorem scTxt : FnScope ["_law_s", "_law_parts", "_law_text_here", "_law_turn"] ["_law_s"] (defScope sTxt) := ⟨rfl, rfl, rfl, by decide +kernel, rfl, by decide +kernel, by decide +kernel⟩
theorem slash_pick {v : V} (h : v ∈ [V.str "", V.str "", V.str "/"]) : ∃ z : Str, v = .str z ∧ (z = ("" : Str) ∨ z = ("/" : Str)) := by
  simp only [List.mem_cons, List.not_mem_nil, or_false] at h
  rcases h with rfl | rfl | rfl
  · exact ⟨_, rfl, .inl rfl⟩
  · exact ⟨_, rfl, .inl rfl⟩
  · exact ⟨_, rfl, .inr rfl⟩
theorem ok_txt {fd fdD : FuncData} (F : Fun K "_law_text" "_law_text" sTxt fTxt fd) (T : TxtK K mg fNum fAt fDigit fPool) (G : FnOk P w K mg base CX0 1 fDigit fdD ["_law_state_here", "_law_base"] spDigit) (b : Binds K fdD ["_law_state_here", "_law_base"] []) :
    FnOk P w K mg base CX0 2 fTxt fd ["_law_s"] spTxt := by
  have nd := scTxt.nd
  refine F.ok scTxt (fun vs H Q E h => ?_) (fun cdv A outer s H vs Q E hr h => ?_)
  · obtain ⟨p, rfl, _⟩ := h
    rfl
  · obtain ⟨p, rfl, ⟨o, hp, dso⟩, k⟩ := h
    have hr1 : Room 1 _ := hr
    have hs : sizeLine = 16777216 := sizeLine_eq
    have h1 : ("/" : Str).length = 1 := by decide +kernel
    refine ⟨_, (pss_cons (ps_setLc (i := 1) (own := [("_law_turn", 3)]) (te := tOp (rIxL K) (tLst (tCons (tC (V.str "a")) (tCons (tC (V.str "b")) (tCons (tC (V.str "c")) (tCons (tC (V.str "..")) (tCons (tC (V.str ".")) (tCons (tC (V.str "")) (tCons (tC (V.str "...")) (tCons (tC (V.str "a.b")) tNil))))))))) (tCall spDigit [] E0 (tCons (tVar 0) (tCons (tC (V.int 8)) tNil)))) rfl nd rfl rfl (sw_true rfl rfl rfl (by decide +kernel)) (pi_range1 (by rfl) T.m_range (pa_cons (pe_op op_add pe_int (pe_call G hr1 (by rfl) T.g_digit T.kp_digit b .nil pass0 (pa_cons (pv 0) (pa_cons pe_int pa_nil)))) pa_nil)) (blkOk_by (N := ["_law_s", "_law_parts", "_law_text_here", "_law_turn"]) (sc := defScope sTxt) (by decide +kernel)) (fun _ _ _ _ _ => (pg_name (i := 3) nd rfl (Or.inl rfl))) (fun _ _ _ _ _ => pts_nil) (fun _ _ _ _ _ => (pe_ix ix_list (pe_lst (pa_cons pe_str (pa_cons pe_str (pa_cons pe_str (pa_cons pe_str (pa_cons pe_str (pa_cons pe_str (pa_cons pe_str (pa_cons pe_str pa_nil))))))))) (pe_call G hr1 (by rfl) T.g_digit T.kp_digit b .nil pass0 (pa_cons (pv 0) (pa_cons pe_int pa_nil))) (fun _ _ => rfl))))
  (pss_cons (ps_set (i := 2) nd rfl (Or.inl rfl) (pe_op op_add_str (pe_op op_add_str (pe_ix ix_list (pe_lst (pa_cons pe_str (pa_cons pe_str (pa_cons pe_str pa_nil)))) (pe_call G hr1 (by rfl) T.g_digit T.kp_digit b .nil pass0 (pa_cons (pv 0) (pa_cons pe_int pa_nil))) (fun _ _ => rfl)) (pe_join pe_str (pv 1))) (pe_ix ix_list (pe_lst (pa_cons pe_str (pa_cons pe_str (pa_cons pe_str pa_nil)))) (pe_call G hr1 (by rfl) T.g_digit T.kp_digit b .nil pass0 (pa_cons (pv 0) (pa_cons pe_int pa_nil))) (fun _ _ => rfl))))
  (pss_one (ps_ret (pe_ifExp (pt_cmpR op_ne (pv 2) pe_str (nomark _)) (pv 2) pe_str))))), ?_⟩
    refine ⟨_, rfl, p, 4, o, rfl, by decide, by decide, hp, dso, fun d o1 d0 d1 ho1 => ⟨_, _, rfl, rfl, _, rfl, by omega, by omega, fun D hD => ?_⟩⟩
    have dr1 : Dr p H (upd H p o1) := (Dr.refl hp dso).next ho1
    have hp1 : (upd H p o1) p = some o1 := upd_same
    generalize upd H p o1 = H1 at dr1 hp1 hD
    refine lc_draw (n := (1 + d).toNat) (p := p) (fun x _ => ∃ z, x = V.str z ∧ compB z = true ∧ badPart z = false) (small1000 (by omega)) hD (Dr.refl hp1 ho1) (fun _ _ _ _ h => h) (fun _ _ _ _ h => h) (fun i H2 R hi dr2 hR => ?_) (fun H2 xs dr2 e2 el hx => ?_)
    · refine ⟨(by show 8 ≤ sizeLine; decide), fun q hq => ?_⟩
      obtain ⟨o2, hp2, ho2⟩ := dr2.st
      have npq : p ≠ q := ne_of_none hp2 hq
      have dr3 := dr2.same (NG.Same.upd (o := HO.lst [V.str "a", V.str "b", V.str "c", V.str "..", V.str ".", V.str "", V.str "...", V.str "a.b"]) hq)
      refine ⟨_, rfl, p, 8, o2, rfl, by decide, by decide, by rw [upd_ne npq]; exact hp2, ho2, fun e o3 e0 e1 ho3 => ?_⟩
      obtain ⟨v, hv, ev⟩ := pick (xs := compL.map V.str) e0 e1
      obtain ⟨z, hz, rfl⟩ := List.mem_map.mp hv
      refine ⟨q, compL.map V.str, e, _, rfl, rfl, SqL.of (by rw [upd_ne npq.symm]; exact upd_same), ev, ?_⟩
      refine hR _ _ ⟨z, rfl, compL_ok z hz⟩ ⟨fun b x eb nb => by rw [upd_ne nb, upd_ne (ne_of_none eb hq)]; exact eb, o3, upd_same, ho3⟩
    obtain ⟨ys, rfl, hy⟩ := strs_of hx
    rw [List.length_map] at el
    have yl : ys.length ≤ 4 := by omega
    have yne : ys ≠ [] := by intro q; rw [q] at el; simp at el; omega
    have dr3 := dr1.trans dr2
    -- lead
    refine ⟨(by show 3 ≤ sizeLine; decide), fun q hq => ?_⟩
    obtain ⟨o3, hp3, ho3⟩ := dr3.st
    have npq : p ≠ q := ne_of_none hp3 hq
    have nDp : D ≠ p := (ne_of_none hp1 hD).symm
    have dr4 := dr3.same (NG.Same.upd (o := HO.lst [V.str "", V.str "", V.str "/"]) hq)
    refine ⟨_, rfl, p, 3, o3, rfl, by decide, by decide, by rw [upd_ne npq]; exact hp3, ho3, fun e o4 e0 e1 ho4 => ?_⟩
    have dr5 := dr4.next ho4
    have eD : (upd (upd H2 q (HO.lst [V.str "", V.str "", V.str "/"])) p o4) D = some (.lst (ys.map V.str)) := by rw [upd_ne nDp, upd_ne (ne_of_none e2 hq)]; exact e2
    have eq : (upd (upd H2 q (HO.lst [V.str "", V.str "", V.str "/"])) p o4) q = some (.lst [V.str "", V.str "", V.str "/"]) := by rw [upd_ne npq.symm, upd_same]
    generalize upd (upd H2 q (HO.lst [V.str "", V.str "", V.str "/"])) p o4 = H5 at dr5 eD eq
    obtain ⟨v, hv, ev⟩ := pick (xs := [V.str "", V.str "", V.str "/"]) e0 e1
    obtain ⟨lead, rfl, hlead⟩ := slash_pick hv
    refine ⟨q, _, e, _, rfl, rfl, SqL.of eq, ev, ?_⟩
    -- join
    have xsum := sum_len (fun z hz => (hy z hz).1)
    have jlen := len_join_le ys
    refine ⟨⟨"/", rfl⟩, _, rfl, "/", D, ys, rfl, rfl, .inl (SqL.of eD), (by rw [h1]; omega), ?_⟩
    have ll : lead.length ≤ 1 := by rcases hlead with rfl | rfl <;> decide +kernel
    refine ⟨_, _, rfl, rfl, by omega, ?_⟩
    -- trail
    refine ⟨(by show 3 ≤ sizeLine; decide), fun q2 hq2 => ?_⟩
    obtain ⟨o5, hp5, ho5⟩ := dr5.st
    have npq2 : p ≠ q2 := ne_of_none hp5 hq2
    have dr6 := dr5.same (NG.Same.upd (o := HO.lst [V.str "", V.str "", V.str "/"]) hq2)
    refine ⟨_, rfl, p, 3, o5, rfl, by decide, by decide, by rw [upd_ne npq2]; exact hp5, ho5, fun g o6 g0 g1 ho6 => ?_⟩
    have dr7 := dr6.next ho6
    have eq2 : (upd (upd H5 q2 (HO.lst [V.str "", V.str "", V.str "/"])) p o6) q2 = some (.lst [V.str "", V.str "", V.str "/"]) := by rw [upd_ne npq2.symm, upd_same]
    generalize upd (upd H5 q2 (HO.lst [V.str "", V.str "", V.str "/"])) p o6 = H7 at dr7 eq2
    obtain ⟨v2, hv2, ev2⟩ := pick (xs := [V.str "", V.str "", V.str "/"]) g0 g1
    obtain ⟨trail, rfl, htrail⟩ := slash_pick hv2
    refine ⟨q2, _, g, _, rfl, rfl, SqL.of eq2, ev2, ?_⟩
    have lt : trail.length ≤ 1 := by rcases htrail with rfl | rfl <;> decide +kernel
    refine ⟨_, _, rfl, rfl, by rw [TL.len_tl, TL.tl_append, List.length_append, ← TL.len_tl, ← TL.len_tl]; omega, ?_⟩
    obtain ⟨qs, r1, r2, r3, r4⟩ := text_of yne hy hlead htrail
    refine ⟨_, rfl, rfl, _, rfl, ?_⟩
    rw [r4]
    by_cases h0 : Txt.join "/" qs = ("" : Str)
    · rw [h0]
      refine ite2 (fun h => absurd h (by decide +kernel)) (fun _ => ?_)
      refine k _ _ ⟨[("." : Str)], by simp, fun q hq => ?_, by simp, ?_, by decide +kernel⟩ dr7
      · rw [List.mem_singleton.mp hq]; decide +kernel
      · rw [TL.join_eq]; rfl
    · have e0 : (!decide (V.str (Txt.join "/" qs) = V.str "")) = true := by
        rw [decide_eq_false (fun q => h0 (V.str.inj q))]; rfl
      rw [e0]
      refine iteT ⟨_, rfl, ?_⟩
      exact k _ _ ⟨qs, r1, r2, by omega, rfl, h0⟩ dr7
end
end NW

set_option maxRecDepth 100000
set_option maxHeartbeats 4000000
/-! trees as lists of nodes: no heap, no program (LT: what a link's text must be, PL: what a name must be) -/
namespace TR
open PySem
inductive Nd where
  | fol (o : Int) (es : List (Str × Nat))
  | fil (o : Int)
  | lnk (o : Int) (t : Str)
  | gon (o : Int) (ab : Nat)
def Nd.owner : Nd → Int
  | .fol o _ => o
  | .fil o => o
  | .lnk o _ => o
  | .gon o _ => o
def Nd.ents : Nd → List (Str × Nat)
  | .fol _ es => es
  | _ => []
def Nd.isGone : Nd → Bool
  | .gon _ _ => true
  | _ => false
def Nd.isFol : Nd → Bool
  | .fol _ _ => true
  | _ => false
/-- how many entries lead to k -/
def cntE (es : List (Str × Nat)) (k : Nat) : Nat := es.countP fun e => e.2 == k
def cnt (nds : List Nd) (k : Nat) : Nat := (nds.map fun nd => cntE nd.ents k).sum
theorem cnt_nil (k : Nat) : cnt [] k = 0 := rfl
theorem cnt_cons (nd : Nd) (r : List Nd) (k : Nat) : cnt (nd :: r) k = cntE nd.ents k + cnt r k := by unfold cnt; simp
theorem cnt_app (a b : List Nd) (k : Nat) : cnt (a ++ b) k = cnt a k + cnt b k := by unfold cnt; simp
theorem cntE_app (a b : List (Str × Nat)) (k : Nat) : cntE (a ++ b) k = cntE a k + cntE b k := by unfold cntE; rw [List.countP_append]
theorem cntE_one (n : Str) (j k : Nat) : cntE [(n, j)] k = if j = k then 1 else 0 := by
  unfold cntE
  by_cases h : j = k
  · simp [h]
  · simp [h]
theorem cnt_set {nds : List Nd} {i : Nat} {nd nd' : Nd} (h : nds[i]? = some nd) (k : Nat) : cnt (nds.set i nd') k + cntE nd.ents k = cnt nds k + cntE nd'.ents k := by
  induction nds generalizing i with
  | nil => cases h
  | cons x r ih =>
    cases i with
    | zero =>
      have e : x = nd := Option.some.inj h
      subst e
      rw [List.set_cons_zero, cnt_cons, cnt_cons]
      omega
    | succ i =>
      have := ih (i := i) h
      rw [List.set_cons_succ, cnt_cons, cnt_cons]
      omega
theorem cnt_pos {nds : List Nd} {k : Nat} (h : 0 < cnt nds k) : ∃ (i : Nat) (nd : Nd) (e : Str × Nat), nds[i]? = some nd ∧ e ∈ nd.ents ∧ e.2 = k := by
  induction nds with
  | nil => cases h
  | cons x r ih =>
    rw [cnt_cons] at h
    by_cases h0 : 0 < cntE x.ents k
    · obtain ⟨e, he, hk⟩ := List.countP_pos_iff.mp h0
      exact ⟨0, x, e, rfl, he, by simpa using hk⟩
    · obtain ⟨i, nd, e, h1, h2, h3⟩ := ih (by omega)
      exact ⟨i + 1, nd, e, h1, h2, h3⟩
theorem cnt_ge {nds : List Nd} {k i : Nat} {nd : Nd} (h : nds[i]? = some nd) : cntE nd.ents k ≤ cnt nds k := by
  induction nds generalizing i with
  | nil => cases h
  | cons x r ih =>
    rw [cnt_cons]
    cases i with
    | zero => rw [Option.some.inj h]; omega
    | succ i => have := ih (i := i) h; omega
theorem cnt_two {nds : List Nd} {k i j : Nat} {a b : Nd} (hi : nds[i]? = some a) (hj : nds[j]? = some b) (hij : i ≠ j) : cntE a.ents k + cntE b.ents k ≤ cnt nds k := by
  induction nds generalizing i j with
  | nil => cases hi
  | cons x r ih =>
    rw [cnt_cons]
    cases i with
    | zero =>
      cases j with
      | zero => exact absurd rfl hij
      | succ j =>
        rw [Option.some.inj hi]
        have := cnt_ge (k := k) (show r[j]? = some b from hj)
        omega
    | succ i =>
      cases j with
      | zero =>
        rw [Option.some.inj hj]
        have := cnt_ge (k := k) (show r[i]? = some a from hi)
        omega
      | succ j =>
        have := ih (i := i) (j := j) hi hj (by omega)
        omega
/-- what every drawn tree keeps; once: whether the folder k must stand in just one entry -/
structure Base (LT PL : Str → Prop) (nds : List Nd) : Prop where
  root : ∃ o es, nds[0]? = some (.fol o es)
  own : ∀ (i : Nat) (nd : Nd), nds[i]? = some nd → 0 ≤ nd.owner
  ent : ∀ (i : Nat) (nd : Nd), nds[i]? = some nd → ∀ e ∈ nd.ents, PL e.1 ∧ i < e.2 ∧ ∃ nd', nds[e.2]? = some nd' ∧ nd'.isGone = false
  uniq : ∀ (i : Nat) (nd : Nd), nds[i]? = some nd → (nd.ents.map (·.1)).Nodup ∧ nd.ents.length ≤ 12
  lnk : ∀ (i : Nat) (o : Int) (t : Str), nds[i]? = some (.lnk o t) → LT t
  gon : ∀ (i : Nat) (o : Int) (ab : Nat), nds[i]? = some (.gon o ab) → ab < i ∧ ∃ o' es, nds[ab]? = some (.fol o' es)
structure WF (LT PL : Str → Prop) (nds : List Nd) : Prop where
  base : Base LT PL nds
  once : ∀ (k : Nat) (nd : Nd), 0 < k → nds[k]? = some nd → nd.isFol = true → cnt nds k = 1
/-- the last node is a folder that no entry leads to as yet -/
structure Pend (LT PL : Str → Prop) (nds : List Nd) (n : Nat) : Prop where
  base : Base LT PL nds
  len : nds.length = n + 1
  pos : 0 < n
  last : ∃ o, nds[n]? = some (.fol o [])
  none : cnt nds n = 0
  gone : ∀ (i : Nat) (o : Int), nds[i]? ≠ some (.gon o n)
  once : ∀ (k : Nat) (nd : Nd), 0 < k → k < n → nds[k]? = some nd → nd.isFol = true → cnt nds k = 1
section
variable {LT PL : Str → Prop} {nds : List Nd}
theorem Base.nodes (b : Base LT PL nds) : 0 < nds.length := by
  obtain ⟨o, es, h⟩ := b.root
  exact (List.getElem?_eq_some_iff.mp h).1
theorem get_snoc {nd x : Nd} {i : Nat} (h : (nds ++ [x])[i]? = some nd) : nds[i]? = some nd ∨ (i = nds.length ∧ nd = x) := by
  by_cases hi : i < nds.length
  · rw [List.getElem?_append_left hi] at h
    exact .inl h
  · have hl : i < (nds ++ [x]).length := (List.getElem?_eq_some_iff.mp h).1
    rw [List.length_append, List.length_singleton] at hl
    have e : i = nds.length := by omega
    subst e
    rw [List.getElem?_append_right (Nat.le_refl _), Nat.sub_self] at h
    exact .inr ⟨rfl, (Option.some.inj h).symm⟩
theorem get_keep {nd x : Nd} {i : Nat} (h : nds[i]? = some nd) : (nds ++ [x])[i]? = some nd := by
  rw [List.getElem?_append_left (List.getElem?_eq_some_iff.mp h).1]
  exact h
theorem base_snoc (b : Base LT PL nds) {x : Nd} (ho : 0 ≤ x.owner) (he : x.ents = []) (hl : ∀ o t, x = .lnk o t → LT t) (hg : ∀ o ab, x = .gon o ab → ∃ o' es, nds[ab]? = some (.fol o' es)) : Base LT PL (nds ++ [x]) where
  root := let ⟨o, es, h⟩ := b.root; ⟨o, es, get_keep h⟩
  own := fun i nd h => by
    rcases get_snoc h with h | ⟨_, rfl⟩
    · exact b.own i nd h
    · exact ho
  ent := fun i nd h e q => by
    rcases get_snoc h with h | ⟨_, rfl⟩
    · obtain ⟨h1, h2, nd', h3, h4⟩ := b.ent i nd h e q
      exact ⟨h1, h2, nd', get_keep h3, h4⟩
    · rw [he] at q
      cases q
  uniq := fun i nd h => by
    rcases get_snoc h with h | ⟨_, rfl⟩
    · exact b.uniq i nd h
    · rw [he]
      exact ⟨List.nodup_nil, Nat.zero_le _⟩
  lnk := fun i o t h => by
    rcases get_snoc h with h | ⟨_, e⟩
    · exact b.lnk i o t h
    · exact hl o t e.symm
  gon := fun i o ab h => by
    rcases get_snoc h with h | ⟨hi, e⟩
    · obtain ⟨h1, o', es, h2⟩ := b.gon i o ab h
      exact ⟨h1, o', es, get_keep h2⟩
    · obtain ⟨o', es, h2⟩ := hg o ab e.symm
      have := (List.getElem?_eq_some_iff.mp h2).1
      exact ⟨by omega, o', es, get_keep h2⟩
theorem cnt_snoc {x : Nd} (he : x.ents = []) (k : Nat) : cnt (nds ++ [x]) k = cnt nds k := by
  rw [cnt_app, cnt_cons, cnt_nil, he]
  rfl
theorem wf_snoc (b : WF LT PL nds) {x : Nd} (hf : x.isFol = false) (ho : 0 ≤ x.owner) (hl : ∀ o t, x = .lnk o t → LT t) (hg : ∀ o ab, x = .gon o ab → ∃ o' es, nds[ab]? = some (.fol o' es)) : WF LT PL (nds ++ [x]) := by
  have he : x.ents = [] := by cases x <;> first | rfl | cases hf
  refine ⟨base_snoc b.base ho he hl hg, fun k nd hk h f => ?_⟩
  rw [cnt_snoc he]
  rcases get_snoc h with h | ⟨_, rfl⟩
  · exact b.once k nd hk h f
  · rw [hf] at f; cases f
/-- no entry leads behind the nodes -/
theorem cnt_behind (b : Base LT PL nds) {k : Nat} (h : nds.length ≤ k) : cnt nds k = 0 := by
  rcases Nat.eq_zero_or_pos (cnt nds k) with e | e
  · exact e
  · obtain ⟨i, nd, en, h1, h2, h3⟩ := cnt_pos e
    obtain ⟨_, _, nd', h4, _⟩ := b.ent i nd h1 en h2
    have := (List.getElem?_eq_some_iff.mp h4).1
    omega
theorem pend_snoc (b : WF LT PL nds) {o : Int} (ho : 0 ≤ o) : Pend LT PL (nds ++ [.fol o []]) nds.length where
  base := base_snoc b.base ho rfl (fun _ _ e => by cases e) (fun _ _ e => by cases e)
  len := by simp
  pos := b.base.nodes
  last := ⟨o, by rw [List.getElem?_append_right (Nat.le_refl _), Nat.sub_self]; rfl⟩
  none := by rw [cnt_snoc rfl]; exact cnt_behind b.base (Nat.le_refl _)
  gone := fun i o' h => by
    rcases get_snoc h with h | ⟨_, e⟩
    · obtain ⟨h1, _⟩ := b.base.gon i o' _ h
      have := (List.getElem?_eq_some_iff.mp h).1
      omega
    · cases e
  once := fun k nd hk hn h f => by
    rw [cnt_snoc rfl]
    rcases get_snoc h with h | ⟨e, _⟩
    · exact b.once k nd hk h f
    · omega
theorem get_set {nd x : Nd} {i j : Nat} (h : (nds.set i x)[j]? = some nd) : (i = j ∧ nd = x ∧ i < nds.length) ∨ (i ≠ j ∧ nds[j]? = some nd) := by
  by_cases e : i = j
  · subst e
    have hl : i < nds.length := by have := (List.getElem?_eq_some_iff.mp h).1; rwa [List.length_set] at this
    rw [List.getElem?_set_self hl] at h
    exact .inl ⟨rfl, (Option.some.inj h).symm, hl⟩
  · rw [List.getElem?_set_ne e] at h
    exact .inr ⟨e, h⟩
theorem set_at {x : Nd} {i : Nat} (h : i < nds.length) : (nds.set i x)[i]? = some x := List.getElem?_set_self h
/-- an entry more -/
theorem base_ent (b : Base LT PL nds) {i k : Nat} {o : Int} {es : List (Str × Nat)} {n : Str} {nk : Nd} (h : nds[i]? = some (.fol o es)) (hn : PL n) (hu : n ∉ es.map (·.1)) (hl : es.length < 12) (hk : nds[k]? = some nk) (hg : nk.isGone = false) (hik : i < k) :
    Base LT PL (nds.set i (.fol o (es ++ [(n, k)]))) := by
  have hi : i < nds.length := (List.getElem?_eq_some_iff.mp h).1
  -- what stood at j stands there still, but for the entries of i
  have keep : ∀ (j : Nat) (nd : Nd), nds[j]? = some nd → ∃ nd', (nds.set i (.fol o (es ++ [(n, k)])))[j]? = some nd' ∧ nd'.isGone = nd.isGone ∧ nd'.isFol = nd.isFol := fun j nd q => by
    by_cases e : i = j
    · subst e
      rw [h] at q
      cases Option.some.inj q
      exact ⟨_, set_at hi, rfl, rfl⟩
    · exact ⟨nd, by rw [List.getElem?_set_ne e]; exact q, rfl, rfl⟩
  have fol : ∀ (j : Nat) (o' : Int) (es' : List (Str × Nat)), nds[j]? = some (.fol o' es') → ∃ o'' es'', (nds.set i (.fol o (es ++ [(n, k)])))[j]? = some (.fol o'' es'') := fun j o' es' q => by
    obtain ⟨nd', h1, _, h3⟩ := keep j _ q
    cases nd' with
    | fol o'' es'' => exact ⟨o'', es'', h1⟩
    | _ => cases h3
  refine ⟨?_, ?_, ?_, ?_, ?_, ?_⟩
  · obtain ⟨o', es', h0⟩ := b.root
    exact fol 0 o' es' h0
  · intro j nd q
    rcases get_set q with ⟨_, rfl, _⟩ | ⟨_, q⟩
    · have := b.own i (.fol o es) h
      exact this
    · exact b.own j nd q
  · intro j nd q e he
    rcases get_set q with ⟨rfl, rfl, _⟩ | ⟨_, q⟩
    · rcases List.mem_append.mp he with he | he
      · obtain ⟨h1, h2, nd', h3, h4⟩ := b.ent i _ h e he
        obtain ⟨nd'', h5, h6, _⟩ := keep _ _ h3
        exact ⟨h1, h2, nd'', h5, by rw [h6, h4]⟩
      · rw [List.mem_singleton.mp he]
        obtain ⟨nd'', h5, h6, _⟩ := keep _ _ hk
        exact ⟨hn, hik, nd'', h5, by rw [h6, hg]⟩
    · obtain ⟨h1, h2, nd', h3, h4⟩ := b.ent j _ q e he
      obtain ⟨nd'', h5, h6, _⟩ := keep _ _ h3
      exact ⟨h1, h2, nd'', h5, by rw [h6, h4]⟩
  · intro j nd q
    rcases get_set q with ⟨rfl, rfl, _⟩ | ⟨_, q⟩
    · have hb := b.uniq i _ h
      refine ⟨?_, ?_⟩
      · show ((es ++ [(n, k)]).map (·.1)).Nodup
        rw [List.map_append, List.nodup_append]
        refine ⟨hb.1, by simp, fun x hx y hy => ?_⟩
        rw [List.map_cons, List.map_nil, List.mem_singleton] at hy
        subst hy
        intro e
        subst e
        exact hu hx
      · show (es ++ [(n, k)]).length ≤ 12
        rw [List.length_append, List.length_singleton]
        omega
    · exact b.uniq j nd q
  · intro j o' t q
    rcases get_set q with ⟨_, e, _⟩ | ⟨_, q⟩
    · cases e
    · exact b.lnk j o' t q
  · intro j o' ab q
    rcases get_set q with ⟨_, e, _⟩ | ⟨_, q⟩
    · cases e
    · obtain ⟨h1, o'', es'', h2⟩ := b.gon j o' ab q
      exact ⟨h1, fol ab o'' es'' h2⟩
theorem cnt_ent {i k : Nat} {o : Int} {es : List (Str × Nat)} {n : Str} (h : nds[i]? = some (.fol o es)) (j : Nat) : cnt (nds.set i (.fol o (es ++ [(n, k)]))) j = cnt nds j + if k = j then 1 else 0 := by
  have := cnt_set (nd' := .fol o (es ++ [(n, k)])) h j
  have e1 : cntE (Nd.fol o (es ++ [(n, k)])).ents j = cntE es j + if k = j then 1 else 0 := by
    show cntE (es ++ [(n, k)]) j = _
    rw [cntE_app, cntE_one]
  have e2 : cntE (Nd.fol o es).ents j = cntE es j := rfl
  omega
theorem wf_ent (b : WF LT PL nds) {i k : Nat} {o : Int} {es : List (Str × Nat)} {n : Str} {nk : Nd} (h : nds[i]? = some (.fol o es)) (hn : PL n) (hu : n ∉ es.map (·.1)) (hl : es.length < 12) (hk : nds[k]? = some nk) (hg : nk.isGone = false) (hf : nk.isFol = false) (hik : i < k) :
    WF LT PL (nds.set i (.fol o (es ++ [(n, k)]))) := by
  refine ⟨base_ent b.base h hn hu hl hk hg hik, fun j nd hj q f => ?_⟩
  rw [cnt_ent h]
  rcases get_set q with ⟨rfl, rfl, _⟩ | ⟨_, q⟩
  · rw [b.once i _ hj h rfl, if_neg (by omega)]
  · have hkj : k ≠ j := fun e => by
      subst e
      rw [hk] at q
      cases Option.some.inj q
      rw [hf] at f
      cases f
    rw [b.once j nd hj q f, if_neg hkj]
theorem pend_ent {n : Nat} (b : Pend LT PL nds n) {i : Nat} {o : Int} {es : List (Str × Nat)} {x : Str} (h : nds[i]? = some (.fol o es)) (hn : PL x) (hu : x ∉ es.map (·.1)) (hl : es.length < 12) (hi : i < n) : WF LT PL (nds.set i (.fol o (es ++ [(x, n)]))) := by
  obtain ⟨o', hlast⟩ := b.last
  refine ⟨base_ent b.base h hn hu hl hlast rfl hi, fun j nd hj q f => ?_⟩
  rw [cnt_ent h]
  rcases get_set q with ⟨rfl, rfl, _⟩ | ⟨_, q⟩
  · rw [b.once i _ hj hi h rfl, if_neg (by omega)]
  · have hjl := (List.getElem?_eq_some_iff.mp q).1
    rw [b.len] at hjl
    by_cases e : n = j
    · subst e
      rw [b.none, if_pos rfl]
    · rw [b.once j nd hj (by omega) q f, if_neg e]
/-- the pending folder becomes a file -/
theorem pend_file {n : Nat} (b : Pend LT PL nds n) : WF LT PL (nds.set n (.fil 0)) := by
  obtain ⟨o', hlast⟩ := b.last
  have hn : n < nds.length := by rw [b.len]; omega
  have hc : ∀ j, cnt (nds.set n (.fil 0)) j = cnt nds j := fun j => by
    have := cnt_set (nd' := .fil 0) hlast j
    have e1 : cntE (Nd.fil 0).ents j = 0 := rfl
    have e2 : cntE (Nd.fol o' []).ents j = 0 := rfl
    omega
  have ne : ∀ (i : Nat) (nd : Nd), nds[i]? = some nd → ∀ e ∈ nd.ents, e.2 ≠ n := fun i nd q e he z => by
    have h1 := cnt_ge (k := n) q
    rw [b.none] at h1
    have : 0 < cntE nd.ents n := List.countP_pos_iff.mpr ⟨e, he, by simpa using z⟩
    omega
  have keep : ∀ (j : Nat) (nd : Nd), j ≠ n → nds[j]? = some nd → (nds.set n (.fil 0))[j]? = some nd := fun j nd e q => by
    rw [List.getElem?_set_ne (Ne.symm e)]
    exact q
  refine ⟨⟨?_, ?_, ?_, ?_, ?_, ?_⟩, fun j nd hj q f => ?_⟩
  · obtain ⟨o, es, h0⟩ := b.base.root
    exact ⟨o, es, keep 0 _ (by have := b.pos; omega) h0⟩
  · intro j nd q
    rcases get_set q with ⟨_, rfl, _⟩ | ⟨_, q⟩
    · exact Int.le_refl 0
    · exact b.base.own j nd q
  · intro j nd q e he
    rcases get_set q with ⟨_, rfl, _⟩ | ⟨_, q⟩
    · cases he
    · obtain ⟨h1, h2, nd', h3, h4⟩ := b.base.ent j _ q e he
      exact ⟨h1, h2, nd', keep _ _ (ne j nd q e he) h3, h4⟩
  · intro j nd q
    rcases get_set q with ⟨_, rfl, _⟩ | ⟨_, q⟩
    · exact ⟨List.nodup_nil, Nat.zero_le _⟩
    · exact b.base.uniq j nd q
  · intro j o t q
    rcases get_set q with ⟨_, e, _⟩ | ⟨_, q⟩
    · cases e
    · exact b.base.lnk j o t q
  · intro j o ab q
    rcases get_set q with ⟨_, e, _⟩ | ⟨_, q⟩
    · cases e
    · obtain ⟨h1, o'', es'', h2⟩ := b.base.gon j o ab q
      exact ⟨h1, o'', es'', keep _ _ (fun z => b.gone j o (z ▸ q)) h2⟩
  · rw [hc]
    rcases get_set q with ⟨_, rfl, _⟩ | ⟨e, q⟩
    · cases f
    · have hjl := (List.getElem?_eq_some_iff.mp q).1
      rw [b.len] at hjl
      exact b.once j nd hj (by omega) q f
end
end TR

set_option maxRecDepth 100000
set_option maxHeartbeats 4000000
/-! the folders that are found from the root by entries -/
namespace TR
open PySem
/-- a folder stands at k -/
def FolAt (nds : List Nd) (k : Nat) : Prop := ∃ o es, nds[k]? = some (.fol o es)
def folB (nds : List Nd) (k : Nat) : Bool := match nds[k]? with
  | some (.fol _ _) => true
  | _ => false
theorem folB_iff {nds : List Nd} {k : Nat} : folB nds k = true ↔ FolAt nds k := by
  unfold folB FolAt
  constructor
  · intro h
    split at h
    · rename_i o es e
      exact ⟨o, es, e⟩
    · cases h
  · rintro ⟨o, es, e⟩
    rw [e]
/-- the folders to which entries lead -/
def kids (nds : List Nd) (es : List (Str × Nat)) : List Nat := (es.map (·.2)).filter (folB nds)
theorem mem_kids {nds : List Nd} {es : List (Str × Nat)} {k : Nat} : k ∈ kids nds es ↔ (∃ e ∈ es, e.2 = k) ∧ FolAt nds k := by
  unfold kids
  rw [List.mem_filter, folB_iff]
  constructor
  · rintro ⟨h, f⟩
    obtain ⟨e, he, hk⟩ := List.mem_map.mp h
    exact ⟨⟨e, he, hk⟩, f⟩
  · rintro ⟨⟨e, he, hk⟩, f⟩
    exact ⟨List.mem_map.mpr ⟨e, he, hk⟩, f⟩
/-- while the search goes on: W waits (its last is next), F is found -/
structure Srch (nds : List Nd) (W F : List Nat) : Prop where
  fol : ∀ k ∈ W ++ F, FolAt nds k
  nd : (W ++ F).Nodup
  root : 0 ∈ W ++ F
  par : ∀ k ∈ W ++ F, k ≠ 0 → ∃ i ∈ F, ∃ o es, nds[i]? = some (.fol o es) ∧ ∃ e ∈ es, e.2 = k
  closed : ∀ i ∈ F, ∀ o es, nds[i]? = some (.fol o es) → ∀ k ∈ kids nds es, k ∈ W ++ F
section
variable {LT PL : Str → Prop} {nds : List Nd}
theorem srch0 (b : WF LT PL nds) : Srch nds [0] [] where
  fol := fun k h => by
    rw [List.append_nil, List.mem_singleton] at h
    subst h
    exact b.base.root
  nd := by simp
  root := by simp
  par := fun k h hk => by
    rw [List.append_nil, List.mem_singleton] at h
    exact absurd h hk
  closed := fun i h => by cases h
theorem cntE_pos {es : List (Str × Nat)} {k : Nat} (h : ∃ e ∈ es, e.2 = k) : 0 < cntE es k := by
  obtain ⟨e, he, hk⟩ := h
  exact List.countP_pos_iff.mpr ⟨e, he, by simpa using hk⟩
theorem nodup_le1 : ∀ {ks : List Nat}, (∀ k ∈ ks, ks.countP (fun x => x == k) ≤ 1) → ks.Nodup
  | [], _ => List.nodup_nil
  | k :: r, h => by
    rw [List.nodup_cons]
    refine ⟨fun hk => ?_, nodup_le1 fun x hx => ?_⟩
    · have h1 := h k List.mem_cons_self
      have : 0 < r.countP (fun x => x == k) := List.countP_pos_iff.mpr ⟨k, hk, by simp⟩
      rw [List.countP_cons, if_pos (by simp)] at h1
      omega
    · have h1 := h x (List.mem_cons_of_mem _ hx)
      rw [List.countP_cons] at h1
      exact Nat.le_trans (Nat.le_add_right _ _) h1
theorem kids_nodup (b : WF LT PL nds) {i : Nat} {o : Int} {es : List (Str × Nat)} (h : nds[i]? = some (.fol o es)) : (kids nds es).Nodup := by
  refine nodup_le1 fun k hk => ?_
  obtain ⟨⟨e, he, hek⟩, f⟩ := mem_kids.mp hk
  have hik : i < k := by
    have := (b.base.ent i _ h e he).2.1
    omega
  obtain ⟨o', es', hf⟩ := f
  have h1 := b.once k _ (by omega) hf rfl
  have h2 := cnt_ge (k := k) h
  have h3 : (kids nds es).countP (fun x => x == k) ≤ cntE es k := by
    unfold kids cntE
    rw [List.countP_filter]
    refine Nat.le_trans (List.countP_mono_left fun x _ hx => ?_) (Nat.le_of_eq (List.countP_map (p := fun x => x == k) (f := fun e : Str × Nat => e.2) (l := es)))
    simp at hx ⊢
    exact hx.1
  have h4 : cntE (Nd.fol o es).ents k = cntE es k := rfl
  omega
theorem srch_step (b : WF LT PL nds) {W F : List Nat} {n : Nat} (s : Srch nds (W ++ [n]) F) {o : Int} {es : List (Str × Nat)} (h : nds[n]? = some (.fol o es)) : Srch nds (W ++ kids nds es) (n :: F) := by
  have hnd := s.nd
  rw [List.append_assoc, List.nodup_append] at hnd
  obtain ⟨nW, nR, dW⟩ := hnd
  rw [List.singleton_append, List.nodup_cons] at nR
  have hnF : n ∉ F := nR.1
  -- a folder below n is none of those that are known
  have fresh : ∀ k ∈ kids nds es, k ∉ W ∧ k ≠ n ∧ k ∉ F := fun k hk => by
    obtain ⟨he, f⟩ := mem_kids.mp hk
    have hnk : n < k := by
      obtain ⟨e, h1, h2⟩ := he
      have := (b.base.ent n _ h e h1).2.1
      omega
    obtain ⟨o', es', hf⟩ := f
    have c1 := b.once k _ (by omega) hf rfl
    have no : k ∉ (W ++ [n]) ++ F := fun hm => by
      obtain ⟨i, hi, oi, esi, hi2, hi3⟩ := s.par k hm (by omega)
      have hin : i ≠ n := fun e => hnF (e ▸ hi)
      have c2 := cnt_two (k := k) hi2 h hin
      have p1 : 0 < cntE esi k := cntE_pos hi3
      have p2 : 0 < cntE es k := cntE_pos he
      have e1 : cntE (Nd.fol oi esi).ents k = cntE esi k := rfl
      have e2 : cntE (Nd.fol o es).ents k = cntE es k := rfl
      omega
    refine ⟨fun q => no ?_, by omega, fun q => no ?_⟩
    · simp [q]
    · simp [q]
  have sub : ∀ k, k ∈ (W ++ [n]) ++ F → k ∈ (W ++ kids nds es) ++ (n :: F) := fun k hk => by
    simp only [List.mem_append, List.mem_singleton, List.mem_cons] at hk ⊢
    rcases hk with (hk | hk | hk) | hk
    · exact .inl (.inl hk)
    · exact .inr (.inl hk)
    · cases hk
    · exact .inr (.inr hk)
  refine ⟨?_, ?_, sub 0 s.root, ?_, ?_⟩
  · intro k hk
    simp only [List.mem_append, List.mem_cons] at hk
    rcases hk with (hk | hk) | hk | hk
    · exact s.fol k (by simp [hk])
    · exact (mem_kids.mp hk).2
    · exact s.fol k (by simp [hk])
    · exact s.fol k (by simp [hk])
  · rw [List.nodup_append, List.nodup_append]
    refine ⟨⟨nW, kids_nodup b h, fun x hx y hy e => ?_⟩, List.nodup_cons.mpr nR, fun x hx y hy e => ?_⟩
    · subst e
      exact (fresh x hy).1 hx
    · subst e
      rcases List.mem_append.mp hx with hx | hx
      · exact dW x hx x (by simpa using hy) rfl
      · rcases List.mem_cons.mp hy with hy | hy
        · exact (fresh x hx).2.1 hy
        · exact (fresh x hx).2.2 hy
  · intro k hk hk0
    simp only [List.mem_append, List.mem_cons] at hk
    have old : k ∈ (W ++ [n]) ++ F → ∃ i ∈ n :: F, ∃ o es, nds[i]? = some (.fol o es) ∧ ∃ e ∈ es, e.2 = k := fun hm => by
      obtain ⟨i, hi, r⟩ := s.par k hm hk0
      exact ⟨i, List.mem_cons_of_mem _ hi, r⟩
    rcases hk with (hk | hk) | hk | hk
    · exact old (by simp [hk])
    · exact ⟨n, List.mem_cons_self, o, es, h, (mem_kids.mp hk).1⟩
    · exact old (by simp [hk])
    · exact old (by simp [hk])
  · intro i hi o' es' hi' k hk
    rcases List.mem_cons.mp hi with rfl | hi
    · rw [h] at hi'
      cases Option.some.inj hi'
      simp [hk]
    · exact sub k (s.closed i hi o' es' hi' k hk)
/-- nothing waits: every folder is found -/
theorem srch_end (b : WF LT PL nds) {F : List Nat} (s : Srch nds [] F) : ∀ k, FolAt nds k → k ∈ F := by
  intro k
  induction k using Nat.strongRecOn with
  | _ k ih =>
    rintro ⟨o, es, h⟩
    by_cases h0 : k = 0
    · subst h0
      have := s.root
      simpa using this
    · have c := b.once k _ (by omega) h rfl
      obtain ⟨i, nd, e, h1, h2, h3⟩ := cnt_pos (nds := nds) (k := k) (by omega)
      have hik : i < k := by
        have := (b.base.ent i nd h1 e h2).2.1
        omega
      cases nd with
      | fol oi esi =>
        have hi := ih i hik ⟨oi, esi, h1⟩
        have := s.closed i hi oi esi h1 k (mem_kids.mpr ⟨⟨e, h2, h3⟩, o, es, h⟩)
        simpa using this
      | fil _ => cases h2
      | lnk _ _ => cases h2
      | gon _ _ => cases h2
/-- the found ones are no more than the nodes -/
theorem srch_len {W F : List Nat} (s : Srch nds W F) : (W ++ F).length ≤ nds.length := by
  have h1 : ∀ k ∈ W ++ F, k ∈ List.range nds.length := fun k hk => by
    obtain ⟨o, es, h⟩ := s.fol k hk
    exact List.mem_range.mpr (List.getElem?_eq_some_iff.mp h).1
  have := List.Nodup.length_le_of_subset s.nd h1
  rwa [List.length_range] at this
end
end TR

set_option maxRecDepth 100000
set_option maxHeartbeats 8000000
namespace NW
open PySem L2 NG TR
/-! ### drawn nodes in the heap: a tuple each; a folder's entries in a list of its own -/
def EntAt (H : Hp) (q : V) (e : Str × Nat) : Prop := ∃ a, q = .ref a ∧ H a = some (.tup [.str e.1, .int (e.2 : Nat)])
def EntsAt (H : Hp) (L : Addr) (es : List (Str × Nat)) : Prop := ∃ qs : List V, H L = some (.lst qs) ∧ qs.length = es.length ∧ ∀ (k : Nat) (q : V) (e : Str × Nat), qs[k]? = some q → es[k]? = some e → EntAt H q e
def NdAt (H : Hp) (ad : Addr × Addr) : Nd → Prop
  | .fol o es => H ad.1 = some (.tup [.str "folder", .int o, .ref ad.2]) ∧ EntsAt H ad.2 es
  | .fil o => H ad.1 = some (.tup [.str "file", .int o])
  | .lnk o t => H ad.1 = some (.tup [.str "link", .int o, .str t])
  | .gon o ab => H ad.1 = some (.tup [.str "gone", .int o, .int (ab : Nat)])
structure NdsAt (H : Hp) (N : Addr) (ads : List (Addr × Addr)) (nds : List Nd) : Prop where
  ls : H N = some (.lst (ads.map fun a => V.ref a.1))
  len : ads.length = nds.length
  nds : ∀ (i : Nat) (ad : Addr × Addr) (nd : Nd), ads[i]? = some ad → nds[i]? = some nd → NdAt H ad nd
  al : ∀ ad ∈ ads, (∃ o, H ad.2 = some o) ∧ ad.2 ≠ N
  nd : (ads.map (·.2)).Nodup
theorem EntAt.mono {H H' : Hp} {q : V} {e : Str × Nat} (h : EntAt H q e) (k : ∀ a xs, H a = some (.tup xs) → H' a = some (.tup xs)) : EntAt H' q e := let ⟨a, h1, h2⟩ := h; ⟨a, h1, k _ _ h2⟩
theorem EntsAt.mono {H H' : Hp} {L : Addr} {es : List (Str × Nat)} (h : EntsAt H L es) (k : ∀ a xs, H a = some (.tup xs) → H' a = some (.tup xs)) (hL : H' L = H L) : EntsAt H' L es :=
  let ⟨qs, h1, h2, h3⟩ := h; ⟨qs, hL.trans h1, h2, fun i q e a b => (h3 i q e a b).mono k⟩
theorem NdAt.mono {H H' : Hp} {ad : Addr × Addr} {nd : Nd} (h : NdAt H ad nd) (k : ∀ a xs, H a = some (.tup xs) → H' a = some (.tup xs)) (hL : nd.isFol = true → H' ad.2 = H ad.2) : NdAt H' ad nd := by
  cases nd with
  | fol o es => exact ⟨k _ _ h.1, h.2.mono k (hL rfl)⟩
  | fil o => exact k _ _ h
  | lnk o t => exact k _ _ h
  | gon o ab => exact k _ _ h
theorem NdAt.same {H H' : Hp} {ad : Addr × Addr} {nd : Nd} (h : NdAt H ad nd) (s : Same H H') (ha : ∃ o, H ad.2 = some o) : NdAt H' ad nd :=
  h.mono (fun a xs e => s _ _ e) fun _ => let ⟨o, e⟩ := ha; (s _ _ e).trans e.symm
theorem NdsAt.same {H H' : Hp} {N : Addr} {ads : List (Addr × Addr)} {nds : List Nd} (h : NdsAt H N ads nds) (s : Same H H') : NdsAt H' N ads nds where
  ls := s _ _ h.ls
  len := h.len
  nds := fun i ad nd h1 h2 => (h.nds i ad nd h1 h2).same s (h.al ad (List.mem_of_getElem? h1)).1
  al := fun ad hm => ⟨let ⟨o, e⟩ := (h.al ad hm).1; ⟨o, s _ _ e⟩, (h.al ad hm).2⟩
  nd := h.nd
/-- the drawn numbers' state at p moves -/
theorem NdsAt.dr {H H' : Hp} {p N : Addr} {ads : List (Addr × Addr)} {nds : List Nd} (h : NdsAt H N ads nds) (d : Dr p H H') (hp : ∃ o, H p = some o ∧ DSo o) (hN : N ≠ p) (hL : ∀ ad ∈ ads, ad.2 ≠ p) : NdsAt H' N ads nds := by
  obtain ⟨o, ep, a, m, c, rfl, _⟩ := hp
  have tk : ∀ b xs, H b = some (.tup xs) → H' b = some (.tup xs) := fun b xs e => d.but _ _ e (ne_of e ep (by intro q; cases q))
  refine ⟨d.but _ _ h.ls hN, h.len, fun i ad nd h1 h2 => ?_, fun ad hm => ⟨?_, (h.al ad hm).2⟩, h.nd⟩
  · have hm := List.mem_of_getElem? h1
    obtain ⟨o, e⟩ := (h.al ad hm).1
    exact (h.nds i ad nd h1 h2).mono tk fun _ => (d.but _ _ e (hL ad hm)).trans e.symm
  · obtain ⟨o, e⟩ := (h.al ad hm).1
    exact ⟨o, d.but _ _ e (hL ad hm)⟩
/-! ### a name that a folder does not have -/
def spFree (K : PySem.W.Frag) : Sp := fun vs H Q _ => ∃ (p N t L : Addr) (i : Int) (ns : List V) (o : V) (es : List (Str × Nat)), vs = [.ref p, .ref N, .int i] ∧ (∃ o, H p = some o ∧ DSo o) ∧ H N = some (.lst ns) ∧ atI ns i = some (.ref t) ∧ H t = some (.tup [.str "folder", o, .ref L]) ∧ EntsAt H L es ∧ es.length < 12 ∧
  ∀ n H', n ∈ pool → n ∉ es.map (·.1) → Dr p H H' → Q (.str n) H'
theorem pool_len : pool.length = 13 := rfl
theorem pool_nd : pool.Nodup := by decide +kernel
theorem left_pos {us : List Str} (h : us.length < 12) : 0 < (pool.filter fun n => !us.contains n).length := by
  rcases Nat.eq_zero_or_pos (pool.filter fun n => !us.contains n).length with e | e
  · have hs : ∀ n ∈ pool, n ∈ us := fun n hn => by
      have e' := List.eq_nil_of_length_eq_zero e
      have := List.filter_eq_nil_iff.mp e' n hn
      simpa using this
    have := List.Nodup.length_le_of_subset pool_nd hs
    rw [pool_len] at this
    omega
  · exact e
theorem inV_strs (n : Str) (us : List Str) : inV (.str n) (us.map V.str) = us.contains n := by
  unfold inV
  rw [List.any_map]
  induction us with
  | nil => rfl
  | cons u r ih =>
    rw [List.any_cons, List.contains_cons, ih]
    show (u == n || _) = _
    rw [Bool.beq_comm (a := u)]
section
variable {P : Program} {w : World} {K : PySem.W.Frag} {mg : Str → Option Value} {base : Heap} {fNum fOwner fAt fDigit fPool fFree fTxt : Addr}
theorem scFree : FnScope ["_law_s", "_law_nodes_here", "_law_folder", "_law_used", "_law_left", "_law_name", "_law_node"] ["_law_s", "_law_nodes_here", "_law_folder"] (defScope sFree) := ⟨rfl, rfl, rfl, by decide +kernel, rfl, by decide +kernel, by decide +kernel⟩
theorem ok_free {fd fdD fdP : FuncData} (F : Fun K "_law_free_name" "_law_free_name" sFree fFree fd) (T : TxtK K mg fNum fAt fDigit fPool) (G : FnOk P w K mg base CX0 1 fDigit fdD ["_law_state_here", "_law_base"] spDigit) (b : Binds K fdD ["_law_state_here", "_law_base"] [])
    (GP : FnOk P w K mg base CX0 1 fPool fdP [] spPool) (bP : Binds K fdP [] []) : FnOk P w K mg base CX0 2 fFree fd ["_law_s", "_law_nodes_here", "_law_folder"] (spFree K) := by
  have nd := scFree.nd
  refine F.ok scFree (fun vs H Q E h => ?_) (fun cdv A outer s H vs Q E hr h => ?_)
  · obtain ⟨p, N, t, L, i, ns, o, es, rfl, _⟩ := h
    rfl
  · obtain ⟨p, N, t, L, i, ns, o, es, rfl, hp, hN, hi, ht, hE, hl, k⟩ := h
    have hr1 : Room 1 _ := hr
    have hs : sizeLine = 16777216 := sizeLine_eq
    refine ⟨_, (pss_cons (ps_set (i := 3) nd rfl (Or.inr rfl) (pe_lc (own := [("_law_name", 5), ("_law_node", 6)]) (g := gTup K 2 (gCons (gName 5) (gCons (gName 6) gNil))) rfl nd (pi_list (pe_ix ix_tup (pe_ix ix_list (pv 1) (pv 2) (fun _ _ => rfl)) pe_int (fun _ _ => rfl))) (blkOk_by (N := ["_law_s", "_law_nodes_here", "_law_folder", "_law_used", "_law_left", "_law_name", "_law_node"]) (sc := defScope sFree) (by decide +kernel)) (fun _ _ _ _ _ => (pg_tup (by rfl) (pgs_cons (pg_name (i := 5) nd rfl (Or.inl rfl)) (pgs_cons (pg_name (i := 6) nd rfl (Or.inl rfl)) pgs_nil)))) (fun _ _ _ _ _ => pts_nil) (fun _ _ _ _ _ => (pv 5))))
  (pss_cons (ps_setLc (i := 4) (own := [("_law_name", 5)]) (tt := tTest (tOp (rIn K true) (tVar 5) (tVar 3))) rfl nd rfl rfl (sw_true rfl rfl rfl (by decide +kernel)) (pi_list (pe_call0 GP hr1 (by rfl) T.g_pool T.kp_pool bP .nil pass0)) (blkOk_by (N := ["_law_s", "_law_nodes_here", "_law_folder", "_law_used", "_law_left", "_law_name", "_law_node"]) (sc := defScope sFree) (by decide +kernel)) (fun _ _ _ _ _ => (pg_name (i := 5) nd rfl (Or.inl rfl))) (fun _ _ _ _ _ => pts_one (pt_cmpR op_notIn_seq (pv 5) (pv 3) (by rfl))) (fun _ _ _ _ _ => (pv 5)))
  (pss_one (ps_ret (pe_ix ix_list (pv 4) (pe_call G hr1 (by rfl) T.g_digit T.kp_digit b .nil pass0 (pa_cons (pv 0) (pa_cons (pe_callB (call_min2 rfl) (by rfl) T.m_min (by decide +kernel) (pa_cons pe_int (pa_cons (pe_callB call_len_seq (by rfl) T.m_len (by decide +kernel) (pa_cons (pv 4) pa_nil)) pa_nil))) pa_nil))) (fun _ _ => rfl)))))), ?_⟩
    obtain ⟨qs, hq, hql, hqe⟩ := hE
    refine ⟨_, rfl, _, rfl, N, _, _, _, rfl, rfl, SqL.of hN, hi, t, _, _, _, rfl, rfl, SqT.of ht, rfl, L, rfl, ⟨_, SqL.of hq⟩, fun D hD => ?_⟩
    refine lc_pair (K := K) (walk_list (K := K) (a := L)) (i := 5) (j := 6) (by decide) (es.map fun e => (V.str e.1, V.int (e.2 : Nat))) (by rw [List.length_map, hql]) (fun _ => true) (fun q => q.1) (fun k x q h1 h2 => ?_) (by omega) hD (fun H' s => SqL.of (s _ _ hq)) (fun k q H' R _ s hR => hR _ (Same.refl _)) (fun k q H' R _ _ s hR => ⟨_, rfl, hR _ (Same.refl _)⟩) (fun H1 s1 e1 => ?_)
    · rw [List.getElem?_map] at h2
      cases e : es[k]? with
      | none => rw [e] at h2; cases h2
      | some en =>
        rw [e] at h2
        cases Option.some.inj h2
        obtain ⟨a, rfl, ha⟩ := hqe k x en h1 e
        exact ⟨a, rfl, SqT.of ha⟩
    have e1' : H1 D = some (.lst ((es.map (·.1)).map V.str)) := by
      rw [e1, List.filter_eq_self.mpr (fun _ _ => rfl), List.map_map, List.map_map]
      rfl
    refine ⟨rfl, fun l hl' => ⟨l, rfl, ⟨_, SqL.of upd_same⟩, fun D2 hD2 => ?_⟩⟩
    have s2 : Same H1 (upd H1 l (.lst (pool.map V.str))) := NG.Same.upd hl'
    have el : (upd H1 l (.lst (pool.map V.str))) l = some (.lst (pool.map V.str)) := upd_same
    have eD2 := s2 _ _ e1'
    revert hD2
    generalize upd H1 l (.lst (pool.map V.str)) = H2 at s2 el eD2
    intro hD2
    have hpl : (pool.map V.str).length < sizeLine := by rw [List.length_map, pool_len]; omega
    refine lc_gen (walk_list (K := K) (a := l)) (fun v => match v with | .str n => !(es.map (·.1)).contains n | _ => false) (fun v => v) hpl hD2 (fun H' s => SqL.of (s _ _ el)) (fun k x H' R hk s hR => ?_) (fun k x H' R hk _ s hR => ⟨_, rfl, hR _ (Same.refl _)⟩) (fun H3 s3 e3 => ?_)
    · obtain ⟨n, rfl⟩ : ∃ n, x = V.str n := by
        rw [List.getElem?_map] at hk
        cases e : pool[k]? with
        | none => rw [e] at hk; cases hk
        | some n => rw [e] at hk; exact ⟨n, (Option.some.inj hk).symm⟩
      refine ⟨_, rfl, _, rfl, D, _, rfl, .inl (SqL.of (s _ _ eD2)), rfl, by rw [List.all_map, List.all_eq_true]; exact fun _ _ => rfl, _, rfl, ?_⟩
      rw [inV_strs]
      exact hR _ (Same.refl _)
    · have ef : ((pool.map V.str).filter (fun v => match v with | .str n => !(es.map (·.1)).contains n | _ => false)).map (fun v => v) = (pool.filter fun n => !(es.map (·.1)).contains n).map V.str := by
        rw [List.map_id', List.filter_map]
        rfl
      rw [ef] at e3
      have lp := left_pos (us := es.map (·.1)) (by rw [List.length_map]; exact hl)
      have sH3 : Same H H3 := s1.trans (s2.trans s3)
      obtain ⟨o', hp', ho'⟩ := hp
      generalize hL : (pool.filter fun n => !(es.map (·.1)).contains n) = left at e3 lp
      refine ⟨_, rfl, _, rfl, _, rfl, D2, _, rfl, .inl (SqL.of e3), 5, _, rfl, p, _, o', rfl, ?_, ?_, sH3 _ _ hp', ho', fun d o2 d0 d1 ho2 => ?_⟩
      · rw [List.length_map]
        split
        · omega
        · decide
      · rw [List.length_map]
        split
        · have : left.length ≤ pool.length := by rw [← hL]; exact List.length_filter_le _ _
          rw [pool_len] at this
          omega
        · decide
      · have hd : d < (left.map V.str).length := by
          split at d1
          · exact d1
          · rename_i h
            omega
        obtain ⟨v, hv, ev⟩ := pick d0 hd
        obtain ⟨n, hn, rfl⟩ := List.mem_map.mp hv
        have nD2p : D2 ≠ p := ne_of e3 (sH3 _ _ hp') (by
          intro q
          obtain ⟨a1, m1, c1, q1, _⟩ := ho'
          rw [q1] at q
          injection q with q
          cases left with
          | nil => cases lp
          | cons x r => cases q)
        refine ⟨D2, _, d, _, rfl, rfl, SqL.of (by rw [upd_ne nD2p]; exact e3), ev, ?_⟩
        rw [← hL] at hn
        obtain ⟨h1, h2⟩ := List.mem_filter.mp hn
        exact k n _ h1 (by simpa using h2) ((Dr.refl hp' ho').same sH3 |>.next ho2)
end
end NW

set_option maxRecDepth 100000
set_option maxHeartbeats 4000000
/-! comprehensions over enumerate of a list -/
namespace NG
open PySem L2
theorem lc_enum {K : PySem.W.Frag} {a : Addr} {xs : List V} {tt : TT} {te : TE} {i j : Nat} (hij : i ≠ j) {σ : St} {H1 : Hp} {D : Addr} {Q : Hp → Prop} (p : Nat → Bool) (f : Nat → V) (hx : xs.length < sizeLine) (hD : H1 D = none) (hG : ∀ H, Same H1 H → SqL K H a xs)
    (ht : ∀ (k : Nat) (x : V) (H : Hp) (R : Bool → Hp → Prop), xs[k]? = some x → Same H1 H → (∀ H', Same H H' → R (p k) H') → tt (((wipe σ [i, j]).set i (some (.int (k : Nat)))).set j (some x)) H R)
    (he : ∀ (k : Nat) (x : V) (H : Hp) (R : V → Hp → Prop), xs[k]? = some x → p k = true → Same H1 H → (∀ H', Same H H' → R (f k) H') → te (((wipe σ [i, j]).set i (some (.int (k : Nat)))).set j (some x)) H R)
    (hd : ∀ H, Same H1 H → H D = some (.lst (((List.range xs.length).filter p).map f)) → Q H) :
    ∃ W : Nat → Nat → Hp → Prop, (∃ m, W 0 m (L2.upd H1 D (.lst []))) ∧ ∀ k m H, W k m H →
      ((Ite K a).stop k H ∧ Q H) ∨ ((Ite K a).go k H ∧ ∃ Nx : Hp → Prop, (∀ H', Nx H' → ∃ m', m' < m ∧ W (k + 1) m' H') ∧ ∀ x H', (Ite K a).yld k H x H' → gTup K 2 (gCons (gName i) (gCons (gName j) gNil)) x (wipe σ [i, j]) H' fun σ2 H2 => wipe σ2 [i, j] = wipe σ [i, j] ∧ tt σ2 H2 fun b H3 =>
        if b = true then te σ2 H3 fun y H4 => ∃ acc, H4 D = some (.lst acc) ∧ acc.length < sizeLine ∧ Nx (L2.upd H4 D (.lst (acc ++ [y]))) else Nx H3) := by
  refine lc_it (walk_enum (K := K) (a := a) (xs := xs)) (fun k H => Same H1 H ∧ H D = some (.lst (((List.range k).filter p).map f))) ⟨Same.upd hD, by rw [upd_same]; simp⟩ (fun _ H _ h => hG H h.1) ?_ ?_
  · rintro k x H H' hk ⟨s1, eD⟩ ⟨T, ki, y, rfl, hT, rfl, h1, h2⟩
    cases Option.some.inj h1
    have sT : Same H (L2.upd H T (.tup [.int (k : Nat), y])) := Same.upd hT
    refine ⟨T, [.int (k : Nat), y], rfl, SqT.of upd_same, rfl, _, _, rfl, _, _, rfl, rfl, wipe2 hij _ _, ?_⟩
    have ll : (((List.range k).filter p).map f).length < sizeLine := by
      rw [List.length_map]
      have := List.length_filter_le p (List.range k)
      rw [List.length_range] at this
      omega
    have s0 := s1.trans sT
    have eD0 := sT _ _ eD
    generalize L2.upd H T (.tup [.int (k : Nat), y]) = H0 at s0 eD0
    refine ht k y _ _ h2 s0 (fun H3 s3 => ?_)
    have eD3 := s3 _ _ eD0
    have s13 := s0.trans s3
    refine ite2 (fun hp => ?_) (fun hp => ?_)
    · refine he k y _ _ h2 hp s13 (fun H4 s4 => ⟨_, s4 _ _ eD3, ll, ?_, ?_⟩)
      · intro b o e
        have hb : b ≠ D := ne_of_none e hD
        rw [upd_ne hb]
        exact s4 _ _ (s13 _ _ e)
      · rw [upd_same, List.range_succ, List.filter_append, List.map_append]
        congr 2
        congr 1
        have : [k].filter p = [k] := by simp [hp]
        rw [this]
        rfl
    · refine ⟨s13, ?_⟩
      rw [List.range_succ, List.filter_append, List.map_append]
      have : [k].filter p = [] := by simp [hp]
      rw [this]
      simpa using eD3
  · rintro H ⟨s1, eD⟩
    exact hd H s1 eD
end NG

set_option maxRecDepth 100000
set_option maxHeartbeats 8000000
namespace NW
open PySem L2 NG TR
abbrev sNodes : Stmt := top 36
structure TxtD (K : PySem.W.Frag) (mg : Str → Option Value) (fTxt fFree : Addr) : Prop where
  m_enumerate : mg "enumerate" = none
  g_txt : mg "_law_text" = some (.ref fTxt)
  kp_txt : PySem.W.keepIn K (.ref fTxt) = true
  g_free : mg "_law_free_name" = some (.ref fFree)
  kp_free : PySem.W.keepIn K (.ref fFree) = true
def PL (z : Str) : Prop := z ∈ pool
/-- apart from the drawn numbers' state -/
def Apart (H : Hp) (p N : Addr) (ads : List (Addr × Addr)) : Prop := N ≠ p ∧ (∀ ad ∈ ads, ad.2 ≠ p) ∧ H N = none ∧ ∀ ad ∈ ads, H ad.2 = none
theorem fresh_of {p t : Addr} {H H' : Hp} (d : Dr p H H') (hn : t ≠ p) (h : H' t = none) : H t = none := by
  cases e : H t with
  | none => rfl
  | some x =>
    have := d.but _ _ e hn
    rw [h] at this
    cases this
def spNodes : Sp := fun vs H Q _ => ∃ (p : Addr) (many links : Int), vs = [.ref p, .int many, .int links] ∧ (∃ o, H p = some o ∧ DSo o) ∧ 0 ≤ many ∧ many ≤ 100 ∧
  ∀ N ads nds H', Dr p H H' → NdsAt H' N ads nds → WF LinkText PL nds → Apart H p N ads → (nds.length : Int) ≤ many + 1 → Q (.ref N) H'
def kindL : List Str := ["folder", "folder", "folder", "folder", "file", "file", "link", "gone"]
theorem atI_zero {x : V} {r : List V} : atI (x :: r) (0 : Int) = some x := by
  unfold atI ixN
  simp
def kindS : Nd → Str
  | .fol _ _ => "folder"
  | .fil _ => "file"
  | .lnk _ _ => "link"
  | .gon _ _ => "gone"
theorem nd_kind {H : Hp} {ad : Addr × Addr} {nd : Nd} (h : NdAt H ad nd) : ∃ rest, H ad.1 = some (.tup (.str (kindS nd) :: rest)) := by
  cases nd with
  | fol o es => exact ⟨_, h.1⟩
  | fil o => exact ⟨_, h⟩
  | lnk o t => exact ⟨_, h⟩
  | gon o ab => exact ⟨_, h⟩
theorem kind_fol (nd : Nd) : decide (V.str (kindS nd) = V.str "folder") = nd.isFol := by
  cases nd
  · show decide (V.str "folder" = V.str "folder") = true
    decide +kernel
  · show decide (V.str "file" = V.str "folder") = false
    decide +kernel
  · show decide (V.str "link" = V.str "folder") = false
    decide +kernel
  · show decide (V.str "gone" = V.str "folder") = false
    decide +kernel
theorem folB_at {nds : List Nd} {k : Nat} {nd : Nd} (h : nds[k]? = some nd) : folB nds k = nd.isFol := by
  unfold folB
  rw [h]
  cases nd <;> rfl
def folds (nds : List Nd) : List Nat := (List.range nds.length).filter (folB nds)
theorem folds_pos {nds : List Nd} (b : WF LinkText PL nds) : 0 < (folds nds).length := by
  obtain ⟨o, es, h⟩ := b.base.root
  have : 0 ∈ folds nds := List.mem_filter.mpr ⟨List.mem_range.mpr (List.getElem?_eq_some_iff.mp h).1, folB_iff.mpr ⟨o, es, h⟩⟩
  exact List.length_pos_of_mem this
theorem folds_at {nds : List Nd} {k : Nat} (h : k ∈ folds nds) : FolAt nds k := folB_iff.mp (List.mem_filter.mp h).2
theorem folds_len (nds : List Nd) : (folds nds).length ≤ nds.length := by
  have := List.length_filter_le (folB nds) (List.range nds.length)
  rwa [List.length_range] at this
theorem nds_snoc {H : Hp} {N t L : Addr} {ads : List (Addr × Addr)} {nds : List Nd} {x : Nd} (h : NdsAt H N ads nds) (hx : NdAt H (t, L) x) (hL : ∃ o, H L = some o) (hn : L ≠ N) (hf : ∀ ad ∈ ads, ad.2 ≠ L) :
    NdsAt (upd H N (.lst ((ads.map fun a => V.ref a.1) ++ [.ref t]))) N (ads ++ [(t, L)]) (nds ++ [x]) := by
  have tk : ∀ a xs, H a = some (.tup xs) → (upd H N (.lst ((ads.map fun a => V.ref a.1) ++ [.ref t]))) a = some (.tup xs) := fun a xs e => by
    rw [upd_ne (ne_of e h.ls (by intro q; cases q))]
    exact e
  refine ⟨by rw [upd_same, List.map_append]; rfl, by rw [List.length_append, List.length_append, h.len]; rfl, fun i ad nd h1 h2 => ?_, fun ad hm => ?_, ?_⟩
  · by_cases hi : i < ads.length
    · rw [List.getElem?_append_left hi] at h1
      rw [List.getElem?_append_left (by rw [← h.len]; exact hi)] at h2
      exact (h.nds i ad nd h1 h2).mono tk fun _ => upd_ne (h.al ad (List.mem_of_getElem? h1)).2
    · have hl := (List.getElem?_eq_some_iff.mp h1).1
      rw [List.length_append, List.length_singleton] at hl
      have e : i = ads.length := by omega
      subst e
      rw [List.getElem?_append_right (Nat.le_refl _), Nat.sub_self] at h1
      rw [h.len, List.getElem?_append_right (Nat.le_refl _), Nat.sub_self] at h2
      cases Option.some.inj h1
      cases Option.some.inj h2
      exact hx.mono tk fun _ => upd_ne hn
  · rcases List.mem_append.mp hm with hm | hm
    · have := h.al ad hm
      exact ⟨by rw [upd_ne this.2]; exact this.1, this.2⟩
    · rw [List.mem_singleton.mp hm]
      exact ⟨by rw [upd_ne hn]; exact hL, hn⟩
  · rw [List.map_append, List.nodup_append]
    refine ⟨h.nd, by simp, fun x hx y hy e => ?_⟩
    rw [List.map_cons, List.map_nil, List.mem_singleton] at hy
    obtain ⟨ad, ha, rfl⟩ := List.mem_map.mp hx
    exact hf ad ha (e.trans hy)
theorem dr_set {p D : Addr} {H H' : Hp} {o : HO} (d : Dr p H H') (hD : H D = none) (n : D ≠ p) : Dr p H (upd H' D o) :=
  ⟨fun b x e nb => by rw [upd_ne (ne_of_none e hD)]; exact d.but b x e nb, let ⟨x, e, q⟩ := d.st; ⟨x, by rw [upd_ne n.symm]; exact e, q⟩⟩
theorem nodup_get {ads : List (Addr × Addr)} (h : (ads.map (·.2)).Nodup) {i j : Nat} {a b : Addr × Addr} (hi : ads[i]? = some a) (hj : ads[j]? = some b) (hij : i ≠ j) : a.2 ≠ b.2 := by
  intro e
  have h1 : (ads.map (·.2))[i]? = some a.2 := by rw [List.getElem?_map, hi]; rfl
  have h2 : (ads.map (·.2))[j]? = some b.2 := by rw [List.getElem?_map, hj]; rfl
  have l1 := (List.getElem?_eq_some_iff.mp h1).1
  exact hij ((List.getElem?_inj l1 h).mp (by rw [h1, h2, e]))
/-- an entry more in the folder i -/
theorem nds_ent {H : Hp} {N t L : Addr} {ads : List (Addr × Addr)} {nds : List Nd} {i : Nat} {o : Int} {es : List (Str × Nat)} {qs : List V} {q : V} {e : Str × Nat} (h : NdsAt H N ads nds) (ha : ads[i]? = some (t, L)) (hn : nds[i]? = some (.fol o es))
    (hL : H L = some (.lst qs)) (hq : EntAt H q e) : NdsAt (upd H L (.lst (qs ++ [q]))) N ads (nds.set i (.fol o (es ++ [e]))) := by
  have hLN : L ≠ N := (h.al _ (List.mem_of_getElem? ha)).2
  have tk : ∀ a xs, H a = some (.tup xs) → (upd H L (.lst (qs ++ [q]))) a = some (.tup xs) := fun a xs e => by
    rw [upd_ne (ne_of e hL (by intro q; cases q))]
    exact e
  refine ⟨by rw [upd_ne hLN.symm]; exact h.ls, by rw [List.length_set]; exact h.len, fun j ad nd h1 h2 => ?_, fun ad hm => ?_, h.nd⟩
  · rcases get_set h2 with ⟨rfl, rfl, _⟩ | ⟨hij, h2⟩
    · rw [ha] at h1
      cases Option.some.inj h1
      obtain ⟨e1, qs', e2, e3, e4⟩ := h.nds i _ _ ha hn
      rw [hL] at e2
      cases Option.some.inj e2
      refine ⟨tk _ _ e1, qs ++ [q], upd_same, by rw [List.length_append, List.length_append, e3]; rfl, fun k q' e' hk he => ?_⟩
      by_cases hlt : k < qs.length
      · rw [List.getElem?_append_left hlt] at hk
        rw [List.getElem?_append_left (by omega)] at he
        exact (e4 k q' e' hk he).mono tk
      · have hl := (List.getElem?_eq_some_iff.mp hk).1
        rw [List.length_append, List.length_singleton] at hl
        have ek : k = qs.length := by omega
        subst ek
        rw [List.getElem?_append_right (Nat.le_refl _), Nat.sub_self] at hk
        rw [e3, List.getElem?_append_right (Nat.le_refl _), Nat.sub_self] at he
        cases Option.some.inj hk
        cases Option.some.inj he
        exact hq.mono tk
    · exact (h.nds j ad nd h1 h2).mono tk fun _ => upd_ne (nodup_get h.nd h1 ha (Ne.symm hij))
  · have := h.al ad hm
    refine ⟨?_, this.2⟩
    by_cases e : ad.2 = L
    · rw [e]; exact ⟨_, upd_same⟩
    · rw [upd_ne e]; exact this.1
/-- the node i is exchanged -/
theorem nds_set {H : Hp} {N t : Addr} {ads : List (Addr × Addr)} {nds : List Nd} {i : Nat} {x : Nd} (h : NdsAt H N ads nds) (hi : i < ads.length) (hx : NdAt H (t, t) x) (ht : ∃ xs, H t = some (.tup xs)) (hf : ∀ ad ∈ ads, ad.2 ≠ t) :
    NdsAt (upd H N (.lst ((ads.map fun a => V.ref a.1).set i (.ref t)))) N (ads.set i (t, t)) (nds.set i x) := by
  have tk : ∀ a xs, H a = some (.tup xs) → (upd H N (.lst ((ads.map fun a => V.ref a.1).set i (.ref t)))) a = some (.tup xs) := fun a xs e => by
    rw [upd_ne (ne_of e h.ls (by intro q; cases q))]
    exact e
  obtain ⟨xs, et⟩ := ht
  have ntN : t ≠ N := ne_of et h.ls (by intro q; cases q)
  refine ⟨by rw [upd_same, List.map_set], by rw [List.length_set, List.length_set]; exact h.len, fun j ad nd h1 h2 => ?_, fun ad hm => ?_, ?_⟩
  · by_cases hij : i = j
    · subst hij
      rw [List.getElem?_set_self hi] at h1
      rw [List.getElem?_set_self (by rw [← h.len]; exact hi)] at h2
      cases Option.some.inj h1
      cases Option.some.inj h2
      exact hx.mono tk fun _ => upd_ne ntN
    · rw [List.getElem?_set_ne hij] at h1 h2
      exact (h.nds j ad nd h1 h2).mono tk fun _ => upd_ne (h.al ad (List.mem_of_getElem? h1)).2
  · rcases List.mem_or_eq_of_mem_set hm with hm | rfl
    · have := h.al ad hm
      exact ⟨by rw [upd_ne this.2]; exact this.1, this.2⟩
    · exact ⟨by rw [upd_ne ntN]; exact ⟨_, et⟩, ntN⟩
  · rw [List.map_set]
    refine List.pairwise_iff_getElem.mpr fun a b ha' hb' hab q0 => ?_
    have hb := hb'
    rw [List.length_set, List.length_map] at hb
    have q1 : ((ads.map (·.2)).set i t)[a]? = ((ads.map (·.2)).set i t)[b]? := by rw [List.getElem?_eq_getElem ha', List.getElem?_eq_getElem hb', q0]
    revert q1
    show ((ads.map (·.2)).set i t)[a]? ≠ ((ads.map (·.2)).set i t)[b]?
    have old : ∀ k, k < ads.length → ∃ ad, ads[k]? = some ad := fun k hk => ⟨_, List.getElem?_eq_getElem hk⟩
    obtain ⟨da, ea⟩ := old a (by omega)
    obtain ⟨db, eb⟩ := old b hb
    by_cases h1 : i = a
    · rw [← h1, List.getElem?_set_self (by rw [List.length_map]; exact hi), List.getElem?_set_ne (by omega), List.getElem?_map, eb]
      exact fun q => hf db (List.mem_of_getElem? eb) (Option.some.inj q).symm
    · rw [List.getElem?_set_ne h1]
      by_cases h2 : i = b
      · rw [← h2, List.getElem?_set_self (by rw [List.length_map]; exact hi), List.getElem?_map, ea]
        exact fun q => hf da (List.mem_of_getElem? ea) (Option.some.inj q)
      · rw [List.getElem?_set_ne h2, List.getElem?_map, List.getElem?_map, ea, eb]
        exact fun q => nodup_get h.nd ea eb (by omega) (Option.some.inj q)
section
variable {P : Program} {w : World} {K : PySem.W.Frag} {mg : Str → Option Value} {base : Heap} {fNum fOwner fAt fDigit fPool fFree fTxt fNodes : Addr}
theorem scNodes : FnScope ["_law_s", "_law_many", "_law_links", "_law_nodes_here", "_law_turn", "_law_folders", "_law_over", "_law_way", "_law_kind", "_law_entries", "_law_k", "_law_at", "_law_node"] ["_law_s", "_law_many", "_law_links"] (defScope sNodes) := ⟨rfl, rfl, rfl, by decide +kernel, rfl, by decide +kernel, by decide +kernel⟩
theorem ok_nodes {fd fdD fdT fdF : FuncData} (F : Fun K "_law_nodes" "_law_nodes" sNodes fNodes fd) (T : TxtK K mg fNum fAt fDigit fPool) (TN : TxtD K mg fTxt fFree) (G : FnOk P w K mg base CX0 1 fDigit fdD ["_law_state_here", "_law_base"] spDigit) (b : Binds K fdD ["_law_state_here", "_law_base"] [])
    (GT : FnOk P w K mg base CX0 2 fTxt fdT ["_law_s"] spTxt) (bT : Binds K fdT ["_law_s"] []) (GF : FnOk P w K mg base CX0 2 fFree fdF ["_law_s", "_law_nodes_here", "_law_folder"] (spFree K)) (bF : Binds K fdF ["_law_s", "_law_nodes_here", "_law_folder"] []) :
    FnOk P w K mg base CX0 3 fNodes fd ["_law_s", "_law_many", "_law_links"] spNodes := by
  have nd := scNodes.nd
  refine F.ok scNodes (fun vs H Q E h => ?_) (fun cdv A outer s H vs Q E hr h => ?_)
  · obtain ⟨p, many, links, rfl, _⟩ := h
    rfl
  · obtain ⟨p, many, links, rfl, ⟨o, hp, dso⟩, m0, m1, k⟩ := h
    have hr1 : Room 1 _ := hr.mono (by decide)
    have hr2 : Room 2 _ := hr
    have hs : sizeLine = 16777216 := sizeLine_eq
    refine ⟨_, (pss_cons (ps_set (i := 3) nd rfl (Or.inl rfl) (pe_lst (pa_cons (pe_tup (pa_cons pe_str (pa_cons (pe_call G hr1 (by rfl) T.g_digit T.kp_digit b .nil pass0 (pa_cons (pv 0) (pa_cons pe_int pa_nil))) (pa_cons (pe_lst pa_nil) pa_nil)))) pa_nil)))
  (pss_cons (ps_for PassesOwn.never rfl (pi_range1 (by rfl) T.m_range (pa_cons (pv 1) pa_nil)) (pg_name (i := 4) nd rfl (Or.inl rfl))
  (pss_cons (ps_setLc (i := 5) (own := [("_law_at", 11), ("_law_node", 12)]) (g := gTup K 2 (gCons (gName 11) (gCons (gName 12) gNil))) (tt := tTest (tOp rEq (tOp (rIxT K) (tVar 12) (tC (V.int 0))) (tC (V.str "folder")))) rfl nd rfl rfl (sw_true rfl rfl rfl (by decide +kernel)) (pi_enum (by rfl) TN.m_enumerate (pa_cons (pv 3) pa_nil)) (blkOk_by (N := ["_law_s", "_law_many", "_law_links", "_law_nodes_here", "_law_turn", "_law_folders", "_law_over", "_law_way", "_law_kind", "_law_entries", "_law_k", "_law_at", "_law_node"]) (sc := defScope sNodes) (by decide +kernel)) (fun _ _ _ _ _ => (pg_tup (by rfl) (pgs_cons (pg_name (i := 11) nd rfl (Or.inl rfl)) (pgs_cons (pg_name (i := 12) nd rfl (Or.inl rfl)) pgs_nil)))) (fun _ _ _ _ _ => pts_one (pt_cmpR op_eq (pe_ix ix_tup (pv 12) pe_int (fun _ _ => rfl)) pe_str (nomark _))) (fun _ _ _ _ _ => (pv 11)))
  (pss_cons (ps_set (i := 6) nd rfl (Or.inl rfl) (pe_ix ix_list (pv 5) (pe_call G hr1 (by rfl) T.g_digit T.kp_digit b .nil pass0 (pa_cons (pv 0) (pa_cons (pe_callB call_len_seq (by rfl) T.m_len (by decide +kernel) (pa_cons (pv 5) pa_nil)) pa_nil))) (fun _ _ => rfl)))
  (pss_cons (ps_set (i := 7) nd rfl (Or.inl rfl) (pe_call G hr1 (by rfl) T.g_digit T.kp_digit b .nil pass0 (pa_cons (pv 0) (pa_cons pe_int pa_nil))))
  (pss_cons (ps_set (i := 8) nd rfl (Or.inl rfl) (pe_ix ix_list (pe_lst (pa_cons pe_str (pa_cons pe_str (pa_cons pe_str (pa_cons pe_str (pa_cons pe_str (pa_cons pe_str (pa_cons pe_str (pa_cons pe_str pa_nil))))))))) (pv 7) (fun _ _ => rfl)))
  (C8.pss_cut (ps_if (PW.pt (pw_and (pt_cmpR op_eq (pv 8) pe_str (nomark _)) (pw_and1 (pt_cmpR op_eq (pv 2) pe_int (nomark _))))) (pss_one (ps_set (i := 8) nd rfl (Or.inl rfl) pe_str)) pss_nil)
  (pss_cons (ps_if (pt_cmpR op_eq (pv 8) pe_str (nomark _)) (pss_cons (ps_expr (pe_bm PySem.F.plainAttrs_list PySem.F.slot_list_append PySem.F.type_list_append mt_append (pv 3) (pa_cons (pe_tup (pa_cons (pv 8) (pa_cons (pe_call G hr1 (by rfl) T.g_digit T.kp_digit b .nil pass0 (pa_cons (pv 0) (pa_cons pe_int pa_nil))) (pa_cons (pv 6) pa_nil)))) pa_nil)))
  (pss_one ps_continue)) pss_nil)
  (C8.pss_cut (ps_if (pt_cmpR op_eq (pv 8) pe_str (nomark _)) (pss_cons (ps_set (i := 2) nd rfl (Or.inl rfl) (pe_op op_sub (pv 2) pe_int))
  (pss_one (ps_expr (pe_bm PySem.F.plainAttrs_list PySem.F.slot_list_append PySem.F.type_list_append mt_append (pv 3) (pa_cons (pe_tup (pa_cons (pv 8) (pa_cons (pe_call G hr1 (by rfl) T.g_digit T.kp_digit b .nil pass0 (pa_cons (pv 0) (pa_cons pe_int pa_nil))) (pa_cons (pe_call GT hr2 (by rfl) TN.g_txt TN.kp_txt bT .nil pass0 (pa_cons (pv 0) pa_nil)) pa_nil)))) pa_nil))))) (pss_one (ps_expr (pe_bm PySem.F.plainAttrs_list PySem.F.slot_list_append PySem.F.type_list_append mt_append (pv 3) (pa_cons (pe_ix ix_list (pe_lst (pa_cons (pe_tup (pa_cons pe_str (pa_cons (pe_call G hr1 (by rfl) T.g_digit T.kp_digit b .nil pass0 (pa_cons (pv 0) (pa_cons pe_int pa_nil))) (pa_cons (pe_lst pa_nil) pa_nil)))) (pa_cons (pe_tup (pa_cons pe_str (pa_cons (pe_call G hr1 (by rfl) T.g_digit T.kp_digit b .nil pass0 (pa_cons (pv 0) (pa_cons pe_int pa_nil))) pa_nil))) pa_nil))) (pe_callTy call_int1 (by rfl) T.m_int (by decide +kernel) (pa_cons (pe_cmpR op_eq (pv 8) pe_str (nomark _)) pa_nil)) (fun _ _ => rfl)) pa_nil)))))
  (C8.pss_cut (ps_set (i := 9) nd rfl (Or.inl rfl) (pe_ifExp (pt_cmpR op_ne (pv 8) pe_str (nomark _)) (pe_ix ix_list (pe_lst (pa_cons pe_int (pa_cons pe_int (pa_cons pe_int (pa_cons pe_int (pa_cons pe_int pa_nil)))))) (pe_call G hr1 (by rfl) T.g_digit T.kp_digit b .nil pass0 (pa_cons (pv 0) (pa_cons pe_int pa_nil))) (fun _ _ => rfl)) pe_int))
  (pss_one (ps_for PassesOwn.never rfl (pi_range1 (by rfl) T.m_range (pa_cons (pv 9) pa_nil)) (pg_name (i := 10) nd rfl (Or.inl rfl))
  (C8.pss_cut (ps_if (pt_cmpR op_lt (pe_callB call_len_seq (by rfl) T.m_len (by decide +kernel) (pa_cons (pe_ix ix_tup (pe_ix ix_list (pv 3) (pv 6) (fun _ _ => rfl)) pe_int (fun _ _ => rfl)) pa_nil)) pe_int (nomark _)) (pss_one (ps_expr (pe_bm PySem.F.plainAttrs_list PySem.F.slot_list_append PySem.F.type_list_append mt_append (pe_ix ix_tup (pe_ix ix_list (pv 3) (pv 6) (fun _ _ => rfl)) pe_int (fun _ _ => rfl)) (pa_cons (pe_tup (pa_cons (pe_call GF hr2 (by rfl) TN.g_free TN.kp_free bF .nil pass0 (pa_cons (pv 0) (pa_cons (pv 3) (pa_cons (pv 6) pa_nil)))) (pa_cons (pe_op op_sub (pe_callB call_len_seq (by rfl) T.m_len (by decide +kernel) (pa_cons (pv 3) pa_nil)) pe_int) pa_nil))) pa_nil)))) (pss_one (ps_if (pt_cmpR op_eq (pv 8) pe_str (nomark _)) (pss_one (ps_asg (pe_tup (pa_cons pe_str (pa_cons pe_int pa_nil))) (pg_sub (pv 3) (pe_un un_neg pe_int) set_list))) pss_nil)))
  (pss_one (ps_set (i := 6) nd rfl (Or.inl rfl) (pe_ix ix_list (pv 5) (pe_call G hr1 (by rfl) T.g_digit T.kp_digit b .nil pass0 (pa_cons (pv 0) (pa_cons (pe_callB call_len_seq (by rfl) T.m_len (by decide +kernel) (pa_cons (pv 5) pa_nil)) pa_nil))) (fun _ _ => rfl))))))))))))))))
  (pss_one (ps_ret (pv 3))))), ?_⟩
    -- the root
    refine ⟨_, rfl, p, 3, o, rfl, by decide, by decide, hp, dso, fun r o1 r0 r1 ho1 => ⟨Nat.zero_le _, fun L0 hL0 => ⟨(by show 3 ≤ sizeLine; decide), fun t0 ht0 => ⟨(by show 1 ≤ sizeLine; decide), fun N hN => ?_⟩⟩⟩⟩
    have d1 : Dr p H (upd H p o1) := (Dr.refl hp dso).next ho1
    have ep1 : (upd H p o1) p = some o1 := upd_same
    generalize upd H p o1 = H1 at d1 ep1 hL0 ht0 hN ⊢
    have sL := NG.Same.upd (o := HO.lst []) hL0
    have st := NG.Same.upd (o := HO.tup [V.str "folder", V.int r, V.ref L0]) ht0
    have sN := NG.Same.upd (o := HO.lst [V.ref t0]) hN
    have eL := sN _ _ (st _ _ (upd_same (H := H1) (a := L0) (o := HO.lst [])))
    have et := sN _ _ (upd_same (H := upd H1 L0 (HO.lst [])) (a := t0) (o := HO.tup [V.str "folder", V.int r, V.ref L0]))
    have eN : (upd (upd (upd H1 L0 (HO.lst [])) t0 (HO.tup [V.str "folder", V.int r, V.ref L0])) N (HO.lst [V.ref t0])) N = some (.lst [V.ref t0]) := upd_same
    have nLN : L0 ≠ N := ne_of_none (st _ _ (upd_same (H := H1) (a := L0) (o := HO.lst []))) hN
    have nLp : L0 ≠ p := (ne_of_none ep1 hL0).symm
    have nNp : N ≠ p := (ne_of_none (st _ _ (sL _ _ ep1)) hN).symm
    have d2 := d1.same (sL.trans (st.trans sN))
    have fN : H N = none := fresh_of (d1.same (sL.trans st)) nNp hN
    have fL : H L0 = none := fresh_of d1 nLp hL0
    clear sL st sN hL0 ht0 hN
    generalize upd (upd (upd H1 L0 (HO.lst [])) t0 (HO.tup [V.str "folder", V.int r, V.ref L0])) N (HO.lst [V.ref t0]) = H2 at eL et eN d2 ⊢
    have nds0 : NdsAt H2 N [(t0, L0)] [.fol r []] := by
      refine ⟨eN, rfl, fun i ad nd h1 h2 => ?_, fun ad hm => ?_, by simp⟩
      · cases i with
        | zero =>
          cases Option.some.inj h1
          cases Option.some.inj h2
          exact ⟨et, [], eL, rfl, fun k q e h => by cases h⟩
        | succ i => cases h1
      · rw [List.mem_singleton.mp hm]
        exact ⟨⟨_, eL⟩, nLN⟩
    have wf0 : WF LinkText PL [Nd.fol r []] := by
      refine ⟨⟨⟨r, [], rfl⟩, fun i nd h => ?_, fun i nd h e he => ?_, fun i nd h => ?_, fun i o t h => ?_, fun i o ab h => (by cases i with
        | zero => cases Option.some.inj h
        | succ i => cases h)⟩, fun k nd hk h => ?_⟩
      all_goals
        cases ‹Nat› with
        | zero =>
          first
            | (cases Option.some.inj h; first | exact r0 | (cases he) | exact ⟨List.nodup_nil, Nat.zero_le _⟩ | (exact absurd hk (Nat.lt_irrefl 0)))
            | cases h
        | succ i => cases h
    have ap0 : Apart H p N [(t0, L0)] := ⟨nNp, fun ad hm => (by rw [List.mem_singleton.mp hm]; exact nLp), fN, fun ad hm => (by rw [List.mem_singleton.mp hm]; exact fL)⟩
    have rng : ∀ i : Nat, i < many.toNat → (i : Int) < many := fun i h => by omega
    refine ⟨_, rfl, many, rfl, by omega, by omega, for_range (n := many.toNat) (fun i σ H' => (∃ (ads : List (Addr × Addr)) (nds : List Nd) (lk : Int) (v4 v5 v6 v7 v8 v9 v10 v11 v12 : Option V), σ = [some (.ref p), some (.int many), some (.int lk), some (.ref N), v4, v5, v6, v7, v8, v9, v10, v11, v12] ∧ NdsAt H' N ads nds ∧ WF LinkText PL nds ∧ Apart H p N ads ∧ nds.length ≤ i + 1) ∧ Dr p H H')
      ⟨⟨_, _, links, none, none, none, none, none, none, none, none, none, rfl, nds0, wf0, ap0, Nat.le_refl _⟩, d2⟩ ?_ ?_⟩
    · rintro j σ H3 hj ⟨⟨ads, nds, lk, v4, v5, v6, v7, v8, v9, v10, v11, v12, rfl, ND, W0, AP, nl⟩, d3⟩
      have hj' := rng j hj
      have hlen := ND.len
      -- folders
      refine ⟨_, rfl, N, _, rfl, SqL.of ND.ls, fun D hD => ?_⟩
      have xl : (ads.map fun a => V.ref a.1).length < sizeLine := by rw [List.length_map]; omega
      refine lc_enum (K := K) (a := N) (xs := ads.map fun a => V.ref a.1) (i := 11) (j := 12) (by decide) (folB nds) (fun i => V.int (i : Nat)) xl hD (fun H' s => SqL.of (s _ _ ND.ls)) (fun i x H' R hx s hR => ?_) (fun i x H' R _ _ s hR => ⟨_, rfl, hR _ (Same.refl _)⟩) (fun H4 s4 e4 => ?_)
      · rw [List.getElem?_map] at hx
        cases ea : ads[i]? with
        | none => rw [ea] at hx; cases hx
        | some ad =>
          rw [ea] at hx
          cases Option.some.inj hx
          have hi : i < nds.length := by rw [← hlen]; exact (List.getElem?_eq_some_iff.mp ea).1
          have hn : nds[i]? = some nds[i] := List.getElem?_eq_getElem hi
          obtain ⟨rest, er⟩ := nd_kind (ND.nds i ad _ ea hn)
          refine ⟨_, rfl, ad.1, _, 0, .str (kindS nds[i]), rfl, rfl, SqT.of (s _ _ er), atI_zero, rfl, _, rfl, ?_⟩
          rw [kind_fol, ← folB_at hn]
          exact hR _ (Same.refl _)
      have e4' : H4 D = some (.lst ((folds nds).map fun i => V.int (i : Nat))) := by
        rw [e4, List.length_map, hlen]
        rfl
      have fpos := folds_pos W0
      have flen := folds_len nds
      have d4 := d3.same s4
      have ND4 := ND.same s4
      -- over
      obtain ⟨o4, hp4, ho4⟩ := d4.st
      obtain ⟨o3, hp3, ho3⟩ := d3.st
      have nDp : D ≠ p := (ne_of_none hp3 hD).symm
      have nDN : D ≠ N := (ne_of_none ND.ls hD).symm
      have nDL : ∀ ad ∈ ads, ad.2 ≠ D := fun ad hm => let ⟨o, e⟩ := (ND.al ad hm).1; ne_of_none e hD
      refine ⟨_, rfl, _, rfl, _, rfl, D, _, rfl, .inl (SqL.of e4'), p, _, o4, rfl, by rw [List.length_map]; omega, by rw [List.length_map]; omega, hp4, ho4, fun f o5 f0 f1 ho5 => ?_⟩
      have ND5 : NdsAt (upd H4 p o5) N ads nds := ND4.dr ((Dr.refl hp4 ho4).next ho5) ⟨o4, hp4, ho4⟩ AP.1 AP.2.1
      have d5 := d4.next ho5
      have e5 : (upd H4 p o5) D = some (.lst ((folds nds).map fun i => V.int (i : Nat))) := by rw [upd_ne nDp]; exact e4'
      have hp5 : (upd H4 p o5) p = some o5 := upd_same
      generalize upd H4 p o5 = H5 at ND5 d5 e5 hp5
      obtain ⟨v, hv, ev⟩ := pick (xs := (folds nds).map fun i => V.int (i : Nat)) f0 f1
      obtain ⟨ov, hov, rfl⟩ := List.mem_map.mp hv
      refine ⟨D, _, f, _, rfl, rfl, SqL.of e5, ev, ?_⟩
      -- way, kind
      refine ⟨_, rfl, p, 8, o5, rfl, by decide, by decide, hp5, ho5, fun g o6 g0 g1 ho6 => ?_⟩
      have ND6 : NdsAt (upd H5 p o6) N ads nds := ND5.dr ((Dr.refl hp5 ho5).next ho6) ⟨o5, hp5, ho5⟩ AP.1 AP.2.1
      have d6 := d5.next ho6
      have e6 : (upd H5 p o6) D = some (.lst ((folds nds).map fun i => V.int (i : Nat))) := by rw [upd_ne nDp]; exact e5
      have hp6 : (upd H5 p o6) p = some o6 := upd_same
      generalize upd H5 p o6 = H6 at ND6 d6 e6 hp6
      refine ⟨(by show 8 ≤ sizeLine; decide), fun q hq => ?_⟩
      have sq := NG.Same.upd (o := HO.lst [V.str "folder", V.str "folder", V.str "folder", V.str "folder", V.str "file", V.str "file", V.str "link", V.str "gone"]) hq
      have eq : (upd H6 q (HO.lst [V.str "folder", V.str "folder", V.str "folder", V.str "folder", V.str "file", V.str "file", V.str "link", V.str "gone"])) q = some (.lst (kindL.map V.str)) := upd_same
      have ND7 := ND6.same sq
      have d7 := d6.same sq
      have e7 := sq _ _ e6
      have hp7 := sq _ _ hp6
      generalize upd H6 q (HO.lst [V.str "folder", V.str "folder", V.str "folder", V.str "folder", V.str "file", V.str "file", V.str "link", V.str "gone"]) = H7 at eq ND7 d7 e7 hp7
      obtain ⟨kv, hkv, ekv⟩ := pick (xs := kindL.map V.str) g0 g1
      obtain ⟨z, hz, rfl⟩ := List.mem_map.mp hkv
      refine ⟨_, rfl, q, _, g, _, rfl, rfl, SqL.of eq, ekv, ?_⟩
      -- a link more, or a file
      refine ⟨fun σ H' => H' = H7 ∧ ∃ z : Str, (z = "folder" ∨ z = "file" ∨ z = "link" ∨ z = "gone") ∧ σ = [some (.ref p), some (.int many), some (.int lk), some (.ref N), some (.int (0 + (j : Int))), some (.ref D), some (.int (ov : Nat)), some (.int g), some (.str z), v9, v10, v11, v12], ?_, ?_⟩
      · refine ⟨_, rfl, rfl, _, rfl, ?_⟩
        have four : z = "folder" ∨ z = "file" ∨ z = "link" ∨ z = "gone" := by
          simp only [kindL, List.mem_cons, List.not_mem_nil, or_false] at hz
          rcases hz with rfl | rfl | rfl | rfl | rfl | rfl | rfl | rfl
          · exact .inl rfl
          · exact .inl rfl
          · exact .inl rfl
          · exact .inl rfl
          · exact .inr (.inl rfl)
          · exact .inr (.inl rfl)
          · exact .inr (.inr (.inl rfl))
          · exact .inr (.inr (.inr rfl))
        refine ite2 (fun _ => ?_) (fun _ => iteF ⟨rfl, z, four, rfl⟩)
        refine ⟨_, rfl, rfl, _, rfl, ?_⟩
        exact ite2 (fun _ => ⟨rfl, _, .inr (.inl rfl), rfl⟩) (fun _ => ⟨rfl, z, four, rfl⟩)
      rintro σ H8 ⟨e8, z, hz, rfl⟩
      obtain rfl : H7 = H8 := e8.symm
      have e7' : H7 D = some (.lst ((folds nds).map fun i => V.int (i : Nat))) := e7
      have fov : FolAt nds ov := folds_at hov
      obtain ⟨o7, hp7', ho7⟩ := d7.st
      have lN : (ads.map fun a => V.ref a.1).length < sizeLine := by rw [List.length_map]; omega
      refine ⟨_, rfl, rfl, _, rfl, ?_⟩
      by_cases hgone : z = "gone"
      · -- gone
        subst hgone
        rw [decide_eq_true (rfl : V.str "gone" = V.str "gone")]
        refine iteT ⟨_, rfl, .inl ⟨rfl, _, SqL.of ND7.ls⟩, _, rfl, _, rfl, p, 3, o7, rfl, by decide, by decide, hp7', ho7, fun d o8 d0 d1 ho8 => ?_⟩
        have ND8 : NdsAt (upd H7 p o8) N ads nds := ND7.dr ((Dr.refl hp7' ho7).next ho8) ⟨o7, hp7', ho7⟩ AP.1 AP.2.1
        have d8 := d7.next ho8
        generalize upd H7 p o8 = H8 at ND8 d8
        refine ⟨_, rfl, (by show 3 ≤ sizeLine; decide), fun t ht => ?_⟩
        have st := NG.Same.upd (o := HO.tup [V.str "gone", V.int d, V.int (ov : Nat)]) ht
        have et : (upd H8 t (HO.tup [V.str "gone", V.int d, V.int (ov : Nat)])) t = some (.tup [V.str "gone", V.int d, V.int (ov : Nat)]) := upd_same
        have ft : ∀ ad ∈ ads, ad.2 ≠ t := fun ad hm => let ⟨o, e⟩ := (ND8.al ad hm).1; ne_of_none e ht
        have ND9 := ND8.same st
        have d9 := d8.same st
        have ntN : t ≠ N := (ne_of_none ND8.ls ht).symm
        obtain ⟨o8', hp8, _⟩ := d8.st
        have ntp : t ≠ p := (ne_of_none hp8 ht).symm
        generalize upd H8 t (HO.tup [V.str "gone", V.int d, V.int (ov : Nat)]) = H9 at et ND9 d9
        refine ⟨N, _, _, rfl, rfl, ND9.ls, lN, ?_⟩
        have ND10 := nds_snoc (x := .gon d ov) ND9 (show NdAt H9 (t, t) (.gon d ov) from et) ⟨_, et⟩ ntN ft
        have W1 := wf_snoc W0 (x := .gon d ov) rfl d0 (fun _ _ e => by cases e) (fun o ab e => by cases e; exact fov)
        have d10 : Dr p H (upd H9 N (.lst ((ads.map fun a => V.ref a.1) ++ [.ref t]))) := ⟨fun b x eb nb => by rw [upd_ne (ne_of_none eb AP.2.2.1)]; exact d9.but b x eb nb, let ⟨x, e, q⟩ := d9.st; ⟨x, by rw [upd_ne AP.1.symm]; exact e, q⟩⟩
        refine ⟨⟨_, _, lk, _, _, _, _, _, _, _, _, _, rfl, ND10, W1, ⟨AP.1, fun ad hm => ?_, AP.2.2.1, fun ad hm => ?_⟩, by rw [List.length_append, List.length_singleton]; omega⟩, d10⟩
        · rcases List.mem_append.mp hm with hm | hm
          · exact AP.2.1 ad hm
          · rw [List.mem_singleton.mp hm]; exact ntp
        rcases List.mem_append.mp hm with hm | hm
        · exact AP.2.2.2 ad hm
        · rw [List.mem_singleton.mp hm]; exact fresh_of d8 ntp ht
      rw [decide_eq_false (fun q => hgone (V.str.inj q))]
      refine iteF ?_
      have z3 : z = "folder" ∨ z = "file" ∨ z = "link" := by
        rcases hz with h | h | h | h
        · exact .inl h
        · exact .inr (.inl h)
        · exact .inr (.inr h)
        · exact absurd h hgone
      -- the node
      refine ⟨fun σ H' => ∃ (ads' : List (Addr × Addr)) (x : Nd) (lk' : Int), σ = [some (.ref p), some (.int many), some (.int lk'), some (.ref N), some (.int (0 + (j : Int))), some (.ref D), some (.int (ov : Nat)), some (.int g), some (.str z), v9, v10, v11, v12] ∧ Dr p H H' ∧ H' D = some (.lst ((folds nds).map fun i => V.int (i : Nat))) ∧ NdsAt H' N ads' (nds ++ [x]) ∧ Apart H p N ads' ∧ x.isGone = false ∧
        ((z = "folder" ∧ Pend LinkText PL (nds ++ [x]) nds.length) ∨ (z ≠ "folder" ∧ x.isFol = false ∧ WF LinkText PL (nds ++ [x]))), ?_, ?_⟩
      · -- what is the same for all three: a tuple at t is put behind the nodes
        have put : ∀ (H9 : Hp) (x : Nd) (t L : Addr) (lk' : Int), NdsAt H9 N ads nds → Dr p H H9 → H9 D = some (.lst ((folds nds).map fun i => V.int (i : Nat))) → NdAt H9 (t, L) x → (∃ o, H9 L = some o) → L ≠ N → L ≠ p → H L = none → (∀ ad ∈ ads, ad.2 ≠ L) → x.isGone = false →
            ((z = "folder" ∧ Pend LinkText PL (nds ++ [x]) nds.length) ∨ (z ≠ "folder" ∧ x.isFol = false ∧ WF LinkText PL (nds ++ [x]))) →
            ∃ (ads' : List (Addr × Addr)) (x : Nd) (lk'' : Int), [some (V.ref p), some (.int many), some (.int lk'), some (.ref N), some (.int (0 + (j : Int))), some (.ref D), some (.int (ov : Nat)), some (.int g), some (.str z), v9, v10, v11, v12] = [some (V.ref p), some (.int many), some (.int lk''), some (.ref N), some (.int (0 + (j : Int))), some (.ref D), some (.int (ov : Nat)), some (.int g), some (.str z), v9, v10, v11, v12] ∧ Dr p H (upd H9 N (.lst ((ads.map fun a => V.ref a.1) ++ [.ref t]))) ∧ (upd H9 N (.lst ((ads.map fun a => V.ref a.1) ++ [.ref t]))) D = some (.lst ((folds nds).map fun i => V.int (i : Nat))) ∧ NdsAt (upd H9 N (.lst ((ads.map fun a => V.ref a.1) ++ [.ref t]))) N ads' (nds ++ [x]) ∧ Apart H p N ads' ∧ x.isGone = false ∧
              ((z = "folder" ∧ Pend LinkText PL (nds ++ [x]) nds.length) ∨ (z ≠ "folder" ∧ x.isFol = false ∧ WF LinkText PL (nds ++ [x]))) := fun H9 x t L lk' n9 d9 e9 nx aL lN' lp fL lu xg kk => by
          refine ⟨ads ++ [(t, L)], x, lk', rfl, ⟨fun b u eb nb => by rw [upd_ne (ne_of_none eb AP.2.2.1)]; exact d9.but b u eb nb, let ⟨u, e, q⟩ := d9.st; ⟨u, by rw [upd_ne AP.1.symm]; exact e, q⟩⟩, by rw [upd_ne nDN]; exact e9, nds_snoc n9 nx aL lN' lu, ⟨AP.1, fun ad hm => ?_, AP.2.2.1, fun ad hm => ?_⟩, xg, kk⟩
          · rcases List.mem_append.mp hm with hm | hm
            · exact AP.2.1 ad hm
            · rw [List.mem_singleton.mp hm]; exact lp
          · rcases List.mem_append.mp hm with hm | hm
            · exact AP.2.2.2 ad hm
            · rw [List.mem_singleton.mp hm]; exact fL
        refine ⟨_, rfl, rfl, _, rfl, ?_⟩
        by_cases hlink : z = "link"
        · subst hlink
          rw [decide_eq_true (rfl : V.str "link" = V.str "link")]
          refine iteT ⟨_, rfl, _, _, rfl, rfl, ?_⟩
          refine ⟨_, rfl, .inl ⟨rfl, _, SqL.of ND7.ls⟩, _, rfl, _, rfl, p, 3, o7, rfl, by decide, by decide, hp7', ho7, fun d o8 d0 d1 ho8 => ?_⟩
          have ND8 : NdsAt (upd H7 p o8) N ads nds := ND7.dr ((Dr.refl hp7' ho7).next ho8) ⟨o7, hp7', ho7⟩ AP.1 AP.2.1
          have d8 := d7.next ho8
          have hp8 : (upd H7 p o8) p = some o8 := upd_same
          have e8 : (upd H7 p o8) D = some (.lst ((folds nds).map fun i => V.int (i : Nat))) := by rw [upd_ne nDp]; exact e7'
          generalize upd H7 p o8 = H8 at ND8 d8 hp8 e8
          refine ⟨_, rfl, p, rfl, ⟨o8, hp8, ho8⟩, fun s H9 hs9 d9 => ?_⟩
          have ND9 : NdsAt H9 N ads nds := ND8.dr d9 ⟨o8, hp8, ho8⟩ AP.1 AP.2.1
          have e9 := d9.but _ _ e8 nDp
          have d89 := d8.trans d9
          refine ⟨(by show 3 ≤ sizeLine; decide), fun t ht => ?_⟩
          have st := NG.Same.upd (o := HO.tup [V.str "link", V.int d, V.str s]) ht
          have et : (upd H9 t (HO.tup [V.str "link", V.int d, V.str s])) t = some (.tup [V.str "link", V.int d, V.str s]) := upd_same
          have ft : ∀ ad ∈ ads, ad.2 ≠ t := fun ad hm => let ⟨o, e⟩ := (ND9.al ad hm).1; ne_of_none e ht
          have ntN : t ≠ N := (ne_of_none ND9.ls ht).symm
          obtain ⟨o9, hp9, _⟩ := d89.st
          have ntp : t ≠ p := (ne_of_none hp9 ht).symm
          refine ⟨N, _, _, rfl, rfl, (ND9.same st).ls, lN, ?_⟩
          exact put _ (.lnk d s) t t (lk - 1) (ND9.same st) (d89.same st) (st _ _ e9) et ⟨_, et⟩ ntN ntp (fresh_of d89 ntp ht) ft rfl (.inr ⟨by decide +kernel, rfl, wf_snoc W0 rfl d0 (fun _ _ e => by cases e; exact hs9) (fun _ _ e => by cases e)⟩)
        · rw [decide_eq_false (fun q => hlink (V.str.inj q))]
          refine iteF ?_
          refine ⟨_, rfl, .inl ⟨rfl, _, SqL.of ND7.ls⟩, _, rfl, p, 3, o7, rfl, by decide, by decide, hp7', ho7, fun d o8 d0 d1 ho8 => ⟨Nat.zero_le _, fun L1 hL1 => ⟨(by show 3 ≤ sizeLine; decide), fun t1 ht1 => ?_⟩⟩⟩
          have ND8 : NdsAt (upd H7 p o8) N ads nds := ND7.dr ((Dr.refl hp7' ho7).next ho8) ⟨o7, hp7', ho7⟩ AP.1 AP.2.1
          have d8 := d7.next ho8
          have hp8 : (upd H7 p o8) p = some o8 := upd_same
          have e8 : (upd H7 p o8) D = some (.lst ((folds nds).map fun i => V.int (i : Nat))) := by rw [upd_ne nDp]; exact e7'
          generalize upd H7 p o8 = H8 at ND8 d8 hp8 e8 hL1 ht1 ⊢
          have sL := NG.Same.upd (o := HO.lst []) hL1
          have st := NG.Same.upd (o := HO.tup [V.str "folder", V.int d, V.ref L1]) ht1
          have eL : (upd (upd H8 L1 (HO.lst [])) t1 (HO.tup [V.str "folder", V.int d, V.ref L1])) L1 = some (.lst []) := st _ _ upd_same
          have et : (upd (upd H8 L1 (HO.lst [])) t1 (HO.tup [V.str "folder", V.int d, V.ref L1])) t1 = some (.tup [V.str "folder", V.int d, V.ref L1]) := upd_same
          have fLa : ∀ ad ∈ ads, ad.2 ≠ L1 := fun ad hm => let ⟨o, e⟩ := (ND8.al ad hm).1; ne_of_none e hL1
          have nLN : L1 ≠ N := (ne_of_none ND8.ls hL1).symm
          have nLp : L1 ≠ p := (ne_of_none hp8 hL1).symm
          have fL1 : H L1 = none := fresh_of d8 nLp hL1
          have ND9 := ND8.same (sL.trans st)
          have d9 := d8.same (sL.trans st)
          have e9 := (sL.trans st) _ _ e8
          have hp9 := (sL.trans st) _ _ hp8
          generalize upd (upd H8 L1 (HO.lst [])) t1 (HO.tup [V.str "folder", V.int d, V.ref L1]) = H9 at eL et ND9 d9 e9 hp9 ⊢
          refine ⟨_, rfl, p, 3, o8, rfl, by decide, by decide, hp9, ho8, fun d' o9 d0' d1' ho9 => ⟨(by show 2 ≤ sizeLine; decide), fun t2 ht2 => ⟨(by show 2 ≤ sizeLine; decide), fun ql hql => ?_⟩⟩⟩
          have ND10 : NdsAt (upd H9 p o9) N ads nds := ND9.dr ((Dr.refl hp9 ho8).next ho9) ⟨o8, hp9, ho8⟩ AP.1 AP.2.1
          have d10 := d9.next ho9
          have e10 : (upd H9 p o9) D = some (.lst ((folds nds).map fun i => V.int (i : Nat))) := by rw [upd_ne nDp]; exact e9
          have hp10 : (upd H9 p o9) p = some o9 := upd_same
          have eL10 : (upd H9 p o9) L1 = some (.lst []) := by rw [upd_ne nLp]; exact eL
          have et10 : (upd H9 p o9) t1 = some (.tup [V.str "folder", V.int d, V.ref L1]) := by
            rw [upd_ne (ne_of et hp9 (by obtain ⟨a1, m1, c1, q1, _⟩ := ho8; rw [q1]; intro q; cases q))]
            exact et
          generalize upd H9 p o9 = H10 at ND10 d10 e10 hp10 eL10 et10 ht2 hql ⊢
          have s2 := NG.Same.upd (o := HO.tup [V.str "file", V.int d']) ht2
          have sq := NG.Same.upd (o := HO.lst [V.ref t1, V.ref t2]) hql
          have et2 : (upd (upd H10 t2 (HO.tup [V.str "file", V.int d'])) ql (HO.lst [V.ref t1, V.ref t2])) t2 = some (.tup [V.str "file", V.int d']) := sq _ _ upd_same
          have eq2 : (upd (upd H10 t2 (HO.tup [V.str "file", V.int d'])) ql (HO.lst [V.ref t1, V.ref t2])) ql = some (.lst [V.ref t1, V.ref t2]) := upd_same
          have f2 : ∀ ad ∈ ads, ad.2 ≠ t2 := fun ad hm => let ⟨o, e⟩ := (ND10.al ad hm).1; ne_of_none e ht2
          have n2N : t2 ≠ N := (ne_of_none ND10.ls ht2).symm
          have n2p : t2 ≠ p := (ne_of_none hp10 ht2).symm
          have f2H : H t2 = none := fresh_of d10 n2p ht2
          have ND11 := ND10.same (s2.trans sq)
          have d11 := d10.same (s2.trans sq)
          have e11 := (s2.trans sq) _ _ e10
          have eL11 := (s2.trans sq) _ _ eL10
          have et11 := (s2.trans sq) _ _ et10
          generalize upd (upd H10 t2 (HO.tup [V.str "file", V.int d'])) ql (HO.lst [V.ref t1, V.ref t2]) = H11 at et2 eq2 ND11 d11 e11 eL11 et11 ⊢
          refine ⟨_, rfl, rfl, .inr ⟨_, rfl, ?_⟩⟩
          by_cases hfile : z = "file"
          · subst hfile
            rw [decide_eq_true (rfl : V.str "file" = V.str "file")]
            refine ⟨ql, _, 1, .ref t2, rfl, rfl, SqL.of eq2, rfl, N, _, _, rfl, rfl, ND11.ls, lN, ?_⟩
            exact put _ (.fil d') t2 t2 lk ND11 d11 e11 et2 ⟨_, et2⟩ n2N n2p f2H f2 rfl (.inr ⟨by decide +kernel, rfl, wf_snoc W0 rfl d0' (fun _ _ e => by cases e) (fun _ _ e => by cases e)⟩)
          · have hfol : z = "folder" := by
              rcases z3 with h | h | h
              · exact h
              · exact absurd h hfile
              · exact absurd h hlink
            subst hfol
            rw [decide_eq_false (fun q => hfile (V.str.inj q))]
            refine ⟨ql, _, 0, .ref t1, rfl, rfl, SqL.of eq2, rfl, N, _, _, rfl, rfl, ND11.ls, lN, ?_⟩
            exact put _ (.fol d []) t1 L1 lk ND11 d11 e11 ⟨et11, [], eL11, rfl, fun k q e h => by cases h⟩ ⟨_, eL11⟩ nLN nLp fL1 fLa rfl (.inl ⟨rfl, pend_snoc W0 d0⟩)
      rintro σ K1 ⟨adA, x, lk1, rfl, dA, eA, NDA, APA, xg, kk⟩
      -- how many entries
      refine ⟨fun σ H' => ∃ m : Int, 0 ≤ m ∧ m ≤ 2 ∧ (z = "folder" → m = 1) ∧ σ = [some (.ref p), some (.int many), some (.int lk1), some (.ref N), some (.int (0 + (j : Int))), some (.ref D), some (.int (ov : Nat)), some (.int g), some (.str z), some (.int m), v10, v11, v12] ∧ Dr p H H' ∧ H' D = some (.lst ((folds nds).map fun i => V.int (i : Nat))) ∧ NdsAt H' N adA (nds ++ [x]), ?_, ?_⟩
      · refine ⟨_, rfl, rfl, _, rfl, ?_⟩
        by_cases hfol : z = "folder"
        · subst hfol
          rw [decide_eq_true (rfl : V.str "folder" = V.str "folder")]
          refine iteF ⟨1, by decide, by decide, fun _ => rfl, rfl, dA, eA, NDA⟩
        · rw [decide_eq_false (fun q => hfol (V.str.inj q))]
          refine iteT ⟨(by show 5 ≤ sizeLine; decide), fun ql hql => ?_⟩
          obtain ⟨oA, hpA, hoA⟩ := dA.st
          have sq := NG.Same.upd (o := HO.lst [V.int 1, V.int 1, V.int 1, V.int 2, V.int 0]) hql
          have nqp : ql ≠ p := (ne_of_none hpA hql).symm
          refine ⟨_, rfl, p, 5, oA, rfl, by decide, by decide, sq _ _ hpA, hoA, fun d oB d0 d1 hoB => ?_⟩
          obtain ⟨v, hv, ev⟩ := pick (xs := [V.int 1, V.int 1, V.int 1, V.int 2, V.int 0]) d0 d1
          refine ⟨ql, _, d, v, rfl, rfl, SqL.of (by rw [upd_ne nqp]; exact upd_same), ev, ?_⟩
          have NDB := (NDA.same sq).dr ((Dr.refl (sq _ _ hpA) hoA).next hoB) ⟨oA, sq _ _ hpA, hoA⟩ APA.1 APA.2.1
          have dB := (dA.same sq).next hoB
          have eB : (upd (upd K1 ql (HO.lst [V.int 1, V.int 1, V.int 1, V.int 2, V.int 0])) p oB) D = some (.lst ((folds nds).map fun i => V.int (i : Nat))) := by rw [upd_ne nDp]; exact sq _ _ eA
          simp only [List.mem_cons, List.not_mem_nil, or_false] at hv
          rcases hv with rfl | rfl | rfl | rfl | rfl
          · exact ⟨1, by decide, by decide, fun q => absurd q hfol, rfl, dB, eB, NDB⟩
          · exact ⟨1, by decide, by decide, fun q => absurd q hfol, rfl, dB, eB, NDB⟩
          · exact ⟨1, by decide, by decide, fun q => absurd q hfol, rfl, dB, eB, NDB⟩
          · exact ⟨2, by decide, by decide, fun q => absurd q hfol, rfl, dB, eB, NDB⟩
          · exact ⟨0, by decide, by decide, fun q => absurd q hfol, rfl, dB, eB, NDB⟩
      rintro σ K2 ⟨m, mm0, mm2, mf, rfl, dB, eB, NDB⟩
      -- the entries
      have fold0 : ∀ i ∈ folds nds, i < nds.length := fun i hi => List.mem_range.mp (List.mem_filter.mp hi).1
      refine ⟨_, rfl, m, rfl, by omega, by omega, for_range (n := m.toNat) (fun i σ H' => (∃ (ad2 : List (Addr × Addr)) (n2 : List Nd) (o2 : Nat) (w10 w11 w12 : Option V), σ = [some (.ref p), some (.int many), some (.int lk1), some (.ref N), some (.int (0 + (j : Int))), some (.ref D), some (.int (o2 : Nat)), some (.int g), some (.str z), some (.int m), w10, w11, w12] ∧ o2 ∈ folds nds ∧
        NdsAt H' N ad2 n2 ∧ Apart H p N ad2 ∧ n2.length = nds.length + 1 ∧ (∀ i ∈ folds nds, FolAt n2 i) ∧ (∃ x, n2[nds.length]? = some x ∧ x.isGone = false ∧ (z ≠ "folder" → x.isFol = false)) ∧ ((z = "folder" ∧ i = 0 → Pend LinkText PL n2 nds.length) ∧ (¬ (z = "folder" ∧ i = 0) → WF LinkText PL n2))) ∧
        Dr p H H' ∧ H' D = some (.lst ((folds nds).map fun i => V.int (i : Nat))))
        ⟨⟨adA, nds ++ [x], ov, v10, v11, v12, rfl, hov, NDB, APA, by simp, fun i hi => ?_, ⟨x, ?_, xg, ?_⟩, ?_, ?_⟩, dB, eB⟩ ?_ ?_⟩
      · obtain ⟨o, es, h⟩ := folds_at hi
        exact ⟨o, es, get_keep h⟩
      · rw [List.getElem?_append_right (Nat.le_refl _), Nat.sub_self]; rfl
      · intro q
        rcases kk with ⟨h, _⟩ | ⟨_, h, _⟩
        · exact absurd h q
        · exact h
      · rintro ⟨h, _⟩
        rcases kk with ⟨_, h'⟩ | ⟨h', _⟩
        · exact h'
        · exact absurd h h'
      · intro h
        rcases kk with ⟨h', _⟩ | ⟨_, _, h'⟩
        · exact absurd ⟨h', rfl⟩ h
        · exact h'
      · rintro i σ K3 hi ⟨⟨ad2, n2, o2, w10, w11, w12, rfl, ho2, ND2, AP2, nl2, ff, ⟨xl2, xh, xg2, xf2⟩, pw, ww⟩, d3', e3'⟩
        -- the folder over which it goes
        have ho2n := fold0 o2 ho2
        obtain ⟨o, es, hfo⟩ := ff o2 ho2
        have la2 : ad2.length = nds.length + 1 := by rw [ND2.len, nl2]
        have ha2 : ad2[o2]? = some ad2[o2] := List.getElem?_eq_getElem (by omega)
        generalize ad2[o2] = ad at ha2
        obtain ⟨t, L⟩ := ad
        obtain ⟨et, hEn⟩ := ND2.nds o2 (t, L) _ ha2 hfo
        have hEn' := hEn
        obtain ⟨qs, eL, ql, qe⟩ := hEn
        have hatN : atI (ad2.map fun a => V.ref a.1) ((o2 : Nat) : Int) = some (.ref t) := atI_nat (by rw [List.getElem?_map, ha2]; rfl)
        have hm2 := List.mem_of_getElem? ha2
        have nLN := (ND2.al _ hm2).2
        have nLp := AP2.2.1 _ hm2
        have fL := AP2.2.2.2 _ hm2
        dsimp only at nLN nLp fL
        have nDL2 : D ≠ L := ne_of e3' eL (by
          intro q
          injection q with q
          cases hf : folds nds with
          | nil => rw [hf] at fpos; cases fpos
          | cons y r =>
            rw [hf] at q
            cases hq : qs with
            | nil => rw [hq] at q; cases q
            | cons q0 r0 =>
              rw [hq] at q ql qe
              rw [List.map_cons] at q
              injection q with q _
              have h0 : 0 < es.length := by rw [← ql]; simp
              obtain ⟨a', ea', _⟩ := qe 0 q0 _ rfl (List.getElem?_eq_getElem h0)
              rw [ea'] at q
              cases q)
        have le12 := (show es.length ≤ 12 from by
          by_cases h : z = "folder" ∧ i = 0
          · exact ((pw h).base.uniq o2 _ hfo).2
          · exact ((ww h).base.uniq o2 _ hfo).2)
        have i0 : z = "folder" → i = 0 := fun q => by have := mf q; omega
        obtain ⟨o3', hp3', ho3'⟩ := d3'.st
        refine ⟨fun σ H' => ∃ (ad3 : List (Addr × Addr)) (n3 : List Nd), σ = [some (.ref p), some (.int many), some (.int lk1), some (.ref N), some (.int (0 + (j : Int))), some (.ref D), some (.int (o2 : Nat)), some (.int g), some (.str z), some (.int m), some (.int (0 + (i : Int))), w11, w12] ∧
          NdsAt H' N ad3 n3 ∧ Apart H p N ad3 ∧ n3.length = nds.length + 1 ∧ (∀ i ∈ folds nds, FolAt n3 i) ∧ (∃ x, n3[nds.length]? = some x ∧ x.isGone = false ∧ (z ≠ "folder" → x.isFol = false)) ∧ WF LinkText PL n3 ∧ Dr p H H' ∧ H' D = some (.lst ((folds nds).map fun i => V.int (i : Nat))), ?_, ?_⟩
        · refine ⟨_, rfl, _, rfl, N, _, _, _, rfl, rfl, SqL.of ND2.ls, hatN, t, _, 2, .ref L, rfl, rfl, SqT.of et, rfl, L, qs, rfl, .inl (SqL.of eL), _, _, rfl, rfl, _, rfl, ?_⟩
          refine ite2 (fun h => ?_) (fun h => ?_)
          · have lt12 : es.length < 12 := by have := of_decide_eq_true h; omega
            refine ⟨_, rfl, _, rfl, N, _, _, _, rfl, rfl, SqL.of ND2.ls, hatN, t, _, 2, .ref L, rfl, rfl, SqT.of et, rfl, .inl ⟨rfl, _, SqL.of eL⟩, ?_⟩
            refine ⟨_, rfl, _, rfl, _, rfl, p, N, t, L, _, _, .int o, es, rfl, ⟨o3', hp3', ho3'⟩, ND2.ls, hatN, et, hEn', lt12, fun nm K4 hnm hnu d4 => ?_⟩
            have ND4 := ND2.dr d4 ⟨o3', hp3', ho3'⟩ AP2.1 AP2.2.1
            have d4' := d3'.trans d4
            have e4' := d4.but _ _ e3' nDp
            have eL4 : K4 L = some (.lst qs) := d4.but _ _ eL nLp
            refine ⟨_, rfl, N, _, rfl, .inl (SqL.of ND4.ls), _, _, rfl, rfl, (by show 2 ≤ sizeLine; decide), fun q hq => ?_⟩
            have sq := NG.Same.upd (o := HO.tup [V.str nm, V.int (((ad2.map fun a => V.ref a.1).length : Nat) - 1)]) hq
            have eqq : (upd K4 q (HO.tup [V.str nm, V.int (((ad2.map fun a => V.ref a.1).length : Nat) - 1)])) q = some (.tup [V.str nm, V.int (((ad2.map fun a => V.ref a.1).length : Nat) - 1)]) := upd_same
            have ND5 := ND4.same sq
            have d5 := d4'.same sq
            have e5 := sq _ _ e4'
            have eL5 := sq _ _ eL4
            generalize upd K4 q (HO.tup [V.str nm, V.int (((ad2.map fun a => V.ref a.1).length : Nat) - 1)]) = K5 at eqq ND5 d5 e5 eL5 ⊢
            have hent : EntAt K5 (.ref q) (nm, nds.length) := by
              refine ⟨q, rfl, ?_⟩
              rw [eqq, List.length_map, la2]
              congr 5
              omega
            refine ⟨L, qs, _, rfl, rfl, eL5, by omega, ?_⟩
            have ND6 := nds_ent ND5 ha2 hfo eL5 hent
            refine ⟨ad2, n2.set o2 (.fol o (es ++ [(nm, nds.length)])), rfl, ND6, AP2, by rw [List.length_set]; exact nl2, fun i hi => ?_, ⟨xl2, by rw [List.getElem?_set_ne (by omega)]; exact xh, xg2, xf2⟩, ?_, dr_set d5 fL nLp, by rw [upd_ne nDL2]; exact e5⟩
            · by_cases e : o2 = i
              · exact ⟨o, _, by rw [← e]; exact set_at (by omega)⟩
              · obtain ⟨o', es', h'⟩ := ff i hi
                exact ⟨o', es', by rw [List.getElem?_set_ne e]; exact h'⟩
            · by_cases hzf : z = "folder"
              · exact pend_ent (pw ⟨hzf, i0 hzf⟩) hfo hnm hnu lt12 ho2n
              · exact wf_ent (ww (fun q => hzf q.1)) hfo hnm hnu lt12 xh xg2 (xf2 hzf) ho2n
          · refine ⟨_, rfl, rfl, _, rfl, ?_⟩
            by_cases hzf : z = "folder"
            · subst hzf
              rw [decide_eq_true (rfl : V.str "folder" = V.str "folder")]
              refine iteT ⟨(by show 2 ≤ sizeLine; decide), fun t' ht' => ?_⟩
              have st := NG.Same.upd (o := HO.tup [V.str "file", V.int 0]) ht'
              have et' : (upd K3 t' (HO.tup [V.str "file", V.int 0])) t' = some (.tup [V.str "file", V.int 0]) := upd_same
              have ft' : ∀ ad ∈ ad2, ad.2 ≠ t' := fun ad hm => let ⟨o, e⟩ := (ND2.al ad hm).1; ne_of_none e ht'
              have ntp : t' ≠ p := (ne_of_none hp3' ht').symm
              have fH := fresh_of d3' ntp ht'
              have ND4 := ND2.same st
              have d4 := d3'.same st
              have e4 := st _ _ e3'
              generalize upd K3 t' (HO.tup [V.str "file", V.int 0]) = K4 at et' ND4 d4 e4
              have hix : ixN (ad2.map fun a => V.ref a.1).length (-1) = some nds.length := by
                unfold ixN
                rw [List.length_map, la2, if_neg (by decide), if_pos (by omega)]
                congr 1
                omega
              refine ⟨_, rfl, _, rfl, N, _, _, _, rfl, rfl, ND4.ls, hix, ?_⟩
              have ND5 := nds_set (x := .fil 0) ND4 (show nds.length < ad2.length by omega) (show NdAt K4 (t', t') (.fil 0) from et') ⟨_, et'⟩ ft'
              refine ⟨_, _, rfl, ND5, ⟨AP2.1, fun ad hm => ?_, AP2.2.2.1, fun ad hm => ?_⟩, by rw [List.length_set]; exact nl2, fun i hi => ?_, ⟨_, set_at (by omega), rfl, fun q => absurd rfl q⟩, pend_file (pw ⟨rfl, i0 rfl⟩), dr_set d4 AP2.2.2.1 AP2.1, by rw [upd_ne nDN]; exact e4⟩
              · rcases List.mem_or_eq_of_mem_set hm with hm | rfl
                · exact AP2.2.1 ad hm
                · exact ntp
              · rcases List.mem_or_eq_of_mem_set hm with hm | rfl
                · exact AP2.2.2.2 ad hm
                · exact fH
              · obtain ⟨o', es', h'⟩ := ff i hi
                have := fold0 i hi
                exact ⟨o', es', by rw [List.getElem?_set_ne (by omega)]; exact h'⟩
            · rw [decide_eq_false (fun q => hzf (V.str.inj q))]
              exact iteF ⟨ad2, n2, rfl, ND2, AP2, nl2, ff, ⟨xl2, xh, xg2, xf2⟩, ww (fun q => hzf q.1), d3', e3'⟩
        rintro σ K6 ⟨ad3, n3, rfl, ND3, AP3, nl3, ff3, lst3, W3, d6', e6'⟩
        -- the next one
        obtain ⟨o6', hp6', ho6'⟩ := d6'.st
        refine ⟨_, rfl, _, rfl, _, rfl, D, _, rfl, .inl (SqL.of e6'), p, _, o6', rfl, by rw [List.length_map]; omega, by rw [List.length_map]; omega, hp6', ho6', fun f' o7' f0' f1' ho7' => ?_⟩
        obtain ⟨v, hv, ev⟩ := pick (xs := (folds nds).map fun i => V.int (i : Nat)) f0' f1'
        obtain ⟨o8', ho8', rfl⟩ := List.mem_map.mp hv
        refine ⟨D, _, f', _, rfl, rfl, SqL.of (by rw [upd_ne nDp]; exact e6'), ev, ?_⟩
        exact ⟨⟨ad3, n3, o8', _, _, _, rfl, ho8', ND3.dr ((Dr.refl hp6' ho6').next ho7') ⟨o6', hp6', ho6'⟩ AP3.1 AP3.2.1, AP3, nl3, ff3, lst3, fun q => absurd q.2 (by omega), fun _ => W3⟩, d6'.next ho7', by rw [upd_ne nDp]; exact e6'⟩
      · rintro σ K3 ⟨⟨ad2, n2, o2, w10, w11, w12, rfl, ho2, ND2, AP2, nl2, ff, _, pw, ww⟩, d3', e3'⟩
        refine ⟨⟨ad2, n2, lk1, _, _, _, _, _, _, _, _, _, rfl, ND2, ww ?_, AP2, by omega⟩, d3'⟩
        rintro ⟨h, h0⟩
        have := mf h
        omega
    · rintro σ H3 ⟨⟨ads, nds, lk, v4, v5, v6, v7, v8, v9, v10, v11, v12, rfl, ND, W0, AP, nl⟩, d3⟩
      exact ⟨_, rfl, k N ads nds H3 d3 ND W0 AP (by omega)⟩
end
end NW

set_option maxRecDepth 100000
set_option maxHeartbeats 8000000
namespace NW
open PySem L2 NG TR
abbrev sFileI : Stmt := inClass (top 15) 0
abbrev sLinkI : Stmt := inClass (top 16) 0
abbrev sGoneI : Stmt := inClass (top 17) 0
/-! ### files, links and gone folders are made -/
def fl1 (f : Str) (v : V) : List (Str × V) := putF f v []
def fl2 (f g : Str) (v u : V) : List (Str × V) := putF g u (putF f v [])
def spFile (K : PySem.W.Frag) (C : Addr) : Sp := fun vs H Q _ => ∃ (p dx : Addr) (v : V), vs = [.ref p, v] ∧ H p = some (.ins C dx []) ∧ Q .non (upd H p (.ins C dx (fl1 "owner" v)))
def spTwo (K : PySem.W.Frag) (C : Addr) (f g : Str) : Sp := fun vs H Q _ => ∃ (p dx : Addr) (v u : V), vs = [.ref p, v, u] ∧ H p = some (.ins C dx []) ∧ Q .non (upd (upd H p (.ins C dx (fl1 f v))) p (.ins C dx (fl2 f g v u)))
section
variable {P : Program} {w : World} {K : PySem.W.Frag} {mg : Str → Option Value} {base : Heap} {C f : Addr} {fd : FuncData}
theorem scFileI : FnScope ["self", "owner"] ["self", "owner"] (defScope sFileI) := ⟨rfl, rfl, rfl, by decide +kernel, rfl, by decide +kernel, by decide +kernel⟩
theorem ok_fileI (F : Fun K "__init__" "File.__init__" sFileI f fd) (cl : Cls K C) (h1 : NoAttr K C "owner") : FnOk P w K mg base CX0 1 f fd ["self", "owner"] (spFile K C) := by
  refine F.ok scFileI (fun vs H Q E h => ?_) (fun cdv A outer s H vs Q E hr h => ?_)
  · obtain ⟨p, dx, v, rfl, _⟩ := h
    rfl
  · obtain ⟨p, dx, v, rfl, hp, k⟩ := h
    refine ⟨_, pss_one (ps_fld (pv 0) (pv 1) rfl), ?_⟩
    exact ⟨_, rfl, _, rfl, p, C, dx, _, rfl, hp, cl, h1, (by show 0 < 1000; decide), k⟩
theorem scLinkI : FnScope ["self", "owner", "text"] ["self", "owner", "text"] (defScope sLinkI) := ⟨rfl, rfl, rfl, by decide +kernel, rfl, by decide +kernel, by decide +kernel⟩
theorem ok_linkI (F : Fun K "__init__" "Link.__init__" sLinkI f fd) (cl : Cls K C) (h1 : NoAttr K C "owner") (h2 : NoAttr K C "text") : FnOk P w K mg base CX0 1 f fd ["self", "owner", "text"] (spTwo K C "owner" "text") := by
  refine F.ok scLinkI (fun vs H Q E h => ?_) (fun cdv A outer s H vs Q E hr h => ?_)
  · obtain ⟨p, dx, v, u, rfl, _⟩ := h
    rfl
  · obtain ⟨p, dx, v, u, rfl, hp, k⟩ := h
    refine ⟨_, pss_cons (ps_fld (pv 0) (pv 1) rfl) (pss_one (ps_fld (pv 0) (pv 2) rfl)), ?_⟩
    refine ⟨_, rfl, _, rfl, p, C, dx, _, rfl, hp, cl, h1, (by show 0 < 1000; decide), ?_⟩
    exact ⟨_, rfl, _, rfl, p, C, dx, _, rfl, upd_same, cl, h2, (by show 1 < 1000; decide), k⟩
theorem scGoneI : FnScope ["self", "owner", "above"] ["self", "owner", "above"] (defScope sGoneI) := ⟨rfl, rfl, rfl, by decide +kernel, rfl, by decide +kernel, by decide +kernel⟩
theorem ok_goneI (F : Fun K "__init__" "Gone.__init__" sGoneI f fd) (cl : Cls K C) (h1 : NoAttr K C "owner") (h2 : NoAttr K C "above") : FnOk P w K mg base CX0 1 f fd ["self", "owner", "above"] (spTwo K C "owner" "above") := by
  refine F.ok scGoneI (fun vs H Q E h => ?_) (fun cdv A outer s H vs Q E hr h => ?_)
  · obtain ⟨p, dx, v, u, rfl, _⟩ := h
    rfl
  · obtain ⟨p, dx, v, u, rfl, hp, k⟩ := h
    refine ⟨_, pss_cons (ps_fld (pv 0) (pv 1) rfl) (pss_one (ps_fld (pv 0) (pv 2) rfl)), ?_⟩
    refine ⟨_, rfl, _, rfl, p, C, dx, _, rfl, hp, cl, h1, (by show 0 < 1000; decide), ?_⟩
    exact ⟨_, rfl, _, rfl, p, C, dx, _, rfl, upd_same, cl, h2, (by show 1 < 1000; decide), k⟩
end
end NW

set_option maxRecDepth 100000
set_option maxHeartbeats 8000000
namespace NW
open PySem L2 NG TR
abbrev sMay : Stmt := top 23
abbrev sStood : Stmt := top 24
structure TyC (K : PySem.W.Frag) (C : Addr) : Prop where
  c1 : PySem.W.findIn K (.ref C) "__class__" = some (some (.builtin "object.__class__"))
  c2 : PySem.W.specialIn K (.builtin "object.__class__") "__get__" = some (some (.builtin "getset_descriptor.__get__"))
  c3 : PySem.W.takesIn K (.builtin "object.__class__") = some true
  c4 : PySem.W.mroIn K C (.type "object") = some true
/-- the four classes: 0 Folder, 1 File, 2 Link, 3 Gone -/
structure TxtG (K : PySem.W.Frag) (mg : Str → Option Value) (cs : Nat → Addr) : Prop where
  cl : ∀ i, i < 4 → Cls K (cs i)
  ty : ∀ i, i < 4 → TyC K (cs i)
  kit : ∀ i j, i < 4 → j < 4 → PySem.W.kitOne K (.ref (cs i)) (.ref (cs j)) = some (decide (i = j))
  m_Folder : mg "Folder" = some (.ref (cs 0))
  m_File : mg "File" = some (.ref (cs 1))
  m_Link : mg "Link" = some (.ref (cs 2))
  m_Gone : mg "Gone" = some (.ref (cs 3))
  m_ROOT : ∃ t, mg "ROOT" = some (.int 0 t)
  nO : ∀ i, i < 4 → NoAttr K (cs i) "owner"
  nE : NoAttr K (cs 0) "entries"
  nT : NoAttr K (cs 2) "text"
  nA : NoAttr K (cs 3) "above"
theorem kitAny_of {K : PySem.W.Frag} {mg : Str → Option Value} {cs : Nat → Addr} (T : TxtG K mg cs) {i : Nat} (hi : i < 4) : ∀ js : List Nat, (∀ j ∈ js, j < 4) → PySem.W.kitAny K (.ref (cs i)) (js.map fun j => Value.ref (cs j)) = some (js.contains i)
  | [], _ => rfl
  | j :: r, h => by
    have hj := h j List.mem_cons_self
    have ih := kitAny_of T hi r fun x hx => h x (List.mem_cons_of_mem _ hx)
    rw [List.map_cons]
    unfold PySem.W.kitAny
    rw [T.kit i j hi hj, List.contains_cons]
    by_cases e : i = j
    · subst e
      simp
    · rw [decide_eq_false e]
      have e' : (i == j) = false := by simpa using e
      rw [e', Bool.false_or]
      exact ih
def spMay (K : PySem.W.Frag) (cs : Nat → Addr) : Sp := fun vs H Q _ => ∃ (T : Addr) (xs : List V) (n : Nat) (q : Addr) (i : Nat) (dx : Addr) (fs : List (Str × V)), vs = [.ref T, .int (n : Nat)] ∧ SqT K H T xs ∧ xs[n]? = some (.ref q) ∧ i < 4 ∧ H q = some (.ins (cs i) dx fs) ∧ 0 < n ∧ i ≠ 3 ∧ ∀ H', Same H H' → Q (.bl true) H'
def spStood (K : PySem.W.Frag) (cs : Nat → Addr) : Sp := fun vs H Q _ => ∃ (T : Addr) (xs : List V) (m n : Nat) (q : Addr) (dx : Addr) (fs : List (Str × V)), vs = [.ref T, .int (m : Nat), .int (n : Nat)] ∧ SqT K H T xs ∧ xs[n]? = some (.ref q) ∧ H q = some (.ins (cs 0) dx fs) ∧ n ≠ m ∧ ∀ H', Same H H' → Q (.bl true) H'
section
variable {P : Program} {w : World} {K : PySem.W.Frag} {mg : Str → Option Value} {base : Heap} {fNum fAt fDigit fPool fMay fStood : Addr} {cs : Nat → Addr}
theorem scMay : FnScope ["nodes", "number"] ["nodes", "number"] (defScope sMay) := ⟨rfl, rfl, rfl, by decide +kernel, rfl, by decide +kernel, by decide +kernel⟩
theorem ok_may {fd fdA : FuncData} (F : Fun K "may_be_entered" "may_be_entered" sMay fMay fd) (T : TxtK K mg fNum fAt fDigit fPool) (TG : TxtG K mg cs) (GA : FnOk P w K mg base CX0 2 fAt fdA ["nodes", "number"] (spAt K)) (bA : Binds K fdA ["nodes", "number"] []) :
    FnOk P w K mg base CX0 3 fMay fd ["nodes", "number"] (spMay K cs) := by
  obtain ⟨tr, gr⟩ := TG.m_ROOT
  refine F.ok scMay (fun vs H Q E h => ?_) (fun cdv A outer s H vs Q E hr h => ?_)
  · obtain ⟨T, xs, n, q, i, dx, fs, rfl, _⟩ := h
    rfl
  · obtain ⟨N, xs, n, q, i, dx, fs, rfl, hS, hx, hi, hq, hn, h3, k⟩ := h
    have hr2 : Room 2 _ := hr
    have hl := (List.getElem?_eq_some_iff.mp hx).1
    refine ⟨_, (pss_one (ps_ret (pe_and (pe_call GA hr2 (by rfl) T.g_is_at T.kp_is_at bA .nil pass0 (pa_cons (pv 0) (pa_cons (pv 1) pa_nil))) (pe_and (pe_cmpR op_ne (pv 1) (pe_glob (v := .int 0) (by rfl) gr ⟨_, rfl⟩) (nomark _)) (pe_one (pe_callB call_isiT (by rfl) T.m_isinstance (by decide +kernel) (pa_cons (pe_ix ix_tup (pv 0) (pv 1) (fun _ _ => rfl)) (pa_cons (pe_tup (pa_cons (pe_glob (v := .ref (cs 0)) (by rfl) TG.m_Folder rfl) (pa_cons (pe_glob (v := .ref (cs 1)) (by rfl) TG.m_File rfl) (pa_cons (pe_glob (v := .ref (cs 2)) (by rfl) TG.m_Link rfl) pa_nil)))) pa_nil)))))))), ?_⟩
    refine ⟨_, rfl, _, rfl, N, xs, _, rfl, hS, .inl ⟨(n : Int), rfl, _, rfl, ?_⟩⟩
    have e1 : (decide (0 ≤ (n : Int)) && decide ((n : Int) < (xs.length : Nat))) = true := by
      rw [decide_eq_true (by omega), decide_eq_true (by omega)]
      rfl
    rw [e1]
    refine iteT ⟨_, rfl, rfl, _, rfl, ?_⟩
    have e2 : (!decide (V.int (n : Nat) = V.int 0)) = true := by
      rw [decide_eq_false (fun z => by injection z with z; omega)]
      rfl
    rw [e2]
    refine iteT ⟨_, rfl, _, rfl, N, xs, _, _, rfl, rfl, hS, atI_nat hx, (by show 3 ≤ sizeLine; decide), fun tp htp => ?_⟩
    have sp := NG.Same.upd (o := HO.tup [V.ref (cs 0), V.ref (cs 1), V.ref (cs 2)]) htp
    have := TG.ty i hi
    refine ⟨_, tp, _, .ref (cs i), [.ref (cs 0), .ref (cs 1), .ref (cs 2)], true, rfl, upd_same, ?_, .base (.ins (sp _ _ hq) (TG.cl i hi) this.c1 this.c2 this.c3 this.c4), ?_, k _ sp⟩
    · exact .cons (.own _) (.cons (.own _) (.cons (.own _) .nil))
    · have e := kitAny_of TG hi [0, 1, 2] (by simp)
      have e4 : ([0, 1, 2] : List Nat).contains i = true := by
        have : i = 0 ∨ i = 1 ∨ i = 2 := by omega
        rcases this with rfl | rfl | rfl <;> rfl
      rw [e4] at e
      exact e
theorem scStood : FnScope ["nodes", "number", "last"] ["nodes", "number", "last"] (defScope sStood) := ⟨rfl, rfl, rfl, by decide +kernel, rfl, by decide +kernel, by decide +kernel⟩
theorem ok_stood {fd fdA : FuncData} (F : Fun K "stood_in" "stood_in" sStood fStood fd) (T : TxtK K mg fNum fAt fDigit fPool) (TG : TxtG K mg cs) (GA : FnOk P w K mg base CX0 2 fAt fdA ["nodes", "number"] (spAt K)) (bA : Binds K fdA ["nodes", "number"] []) :
    FnOk P w K mg base CX0 3 fStood fd ["nodes", "number", "last"] (spStood K cs) := by
  refine F.ok scStood (fun vs H Q E h => ?_) (fun cdv A outer s H vs Q E hr h => ?_)
  · obtain ⟨T, xs, m, n, q, dx, fs, rfl, _⟩ := h
    rfl
  · obtain ⟨N, xs, m, n, q, dx, fs, rfl, hS, hx, hq, hn, k⟩ := h
    have hr2 : Room 2 _ := hr
    have hl := (List.getElem?_eq_some_iff.mp hx).1
    refine ⟨_, (pss_one (ps_ret (pe_and (pe_call GA hr2 (by rfl) T.g_is_at T.kp_is_at bA .nil pass0 (pa_cons (pv 0) (pa_cons (pv 2) pa_nil))) (pe_and (pe_cmpR op_ne (pv 2) (pv 1) (nomark _)) (pe_one (pe_callB call_isiT (by rfl) T.m_isinstance (by decide +kernel) (pa_cons (pe_ix ix_tup (pv 0) (pv 2) (fun _ _ => rfl)) (pa_cons (pe_tup (pa_cons (pe_glob (v := .ref (cs 0)) (by rfl) TG.m_Folder rfl) (pa_cons (pe_glob (v := .ref (cs 3)) (by rfl) TG.m_Gone rfl) pa_nil))) pa_nil)))))))), ?_⟩
    refine ⟨_, rfl, _, rfl, N, xs, _, rfl, hS, .inl ⟨(n : Int), rfl, _, rfl, ?_⟩⟩
    have e1 : (decide (0 ≤ (n : Int)) && decide ((n : Int) < (xs.length : Nat))) = true := by
      rw [decide_eq_true (by omega), decide_eq_true (by omega)]
      rfl
    rw [e1]
    refine iteT ⟨_, rfl, _, rfl, rfl, _, rfl, ?_⟩
    have e2 : (!decide (V.int (n : Nat) = V.int (m : Nat))) = true := by
      rw [decide_eq_false (fun z => by injection z with z; omega)]
      rfl
    rw [e2]
    refine iteT ⟨_, rfl, _, rfl, N, xs, _, _, rfl, rfl, hS, atI_nat hx, (by show 2 ≤ sizeLine; decide), fun tp htp => ?_⟩
    have sp := NG.Same.upd (o := HO.tup [V.ref (cs 0), V.ref (cs 3)]) htp
    have := TG.ty 0 (by decide)
    refine ⟨_, tp, _, .ref (cs 0), [.ref (cs 0), .ref (cs 3)], true, rfl, upd_same, ?_, .base (.ins (sp _ _ hq) (TG.cl 0 (by decide)) this.c1 this.c2 this.c3 this.c4), ?_, k _ sp⟩
    · exact .cons (.own _) (.cons (.own _) .nil)
    · exact kitAny_of TG (by decide) [0, 3] (by simp)
/-! ### made nodes: an object each; a folder's entries in a tuple of tuples -/
def ffl (o : Int) (E : Addr) : List (Str × V) := putF "entries" (.ref E) (putF "owner" (.int o) [])
def EntO (K : PySem.W.Frag) (H : Hp) (q : V) (e : Str × Nat) : Prop := ∃ a, q = .ref a ∧ SqT K H a [.str e.1, .int (e.2 : Nat)]
def ObjAt (K : PySem.W.Frag) (cs : Nat → Addr) (H : Hp) (q : Addr) : Nd → Prop
  | .fol o es => ∃ dx E ps, H q = some (.ins (cs 0) dx (ffl o E)) ∧ PlT H E ps ∧ ps.length = es.length ∧ ∀ (k : Nat) (p : V) (e : Str × Nat), ps[k]? = some p → es[k]? = some e → EntO K H p e
  | .fil o => ∃ dx, H q = some (.ins (cs 1) dx (fl1 "owner" (.int o)))
  | .lnk o t => ∃ dx, H q = some (.ins (cs 2) dx (fl2 "owner" "text" (.int o) (.str t)))
  | .gon o ab => ∃ dx, H q = some (.ins (cs 3) dx (fl2 "owner" "above" (.int o) (.int (ab : Nat))))
theorem ObjAt.same {K : PySem.W.Frag} {cs : Nat → Addr} {H H' : Hp} {q : Addr} {nd : Nd} (h : ObjAt K cs H q nd) (s : Same H H') : ObjAt K cs H' q nd := by
  cases nd with
  | fol o es =>
    obtain ⟨dx, E, ps, h1, h2, h3, h4⟩ := h
    exact ⟨dx, E, ps, s _ _ h1, h2.same s, h3, fun k p e a b => let ⟨x, y, z⟩ := h4 k p e a b; ⟨x, y, Same.sqT s z⟩⟩
  | fil o => exact let ⟨dx, h⟩ := h; ⟨dx, s _ _ h⟩
  | lnk o t => exact let ⟨dx, h⟩ := h; ⟨dx, s _ _ h⟩
  | gon o ab => exact let ⟨dx, h⟩ := h; ⟨dx, s _ _ h⟩
/-- the tuple of a tree's nodes -/
structure ObjsAt (K : PySem.W.Frag) (cs : Nat → Addr) (H : Hp) (T : Addr) (qs : List Addr) (nds : List Nd) : Prop where
  ls : SqT K H T (qs.map V.ref)
  len : qs.length = nds.length
  nds : ∀ (i : Nat) (q : Addr) (nd : Nd), qs[i]? = some q → nds[i]? = some nd → ObjAt K cs H q nd
theorem ObjsAt.same {K : PySem.W.Frag} {cs : Nat → Addr} {H H' : Hp} {T : Addr} {qs : List Addr} {nds : List Nd} (h : ObjsAt K cs H T qs nds) (s : Same H H') : ObjsAt K cs H' T qs nds :=
  ⟨Same.sqT s h.ls, h.len, fun i q nd a b => (h.nds i q nd a b).same s⟩
/-- of which class -/
def clsI : Nd → Nat
  | .fol _ _ => 0
  | .fil _ => 1
  | .lnk _ _ => 2
  | .gon _ _ => 3
theorem clsI_lt (nd : Nd) : clsI nd < 4 := by cases nd <;> simp [clsI]
theorem obj_ins {K : PySem.W.Frag} {cs : Nat → Addr} {H : Hp} {q : Addr} {nd : Nd} (h : ObjAt K cs H q nd) : ∃ dx fs, H q = some (.ins (cs (clsI nd)) dx fs) ∧ List.lookup ("owner" : Str) fs = some (V.int nd.owner) := by
  have no : ("owner" : Str) ≠ "entries" := by decide +kernel
  have nt : ("owner" : Str) ≠ "text" := by decide +kernel
  have na : ("owner" : Str) ≠ "above" := by decide +kernel
  cases nd with
  | fol o es =>
    obtain ⟨dx, E, ps, h1, _⟩ := h
    exact ⟨dx, _, h1, by unfold ffl; rw [lookup_putF, if_neg no, lookup_putF, if_pos rfl]; rfl⟩
  | fil o =>
    obtain ⟨dx, h⟩ := h
    exact ⟨dx, _, h, by unfold fl1; rw [lookup_putF, if_pos rfl]; rfl⟩
  | lnk o t =>
    obtain ⟨dx, h⟩ := h
    exact ⟨dx, _, h, by unfold fl2; rw [lookup_putF, if_neg nt, lookup_putF, if_pos rfl]; rfl⟩
  | gon o ab =>
    obtain ⟨dx, h⟩ := h
    exact ⟨dx, _, h, by unfold fl2; rw [lookup_putF, if_neg na, lookup_putF, if_pos rfl]; rfl⟩
end
end NW

set_option maxRecDepth 100000
set_option maxHeartbeats 8000000
namespace NW
open PySem L2 NG TR
abbrev sFound : Stmt := top 28
def spFound (K : PySem.W.Frag) (cs : Nat → Addr) : Sp := fun vs H Q _ => ∃ (T : Addr) (qs : List Addr) (nds : List Nd), vs = [.ref T] ∧ ObjsAt K cs H T qs nds ∧ WF LinkText PL nds ∧ nds.length ≤ 1000 ∧
  ∀ (D : Addr) (kvs : List (Key × V)) (H' : Hp), Same H H' → H' D = some (.dK kvs) → (∀ k : Nat, FolAt nds k → valV kvs (Sum.inl (k : Int)) = some (.bl true)) → Q (.ref D) H'
def foundLeft (D : Addr) (n : Nat) (H : Hp) : Nat := match H D with
  | some (.dK kvs) => n - kvs.length
  | _ => 0
theorem last_of {α : Type} {l : List α} (h : l ≠ []) : ∃ r x, l = r ++ [x] := by
  rcases List.eq_nil_or_concat l with e | ⟨r, x, e⟩
  · exact absurd e h
  · exact ⟨r, x, by rw [e, List.concat_eq_append]⟩
section
variable {P : Program} {w : World} {K : PySem.W.Frag} {mg : Str → Option Value} {base : Heap} {fNum fAt fDigit fPool fFound : Addr} {cs : Nat → Addr}
theorem scFound : FnScope ["nodes", "found", "waiting", "number", "inner", "_"] ["nodes"] (defScope sFound) := ⟨rfl, rfl, rfl, by decide +kernel, rfl, by decide +kernel, by decide +kernel⟩
theorem ok_found {fd : FuncData} (F : Fun K "found_folders" "found_folders" sFound fFound fd) (T : TxtK K mg fNum fAt fDigit fPool) (TG : TxtG K mg cs) : FnOk P w K mg base CX0 1 fFound fd ["nodes"] (spFound K cs) := by
  have nd := scFound.nd
  obtain ⟨tr, gr⟩ := TG.m_ROOT
  refine F.ok scFound (fun vs H Q E h => ?_) (fun cdv A outer s H vs Q E hr h => ?_)
  · obtain ⟨T, qs, nds, rfl, _⟩ := h
    rfl
  · obtain ⟨N, qs, nds, rfl, OB, W0, hn, k⟩ := h
    have hu := hu_of hr
    have hs : sizeLine = 16777216 := sizeLine_eq
    refine ⟨_, (pss_cons (ps_set (i := 1) nd rfl (Or.inl rfl) pe_dnewK)
  (pss_cons (ps_set (i := 2) nd rfl (Or.inl rfl) (pe_lst (pa_cons (pe_glob (v := .int 0) (by rfl) gr ⟨_, rfl⟩) pa_nil)))
  (pss_cons (ps_while PassesOwn.never (pt_truth (pv 2) (by intro _; rfl))
 (pss_cons (ps_set (i := 3) nd rfl (Or.inl rfl) (pe_bm0 PySem.F.plainAttrs_list PySem.F.slot_list_pop PySem.F.type_list_pop mt_pop (pv 2)))
  (pss_cons (ps_dput hu (pv 1) (pv 3) pe_bl rfl)
  (pss_one (ps_expr (pe_bm PySem.F.plainAttrs_list PySem.F.slot_list_extend PySem.F.type_list_extend mt_extend (pv 2) (pa_cons (pe_lc (own := [("_", 5), ("inner", 4)]) (g := gTup K 2 (gCons (gName 5) (gCons (gName 4) gNil))) (tt := tB (tCB (rIsi K) (tCons (tOp (rIxT K) (tVar 0) (tVar 4)) (tCons (tC (V.ref (cs 0))) tNil)))) rfl nd (pi_tup (pe_fld (pe_ix ix_tup (pv 0) (pv 3) (fun _ _ => rfl)) rfl)) (blkOk_by (N := ["nodes", "found", "waiting", "number", "inner", "_"]) (sc := defScope sFound) (by decide +kernel)) (fun _ _ _ _ _ => (pg_tup (by rfl) (pgs_cons (pg_name (i := 5) nd rfl (Or.inl rfl)) (pgs_cons (pg_name (i := 4) nd rfl (Or.inl rfl)) pgs_nil)))) (fun _ _ _ _ _ => pts_one (pt_val (pe_callB call_isi (by rfl) T.m_isinstance (by decide +kernel) (pa_cons (pe_ix ix_tup (pv 0) (pv 4) (fun _ _ => rfl)) (pa_cons (pe_glob (v := .ref (cs 0)) (by rfl) TG.m_Folder rfl) pa_nil))))) (fun _ _ _ _ _ => (pv 4))) pa_nil)))))))
  (pss_one (ps_ret (pv 1)))))), ?_⟩
    refine fun D hD => ⟨(by show 1 ≤ sizeLine; decide), fun Wt hW => ?_⟩
    have sD := NG.Same.upd (o := HO.dK []) hD
    have sW := NG.Same.upd (o := HO.lst [V.int 0]) hW
    have eD := sW _ _ (upd_same (H := H) (a := D) (o := HO.dK []))
    have eW : (upd (upd H D (HO.dK [])) Wt (HO.lst [V.int 0])) Wt = some (.lst [V.int 0]) := upd_same
    have fW : H Wt = none := by
      cases e : H Wt with
      | none => rfl
      | some x => have := sD _ _ e; rw [hW] at this; cases this
    have nDW : D ≠ Wt := ne_of_none (upd_same (H := H) (a := D) (o := HO.dK [])) hW
    have s1 := sD.trans sW
    generalize upd (upd H D (HO.dK [])) Wt (HO.lst [V.int 0]) = H1 at eD eW s1 ⊢
    unfold gName tSeq
    dsimp only

    refine while_by (fun σ H' => ∃ (Wl Fl : List Nat) (kvs : List (Key × V)) (v3 v4 v5 : Option V), σ = [some (.ref N), some (.ref D), some (.ref Wt), v3, v4, v5] ∧ Same H H' ∧ H' D = some (.dK kvs) ∧ H' Wt = some (.lst (Wl.map fun i => V.int (i : Nat))) ∧ Srch nds Wl Fl ∧ kvs.length = Fl.length ∧
        (∀ k : Nat, k ∈ Fl → valV kvs (Sum.inl (k : Int)) = some (.bl true)) ∧ (∀ k : Nat, k ∉ Fl → valV kvs (Sum.inl (k : Int)) = none)) (fun _ H' => foundLeft D nds.length H')
      ⟨[0], [], [], none, none, none, rfl, s1, eD, eW, srch0 W0, rfl, fun k h => (by cases h), fun k _ => rfl⟩ ?_ ?_
    · rintro σ H2 ⟨Wl, Fl, kvs, v3, v4, v5, rfl, s2, e1, e2, S, kl, k1, k2⟩
      refine ⟨_, rfl, !(Wl.map fun i => V.int (i : Nat)).isEmpty, .inl ⟨_, SqL.of e2, rfl⟩, ?_⟩
      rcases List.eq_nil_or_concat Wl with rfl | ⟨r, n, ew⟩
      · refine iteF ⟨_, rfl, ?_⟩
        exact k D kvs H2 s2 e1 fun j hj => k1 j (srch_end W0 S j hj)
      · rw [List.concat_eq_append] at ew
        subst ew
        have hne : (!((r ++ [n]).map fun i => V.int (i : Nat)).isEmpty) = true := by simp
        rw [hne]
        obtain ⟨o, es, hfo⟩ := S.fol n (by simp)
        have hnF : n ∉ Fl := fun q => by
          have := S.nd
          rw [List.nodup_append] at this
          exact this.2.2 n (by simp) n q rfl
        have hlen := srch_len S
        rw [List.length_append, List.length_append, List.length_singleton] at hlen
        have el : ((r ++ [n]).map fun i => V.int (i : Nat))[((r ++ [n]).map fun i => V.int (i : Nat)).length - 1]? = some (V.int (n : Nat)) := by
          rw [List.map_append, List.length_append, List.length_map]
          simp
        refine iteT ⟨_, rfl, .inl ⟨rfl, _, SqL.of e2⟩, Wt, _, _, rfl, rfl, e2, el, ?_⟩
        have ed : ((r ++ [n]).map fun i => V.int (i : Nat)).dropLast = r.map fun i => V.int (i : Nat) := by
          rw [List.map_append, List.map_cons, List.map_nil, List.dropLast_concat]
        rw [ed]
        have e3 : (upd H2 Wt (.lst (r.map fun i => V.int (i : Nat)))) Wt = some (.lst (r.map fun i => V.int (i : Nat))) := upd_same
        have e3D : (upd H2 Wt (.lst (r.map fun i => V.int (i : Nat)))) D = some (.dK kvs) := by rw [upd_ne nDW]; exact e1
        have s3 : Same H (upd H2 Wt (.lst (r.map fun i => V.int (i : Nat)))) := fun b x e => by rw [upd_ne (ne_of_none e fW)]; exact s2 _ _ e
        have l2 : foundLeft D nds.length H2 = nds.length - kvs.length := by unfold foundLeft; rw [e1]
        rw [l2]
        generalize upd H2 Wt (.lst (r.map fun i => V.int (i : Nat))) = H3 at e3 e3D s3
        refine ⟨_, rfl, _, rfl, D, _, rfl, DPut.k (k := Sum.inl (n : Int)) e3D (small1000 (by omega)), ?_⟩
        have pn := putK_new (.bl true) (k2 n hnF)
        have e4 : (upd H3 D (.dK (putK kvs (Sum.inl (n : Int)) (.bl true)))) D = some (.dK (putK kvs (Sum.inl (n : Int)) (.bl true))) := upd_same
        have e4W : (upd H3 D (.dK (putK kvs (Sum.inl (n : Int)) (.bl true)))) Wt = some (.lst (r.map fun i => V.int (i : Nat))) := by rw [upd_ne nDW.symm]; exact e3
        have s4 : Same H (upd H3 D (.dK (putK kvs (Sum.inl (n : Int)) (.bl true)))) := fun b x e => by rw [upd_ne (ne_of_none e hD)]; exact s3 _ _ e
        generalize upd H3 D (.dK (putK kvs (Sum.inl (n : Int)) (.bl true))) = H4 at e4 e4W s4
        have OB4 := OB.same s4
        have hnl : n < qs.length := by rw [OB.len]; exact (List.getElem?_eq_some_iff.mp hfo).1
        have hqn : qs[n]? = some qs[n] := List.getElem?_eq_getElem hnl
        generalize qs[n] = q at hqn
        obtain ⟨dx, Ea, ps, hq, hE, pl, pe⟩ := OB4.nds n q _ hqn hfo
        have hat : ∀ (i : Nat) (x : Addr), qs[i]? = some x → atI (qs.map V.ref) ((i : Nat) : Int) = some (.ref x) := fun i x h => atI_nat (by rw [List.getElem?_map, h]; rfl)
        refine ⟨_, rfl, .inl ⟨rfl, _, SqL.of e4W⟩, _, rfl, _, rfl, N, _, _, _, rfl, rfl, OB4.ls, hat n q hqn, q, cs 0, dx, _, _, rfl, hq, TG.cl 0 (by decide), TG.nE, (by unfold ffl; rw [lookup_putF, if_pos rfl]), Ea, rfl, ⟨_, hE.sqT⟩, fun D2 hD2 => ?_⟩
        have hes : es.length ≤ 12 := (W0.base.uniq n _ hfo).2
        refine lc_pair (K := K) (walk_tup (K := K) (a := Ea)) (i := 5) (j := 4) (by decide) (es.map fun e => (V.str e.1, V.int (e.2 : Nat))) (by rw [List.length_map, pl]) (fun v => match v.2 with | .int i => folB nds i.toNat | _ => false) (fun v => v.2) (fun i x v h1 h2 => ?_) (by omega) hD2 (fun H' s => Same.sqT s hE.sqT) (fun i v H' R h s hR => ?_) (fun i v H' R _ _ s hR => ⟨_, rfl, hR _ (Same.refl _)⟩) (fun H5 s5 e5 => ?_)
        · rw [List.getElem?_map] at h2
          cases e : es[i]? with
          | none => rw [e] at h2; cases h2
          | some en =>
            rw [e] at h2
            cases Option.some.inj h2
            obtain ⟨a, rfl, ha⟩ := pe i x en h1 e
            exact ⟨a, rfl, ha⟩
        · rw [List.getElem?_map] at h
          cases e : es[i]? with
          | none => rw [e] at h; cases h
          | some en =>
            rw [e] at h
            cases Option.some.inj h
            obtain ⟨_, _, nd', hnd, _⟩ := W0.base.ent n _ hfo en (List.mem_of_getElem? e)
            have hl' : en.2 < qs.length := by rw [OB.len]; exact (List.getElem?_eq_some_iff.mp hnd).1
            have hq' : qs[en.2]? = some qs[en.2] := List.getElem?_eq_getElem hl'
            have OB' := OB4.same s
            obtain ⟨dx', fs', hi', _⟩ := obj_ins (OB'.nds en.2 _ nd' hq' hnd)
            have ty := TG.ty (clsI nd') (clsI_lt nd')
            refine ⟨_, rfl, _, rfl, N, _, _, _, rfl, rfl, OB'.ls, hat en.2 _ hq', _, _, _, _, _, rfl, .own (cs 0), .base (.ins hi' (TG.cl _ (clsI_lt nd')) ty.c1 ty.c2 ty.c3 ty.c4), TG.kit _ 0 (clsI_lt nd') (by decide), _, rfl, ?_⟩
            have eb : decide (clsI nd' = 0) = folB nds en.2 := by
              rw [folB_at hnd]
              cases nd' <;> rfl
            rw [eb]
            exact hR _ (Same.refl _)
        · have ek : ((((es.map fun e => (V.str e.1, V.int (e.2 : Nat))).filter (fun v => match v.2 with | .int i => folB nds i.toNat | _ => false)).map fun v => v.2)) = (kids nds es).map fun i => V.int (i : Nat) := by
            unfold kids
            rw [List.filter_map, List.map_map, List.filter_map, List.map_map]
            rfl
          rw [ek] at e5
          have e5W := s5 _ _ e4W
          have e5D := s5 _ _ e4
          have S' := srch_step W0 S hfo
          have hl2 := srch_len S'
          rw [List.length_append, List.length_append, List.length_cons] at hl2
          refine ⟨Wt, D2, _, _, rfl, rfl, e5W, e5, by rw [List.length_map, List.length_map]; omega, ?_⟩
          refine ⟨⟨r ++ kids nds es, n :: Fl, putK kvs (Sum.inl (n : Int)) (.bl true), _, _, _, rfl, fun b x e => ?_, ?_, ?_, S', ?_, fun j hj => ?_, fun j hj => ?_⟩, ?_⟩
          · rw [upd_ne (ne_of_none e fW)]
            exact s5 _ _ (s4 _ _ e)
          · rw [upd_ne nDW]; exact e5D
          · rw [upd_same, List.map_append]
          · rw [pn, List.length_append, List.length_singleton, kl]; rfl
          · rw [valV_put]
            split
            · rfl
            · rename_i h
              rcases List.mem_cons.mp hj with rfl | hj
              · exact absurd rfl h
              · exact k1 j hj
          · rw [valV_put, if_neg]
            · exact k2 j fun q => hj (List.mem_cons_of_mem _ q)
            · intro q
              injection q with q
              have : j = n := by omega
              exact hj (this ▸ List.mem_cons_self)
          · show foundLeft D nds.length _ < _
            unfold foundLeft
            rw [upd_ne nDW, e5D]
            show nds.length - (putK kvs (Sum.inl (n : Int)) (.bl true)).length < nds.length - kvs.length
            rw [pn, List.length_append, List.length_singleton]
            omega
    · rintro σ H' Q1 Q2 hq ⟨x, rfl', b, tv, q⟩
      exact ⟨x, rfl', b, tv, hq _ _ q⟩
end
end NW

set_option maxRecDepth 100000
set_option maxHeartbeats 4000000
/-! sorted of a list of data: texts, numbers, tuples of these -/
namespace NG
open PySem L2 PyProof.Rows
def rSortedD (K : PySem.W.Frag) : List V → Hp → VK → Prop := fun vs H Q => ∃ (a : Addr) (bs : List (V × PyData)), vs = [.ref a] ∧ SqL K H a (bs.map (·.1)) ∧ (∀ b ∈ bs, Dp K H b.1 b.2 ∧ b.2.depth ≤ 60) ∧ PySem.W.AllAlike (bs.map (·.2)) ∧ PySem.W.Sortable (bs.map (·.2)) ∧
  ∀ p, H p = none → Q (.ref p) (L2.upd H p (.lst ((bs.mergeSort (PySem.W.dataLe false (·.2))).map (·.1))))
theorem each_of : ∀ {bs : List (V × PyData)} {its : List Value}, Vals (bs.map (·.1)) its → PySem.W.EachIs (fun v (b : V × PyData) => b ∈ bs ∧ RelV b.1 v) its bs
  | [], _, .nil => .nil
  | b :: r, _ :: _, .cons h t => .cons ⟨List.mem_cons_self, h⟩ ((each_of t).mono fun _ _ ⟨h1, h2⟩ => ⟨List.mem_cons_of_mem _ h1, h2⟩)
theorem vals_each {R : V × PyData → Prop} : ∀ {bs : List (V × PyData)} {its : List Value}, PySem.W.EachIs (fun v (b : V × PyData) => R b ∧ RelV b.1 v) its bs → Vals (bs.map (·.1)) its
  | _, _, .nil => .nil
  | _, _, .cons h t => .cons h.2 (vals_each t)
section
variable {X : Cx}
theorem cr_sortedD (hu : X.A.units + 64 < cLine) : CallR X (.builtin "sorted") (rSortedD X.K) := by
  intro pins s σ H vs us Q I r h
  obtain ⟨a, bs, rfl, hs, hd, hal, hk, q⟩ := h
  obtain ⟨its, rv, hl, hz⟩ := I.list hs
  obtain ⟨u, rfl, ru⟩ := vals1 r
  obtain rfl : u = Value.ref a := ru
  have e := each_of rv
  have er : PySem.W.EachIs (fun v (b : V × PyData) => ∃ as, Reads s.heap v b.2 as) its bs := e.mono fun v b ⟨hb, hr⟩ => Dp.reads I b.2 b.1 v (hd b hb).1 hr
  rw [List.length_map] at hz
  refine PySem.W.sorted_data (enc := fun b : V × PyData => b.2) hl.isList e er hal hk hz (fun b hb => by have := (hd b hb).2; omega) fun out ho eo => ?_
  have rv2 := vals_each eo
  obtain ⟨ep, he'⟩ := PyProof.Rows.sortedAll_at s.heap its out.toArray
  refine ⟨.ref _, _, I.laid (t' := s.toks) (o := .lst ((bs.mergeSort (PySem.W.dataLe false (·.2))).map (·.1))) (fun _ _ => PyProof.Rows.sortedAll_old) (Nat.le_succ _) ⟨?_, out, ep, rv2, he'⟩, rfl, q _ (I.hok.fresh (Nat.le_succ _))⟩
  rw [List.length_map, List.length_mergeSort]
  exact hz
end
end NG

set_option maxRecDepth 100000
set_option maxHeartbeats 4000000
/-! a lambda of one parameter without captured names as a thing that is known; sorted(xs, key=lambda x: x[0]) over sequences whose first items are texts -/
namespace NG
open PySem PySem.Spec PyProof.Rows L2 LamX
/-- the object of a lambda that captures nothing, its code object at c -/
def LamO (f : Addr) (q : Str) (ps : Arguments) (b : Expr) (sc : Scope) (c : Addr) : HO := .ext fun h => ∃ pm ctv, h.get? f = some (PySem.W.kla_obj "<lambda>" q ps b sc [] pm c ctv)
theorem lamO_ok {P : Program} {w : World} {H : Hp} {h : Heap} {f c : Addr} {q : Str} {ps : Arguments} {b : Expr} {sc : Scope} {pm ctv : Value} (e : h.get? f = some (PySem.W.kla_obj "<lambda>" q ps b sc [] pm c ctv)) : ObjOk P w H h f (LamO f q ps b sc c) :=
  ⟨⟨pm, ctv, e⟩, ⟨_, e⟩, fun _ _ ⟨pm, ctv, e⟩ st => ⟨pm, ctv, st _ e⟩⟩
theorem lamO_ne {f c : Addr} {q : Str} {ps : Arguments} {b : Expr} {sc : Scope} (xs : Array Value) : LamO f q ps b sc c ≠ .tbl xs := fun z => by
  unfold LamO at z
  cases z
def tLamE (T : List (Addr × Str)) (q : Str) (ps : Arguments) (b : Expr) (sc : Scope) : TE := fun _ H Q => Tabs T H ∧ ∀ (H1 : Hp) (f c : Addr), ExtN H H1 → Tabs T H1 → H1 f = some (LamO f q ps b sc c) → H1 c = some (CodeO c q) → Q (.ref f) H1
section
variable {X : Cx}
theorem tabs_laid {T : List (Addr × Str)} {H : Hp} {f : Addr} {o : HO} (t : Tabs T H) (n : H f = none) : Tabs T (upd H f o) := t.ext fun b u e => by rw [upd_ne (ne_of_none e n)]; exact e
theorem extN_laid {H : Hp} {f : Addr} {o : HO} (n : H f = none) : ExtN H (upd H f o) := .of fun b u e => by rw [upd_ne (ne_of_none e n)]; exact e
theorem pe_lamE {T : List (Addr × Str)} {q : Str} {c P : Addr} {ps : Arguments} {b : Expr} {sc : Scope} {pos : Pos} (TB : TabB X.base X.mg c P) (hcode : X.env.code = .ref c) (hq : X.env.qual ++ "<lambda>" = q) (hmT : (P, q) ∈ T) (hu : ∀ p ∈ T, p.1 = P → p.2 = q)
    (hdef : defaultsOf ps X.env = ([], [])) (hcl : closureFor sc X.env = pure []) : PE X (.Lambda ps b sc pos) (tLamE T q ps b sc) := by
  refine ⟨fun pins s σ H Q I h => ?_⟩
  obtain ⟨hT, h⟩ := h
  obtain ⟨tb, hP, ht, ha⟩ := hT _ hmT
  replace hP : H P = some (.tbl tb) := hP
  refine PySem.W.kla_eval hdef ?_
  rw [hq]
  have bP : s.heap.BuiltinsAt X.mg P := TB.bm.keeps I.bk
  have hP' : s.heap.get? P = some { cls := .none, data := .fields tb } := I.hok P _ hP
  cases hc : codeAmong pos tb.toList with
  | none =>
    refine PySem.W.kla_makeFunction (mg := X.mg) (c := c) (P := P) (ps := tb) hcl I.ok.glob (I.mod.glob.keeps I.bk) hcode (TB.code.keeps I.bk) hP' ht hc TB.gP bP fun c1 ctv h1 tk hx hge hlt hrec htb => ?_
    obtain ⟨c2, oc, vs, t, e2, hoc, hd, hv⟩ := hrec
    cases e2
    have nC : H c1 = none := I.hok.fresh hge
    have nPc : P ≠ c1 := ne_of_none hP nC
    have I1 := inv_table (t' := tk) (h' := h1) I hP hx htb hge ⟨oc, vs, t, hoc, hd, hv⟩
    have nf : (upd (upd H P (.tbl (tb ++ #[rawInt pos.line, rawInt pos.col, .ref c1]))) c1 (CodeO c1 q)) h1.objs.size = none := I1.hok.fresh (Nat.le_refl _)
    have I2 := I1.laid (h' := h1.push (PySem.W.kla_obj "<lambda>" q ps b sc [] ((X.mg "__name__").getD .none) c1 ctv)) (a := h1.objs.size) (o := LamO h1.objs.size q ps b sc c1) (t' := tk) (fun a u e => Heap.get?_push_of_some _ e) (Nat.le_refl _) (lamO_ok (Heap.get?_push_size _ rfl))
    have e1 : ExtN H (upd (upd H P (.tbl (tb ++ #[rawInt pos.line, rawInt pos.col, .ref c1]))) c1 (CodeO c1 q)) := fun a o e n => by
      have na : a ≠ P := fun z => n tb (by rw [z, hP] at e; exact (Option.some.inj e).symm)
      rw [upd_ne (ne_of_none e nC), upd_ne na]
      exact e
    have tl : (tb ++ #[rawInt pos.line, rawInt pos.col, .ref c1]).toList = tb.toList ++ [rawInt pos.line, rawInt pos.col, .ref c1] := by simp
    have t1 : Tabs T (upd (upd H P (.tbl (tb ++ #[rawInt pos.line, rawInt pos.col, .ref c1]))) c1 (CodeO c1 q)) := fun p hp => by
      by_cases hb : p.1 = P
      · rw [hu p hp hb, hb]
        refine ⟨_, by rw [upd_ne nPc, upd_same], by rw [tl]; exact PySem.TriplesOk_snoc _ _ _ _ ht, fun p' cv hcv => ?_⟩
        rw [tl] at hcv
        rcases among_app _ ht hcv with z | z
        · obtain ⟨c0, d1, d2⟩ := ha p' cv z
          exact ⟨c0, d1, e1 _ _ d2 codeO_ne⟩
        · exact ⟨c1, z, upd_same⟩
      · obtain ⟨tb2, a1, a2, a3⟩ := hT p hp
        refine ⟨tb2, by rw [upd_ne (ne_of_none a1 nC), upd_ne hb]; exact a1, a2, fun p' cv hcv => ?_⟩
        obtain ⟨c0, d1, d2⟩ := a3 p' cv hcv
        exact ⟨c0, d1, e1 _ _ d2 codeO_ne⟩
    have nfc : c1 ≠ h1.objs.size := Nat.ne_of_lt hlt
    exact ⟨.ref _, _, I2, rfl, h _ _ c1 (e1.trans (extN_laid nf)) (tabs_laid t1 nf) upd_same (by rw [upd_ne nfc]; exact upd_same)⟩
  | some cv =>
    obtain ⟨c1, e, hco⟩ := ha pos cv hc
    subst e
    refine PySem.W.kla_makeFunctionHit (mg := X.mg) (c := c) (P := P) (ps := tb) hcl I.ok.glob (I.mod.glob.keeps I.bk) hcode (TB.code.keeps I.bk) hP' ht hc bP fun ctv h1 tk hx hsz => ?_
    have nf : H h1.objs.size = none := I.hok.fresh hsz
    have I2 := I.laid (h' := h1.push (PySem.W.kla_obj "<lambda>" q ps b sc [] ((X.mg "__name__").getD .none) c1 ctv)) (a := h1.objs.size) (o := LamO h1.objs.size q ps b sc c1) (t' := tk) (fun a u e => Heap.get?_push_of_some _ (hx a u e)) hsz (lamO_ok (Heap.get?_push_size _ rfl))
    exact ⟨.ref _, _, I2, rfl, h _ _ c1 (extN_laid nf) (tabs_laid hT nf) upd_same (by rw [upd_ne (ne_of_none hco nf)]; exact hco)⟩
theorem each_of' {α : Type} : ∀ {bs : List (V × α)} {its : List Value}, Vals (bs.map (·.1)) its → PySem.W.EachIs (fun v (b : V × α) => b ∈ bs ∧ RelV b.1 v) its bs
  | [], _, .nil => .nil
  | b :: r, _ :: _, .cons h t => .cons ⟨List.mem_cons_self, h⟩ ((each_of' t).mono fun _ _ ⟨h1, h2⟩ => ⟨List.mem_cons_of_mem _ h1, h2⟩)
theorem vals_each' {α : Type} {R : V × α → Prop} : ∀ {bs : List (V × α)} {its : List Value}, PySem.W.EachIs (fun v (b : V × α) => R b ∧ RelV b.1 v) its bs → Vals (bs.map (·.1)) its
  | _, _, .nil => .nil
  | _, _, .cons h t => .cons h.2 (vals_each' t)
/-- lambda x: x[0] -/
def argOne (x : Str) (p : Pos) : Arguments := { posonlyargs := [], args := [{ arg := x, annotation := none, pos := p }], vararg := none, kwonlyargs := [], kw_defaults := [], kwarg := none, defaults := [] }
def firstOf (x : Str) (p1 p2 p3 : Pos) : Expr := .Subscript (.Name x p1) (.Constant (.int 0) 0 p2) p3
def leStr (x y : V × Str) : Bool := decide (x.2.cps.toList ≤ y.2.cps.toList)
def rSortK (K : PySem.W.Frag) (q : Str) (ps : Arguments) (b : Expr) (sc : Scope) : List V → List V → Hp → VK → Prop := fun vs zs H Q => ∃ (a f c : Addr) (bs : List (V × Str)), vs = [.ref a] ∧ zs = [.ref f] ∧ H f = some (LamO f q ps b sc c) ∧ H c = some (CodeO c q) ∧ SqL K H a (bs.map (·.1)) ∧
  (∀ b ∈ bs, ∃ t r, b.1 = .ref t ∧ SqT K H t (.str b.2 :: r)) ∧ ∀ p, H p = none → Q (.ref p) (upd H p (.lst ((bs.mergeSort leStr).map (·.1))))
theorem cr_sortK (hu : X.A.units + 64 < cLine) (hd : X.A.depth + 8 < recursionLimit) {q x : Str} {p0 p1 p2 p3 : Pos} {sc : Scope} (hsc : sc = { kind := .function, names := [(x, .local)], isGenerator := false, isCoroutine := false, more := [] }) (hx : (x == ("__debug__" : Str)) = false)
    (hbind : ∀ pm cv ctv v : Value, bindArgs (PySem.W.kla_fn "<lambda>" q (argOne x p0) (firstOf x p1 p2 p3) sc [] pm cv ctv) ⟨[v], []⟩ = pure [(x, v)]) :
    CallRK X (.builtin "sorted") [Str.ofString "key"] (rSortK X.K q (argOne x p0) (firstOf x p1 p2 p3) sc) := by
  intro pins s σ H vs zs us ws Q I r rz h
  obtain ⟨a, f, c, bs, rfl, rfl, hf, hc, hs, hb, k⟩ := h
  obtain ⟨its, rv, hl, hz⟩ := I.list hs
  obtain ⟨u, rfl, ru⟩ := vals1 r
  obtain rfl : u = Value.ref a := ru
  obtain ⟨g, rfl, rg⟩ := vals1 rz
  obtain rfl : g = Value.ref f := rg
  have e := each_of' rv
  rw [List.length_map] at hz
  obtain ⟨⟨pm, ctv, ef⟩, _, _⟩ := I.hok f _ hf
  obtain ⟨⟨oc, ovs, t, eoc, edc, evc⟩, _, _⟩ := I.hok c _ hc
  refine PySem.W.sorted_key_data (b := false) (fun b : V × Str => .str b.2) hl.isList e (PySem.W.AllAlike.of fun _ _ => by simp [PySem.W.alike]) (PySem.W.Sortable.others fun _ => ⟨(fun z => by cases z), (fun _ z => by cases z)⟩) hz (fun b _ => ?_) (ksk_s1 _ _) (fun _ => ksk_l1 _ _) (fun _ => ksk_t1 _ _) (fun v y hR _ h0 tk kp => ?_) fun out n h0 tk kp _ hD ho eo => ?_
  · have : (PyData.str b.2).depth = 0 := by simp [PyData.depth]
    omega
  · obtain ⟨hyb, hyv⟩ := hR
    obtain ⟨t0, rest, ey, hT⟩ := hb y hyb
    rw [ey] at hyv
    cases hyv
    obtain ⟨ts, tv, tp, _⟩ := I.tuple hT
    cases tv with
    | cons hn tr =>
    obtain ⟨tn, rfl⟩ := hn
    refine wpAny_call (codeAny_mono (PySem.W.kla_callFunE (R := fun r s' => ∃ u, r = .ok (.ret u) ∧ PySem.W.KeyPure (.str y.2) { s with heap := h0, toks := tk } u s') (by show X.A.depth < _; omega) (kp _ _ ef) rfl (by rw [hsc]) (by rw [hsc]) rfl ⟨c, oc, ovs, t, rfl, kp _ _ eoc, edc, evc⟩ ?_) fun r s' ⟨u, e, k⟩ => by subst e; exact k)
    have eb : bindArgs (PySem.W.kla_fn "<lambda>" q (argOne x p0) (firstOf x p1 p2 p3) sc [] pm (.ref c) ctv) ⟨[.ref t0], []⟩ = pure [(x, .ref t0)] := hbind _ _ _ _
    rw [eb]
    have el : sc.names.lookup x = some .local := by rw [hsc]; simp
    refine wpAny_pure (wpAny_newFunctionEnv (fun y hy => by rw [hsc] at hy; rw [List.mem_singleton.mp hy]; exact fun z => by cases z) (fun y hy => by rw [List.mem_singleton.mp hy]; exact el) (fun h1 hns hsb => ⟨(I.nolimit.keeps kp).fresh _ hsb, ?_⟩) (by rw [hsc]))
    have kp1 : ∀ b o, h0.get? b = some o → h1.get? b = some o := fun b o e => hsb.extBut b o (Nat.ne_of_lt (Heap.lt_size e)) (Heap.get?_push_of_some _ e)
    refine PySem.W.kla_codeExpr (Subscript_ (wpAny_Name (wpAny_loadName_local (v := .ref t0) (by rw [hsc]; rfl) (by exact el) hns (by simp) (wpAny_Constant_int ?_)) hx))
    obtain ⟨otup, ep, ec, n0, ed⟩ := tp
    have tp1 : IsTup h1 t0 (Value.str y.2 tn :: _).toArray := ⟨otup, kp1 _ _ (kp _ _ ep), ec, n0, ed⟩
    refine subscriptTail_builtinR (x := .str y.2 tn) tp1.typeIs slot_tuple_getitem.lookup (PyProof.Rows.getItem_tuple (j := 0) tp1 (by decide) (by decide) (by simp [seqIndex?]) (by simp) ⟨rfl, ?_⟩) (by rfl)
    exact ⟨_, rfl, h1, _, rfl, kp1, .str _ _⟩
  · have rv2 := vals_each' eo
    refine ⟨.ref _, _, I.laid (t' := tk) (o := .lst ((bs.mergeSort leStr).map (·.1))) kp (Nat.le_succ _) ⟨?_, out, n, ?_, hD⟩, rfl, k _ (I.hok.fresh (Nat.le_succ _))⟩
    · rw [List.length_map, List.length_mergeSort]
      exact hz
    · rw [PySem.W.dataLe_str] at rv2
      exact rv2
end
end NG
namespace NG
open PySem PySem.Spec PyProof.Rows L2 LamX
theorem fun_okC {P : Program} {w : World} {K : PySem.W.Frag} {mg : Str → Option Value} {base : Heap} {x qual : Str} {st : Stmt} {f c : Addr} {fd : FuncData} {N ps : List Str} {k : Nat} {sp : Sp} (F : Fun K x qual st f fd) (hc : fd.code = .ref c) (S : FnScope N ps (defScope st)) (len : ∀ vs H Q E, sp vs H Q E → vs.length = ps.length)
    (hbody : ∀ (A : Around) (outer : List Env) (s : Shared) (H : Hp) (vs : List V) (Q : VK) (E : XK), Room k (A.deeper (envOfC qual (defScope st) s.heap.objs.size f (.ref c))) → sp vs H Q E →
      ∃ t, PSs (cxOf C8.CX0 P w K mg base N qual (defScope st) f (.ref c) A outer s H E).nox (defBody st) t ∧ t { nx := fun _ H' => Q .non H', rt := Q } (L2.start N vs) H) : FnOk P w K mg base C8.CX0 (k + 1) f fd ps sp := by
  obtain ⟨oc, od, kV, doc, pm, an, cdv, ct, osl, rfl, lk, hcd⟩ := F.ex
  have e : cdv = .ref c := hc
  subst e
  refine fn_of lk hcd S len fun A outer s H vs Q E hr hsp => ?_
  obtain ⟨t, h, q⟩ := hbody A outer s H vs Q E hr hsp
  exact ⟨t, h.nox, q⟩
theorem hu64 {A : Around} {k : Nat} (hr : Room k A) : A.units + 64 < cLine := by have := hr.un; omega
theorem hd8 {A : Around} {k : Nat} (hr : Room (k + 1) A) : A.depth + 8 < recursionLimit := by have := hr.dp; omega
theorem ExtN.sqT {K : PySem.W.Frag} {H H' : Hp} {a : Addr} {xs : List V} (e : ExtN H H') (h : SqT K H a xs) : SqT K H' a xs := by
  rcases h with (h | ⟨o, h⟩) | h
  · exact .inl (.inl (e _ _ h (fun _ z => by cases z)))
  · exact .inl (.inr ⟨o, e _ _ h (fun _ z => by cases z)⟩)
  · exact .inr h
theorem ExtN.same {H H' : Hp} (s : Same H H') : ExtN H H' := .of fun b o e => s b o e
def tSortBy (K : PySem.W.Frag) (T : List (Addr × Str)) (i : Nat) : TE := fun σ H Q => ∃ a, σ[i]? = some (some (.ref a)) ∧ ∃ bs : List (V × Str), Tabs T H ∧ SqL K H a (bs.map (·.1)) ∧ (∀ b ∈ bs, ∃ t r, b.1 = .ref t ∧ SqT K H t (.str b.2 :: r)) ∧
  ∀ (p : Addr) (H' : Hp), ExtN H H' → Tabs T H' → H' p = some (.lst ((bs.mergeSort leStr).map (·.1))) → Q (.ref p) H'
theorem ExtN.sqL {K : PySem.W.Frag} {H H' : Hp} {a : Addr} {xs : List V} (e : ExtN H H') (h : SqL K H a xs) : SqL K H' a xs := by
  rcases h with (h | ⟨o, h⟩) | h
  · exact .inl (.inl (e _ _ h (fun _ z => by cases z)))
  · exact .inl (.inr ⟨o, e _ _ h (fun _ z => by cases z)⟩)
  · exact .inr h
/-- sorted(xs, key=lambda x: x[0]) -/
theorem pe_sortBy {X : Cx} {T : List (Addr × Str)} {q x : Str} {c P : Addr} {i : Nat} {y : Str} {py : Pos} {sc : Scope} {p p0 p1 p2 p3 lpos kpos cpos : Pos} (he : PE X (.Name y py) (tVar i)) (hu : X.A.units + 64 < cLine) (hd : X.A.depth + 8 < recursionLimit) (hg : Gl X "sorted") (hm : X.mg "sorted" = none)
    (TB : TabB X.base X.mg c P) (hcode : X.env.code = .ref c) (hq : X.env.qual ++ "<lambda>" = q) (hmT : (P, q) ∈ T) (hT : ∀ p ∈ T, p.1 = P → p.2 = q) (hcl : closureFor sc X.env = pure [])
    (hsc : sc = { kind := .function, names := [(x, .local)], isGenerator := false, isCoroutine := false, more := [] }) (hx : (x == ("__debug__" : Str)) = false)
    (hbind : ∀ pm cv ctv v : Value, bindArgs (PySem.W.kla_fn "<lambda>" q (argOne x p0) (firstOf x p1 p2 p3) sc [] pm cv ctv) ⟨[v], []⟩ = pure [(x, v)]) :
    PE X (.Call (.Name "sorted" p) [.Name y py] [⟨some "key", .Lambda (argOne x p0) (firstOf x p1 p2 p3) sc lpos, kpos⟩] cpos) (tSortBy X.K T i) := by
  refine ⟨fun pins s σ H Q I h => ?_⟩
  obtain ⟨a, hi, bs, t0, hL, hP, k⟩ := h
  refine (pe_callBK (cr_sortK (q := q) hu hd hsc hx hbind) hg hm (by decide +kernel) (pa_cons he pa_nil) (pk_cons (pe_lamE (T := T) (q := q) TB hcode hq hmT hT rfl hcl) pk_nil) ).run pins s σ H Q I ?_
  refine ⟨.ref a, hi, t0, fun H1 f c1 e1 t1 hf hc => ?_⟩
  refine ⟨a, f, c1, bs, rfl, rfl, hf, hc, ExtN.sqL e1 hL, fun b hb => let ⟨t, r, h1, h2⟩ := hP b hb; ⟨t, r, h1, ExtN.sqT e1 h2⟩, fun p hp => ?_⟩
  exact k p _ (e1.trans (extN_laid hp)) (tabs_laid t1 hp) upd_same
end NG

set_option maxRecDepth 100000
set_option maxHeartbeats 400000
namespace NW
open PySem L2 NG TR LamX
abbrev sBy : Stmt := top 19
abbrev sFolI : Stmt := inClass (top 14) 0
def qBy : Str := (Str.ofString "by_names" ++ Str.ofString ".<locals>.") ++ Str.ofString "<lambda>"
structure TxtS (K : PySem.W.Frag) (mg : Str → Option Value) (fBy : Addr) : Prop where
  m_all : mg "all" = none
  m_isinstance : mg "isinstance" = none
  m_str : mg "str" = none
  m_tuple : mg "tuple" = none
  m_sorted : mg "sorted" = none
  g_by : mg "by_names" = some (.ref fBy)
  kp_by : PySem.W.keepIn K (.ref fBy) = true
/-- pairs whose first item is a text -/
def PairsAt (K : PySem.W.Frag) (H : Hp) (bs : List (V × Str)) : Prop := ∀ b ∈ bs, ∃ t r, b.1 = .ref t ∧ SqT K H t [.str b.2, r]
theorem PairsAt.ext {K : PySem.W.Frag} {H H' : Hp} {bs : List (V × Str)} (h : PairsAt K H bs) (e : ExtN H H') : PairsAt K H' bs := fun b hb => let ⟨t, r, h1, h2⟩ := h b hb; ⟨t, r, h1, ExtN.sqT e h2⟩
def spBy (K : PySem.W.Frag) (P0 : Addr) : Sp := fun vs H Q _ => ∃ (L : Addr) (bs : List (V × Str)), vs = [.ref L] ∧ Tabs [(P0, qBy)] H ∧ SqL K H L (bs.map (·.1)) ∧ bs.length < sizeLine ∧ PairsAt K H bs ∧
  ∀ H' E, ExtN H H' → Tabs [(P0, qBy)] H' → PlT H' E ((bs.mergeSort leStr).map (·.1)) → Q (.ref E) H'
section
variable {P : Program} {w : World} {K : PySem.W.Frag} {mg : Str → Option Value} {base : Heap} {fBy c0 P0 : Addr}
theorem scBy : FnScope ["entries", "name", "_"] ["entries"] (defScope sBy) := ⟨rfl, rfl, rfl, by decide +kernel, rfl, by decide +kernel, by decide +kernel⟩
theorem ok_by {fd : FuncData} (F : Fun K "by_names" "by_names" sBy fBy fd) (hc : fd.code = .ref c0) (T : TxtS K mg fBy) (TB : TabB base mg c0 P0) : FnOk P w K mg base CX0 2 fBy fd ["entries"] (spBy K P0) := by
  have nd := scBy.nd
  refine fun_okC F hc scBy (fun vs H Q E h => ?_) (fun A outer s H vs Q E hr h => ?_)
  · obtain ⟨L, bs, rfl, _⟩ := h
    rfl
  · obtain ⟨L, bs, rfl, hT, hL, hl, hP, k⟩ := h
    refine ⟨_, (pss_cons (ps_if (pt_not (pt_val (pe_callB (cr_all rfl) (by rfl) T.m_all (by decide +kernel) (pa_cons (pe_lc (own := [("name", 1), ("_", 2)]) (g := gTup K 2 (gCons (gName 1) (gCons (gName 2) gNil))) (te := tCB (rIsi K) (tCons (tVar 1) (tCons (tC (V.ty "str")) tNil))) rfl nd (pi_list (pv 0)) (blkOk_by (N := ["entries", "name", "_"]) (sc := defScope sBy) (by decide +kernel)) (fun _ _ _ _ _ => (pg_tup (by rfl) (pgs_cons (pg_name (i := 1) nd rfl (Or.inl rfl)) (pgs_cons (pg_name (i := 2) nd rfl (Or.inl rfl)) pgs_nil)))) (fun _ _ _ _ _ => pts_nil) (fun _ _ _ _ _ => (pe_callB call_isi (by rfl) T.m_isinstance (by decide +kernel) (pa_cons (pv 1) (pa_cons (pe_bltn (v := .ty "str") (by rfl) T.m_str (by decide +kernel) rfl) pa_nil))))) pa_nil)))) (pss_one (ps_ret (pe_callTy call_tuple_of (by rfl) T.m_tuple (by decide +kernel) (pa_cons (pv 0) pa_nil)))) pss_nil)
  (pss_one (ps_ret (pe_callTy call_tuple_ofP (by rfl) T.m_tuple (by decide +kernel) (pa_cons (pe_sortBy (T := [(P0, qBy)]) (q := qBy) (pv 0) (hu64 hr) (hd8 hr) (by rfl) T.m_sorted TB rfl rfl (by simp) (by simp) rfl rfl (by decide) (by intros; rfl)) pa_nil))))), ?_⟩
    refine ⟨_, rfl, L, rfl, ⟨_, hL⟩, fun D hD => ?_⟩
    have hf : ∀ b : V × Str, ∃ r, b ∈ bs → ∃ t, b.1 = .ref t ∧ SqT K H t [.str b.2, r] := fun b => by
      by_cases hb : b ∈ bs
      · obtain ⟨t, r, h1, h2⟩ := hP b hb
        exact ⟨r, fun _ => ⟨t, h1, h2⟩⟩
      · exact ⟨.non, fun q => absurd q hb⟩
    obtain ⟨f, hf⟩ := Classical.skolem.mp hf
    refine lc_pair (K := K) (walk_list (K := K) (a := L)) (i := 1) (j := 2) (by decide) (bs.map fun b => (V.str b.2, f b)) (by rw [List.length_map, List.length_map]) (fun _ => true) (fun _ => V.bl true) (fun i x v h1 h2 => ?_) (by rw [List.length_map]; exact hl) hD (fun H' s => Same.seq s hL) (fun i v H' R _ s hR => hR _ (Same.refl _)) (fun i v H' R h _ s hR => ?_) (fun H1 s1 e1 => ?_)
    · rw [List.getElem?_map] at h1 h2
      cases e : bs[i]? with
      | none => rw [e] at h2; cases h2
      | some b =>
        rw [e] at h1 h2
        cases Option.some.inj h1
        cases Option.some.inj h2
        exact hf b (List.mem_of_getElem? e)
    · rw [List.getElem?_map] at h
      cases e : bs[i]? with
      | none => rw [e] at h; cases h
      | some b =>
        rw [e] at h
        cases Option.some.inj h
        exact ⟨_, rfl, _, _, _, _, true, rfl, .ty _, .base (.str b.2), rfl, hR _ (Same.refl _)⟩
    · have e2 : ((bs.map fun b => (V.str b.2, f b)).filter (fun _ => true)).map (fun _ => V.bl true) = (bs.map fun _ => true).map V.bl := by
        rw [List.filter_eq_self.mpr (fun _ _ => rfl), List.map_map, List.map_map]
        rfl
      rw [e2] at e1
      have hall : (bs.map fun _ => true).all id = true := by rw [List.all_map, List.all_eq_true]; exact fun _ _ => rfl
      refine ⟨D, bs.map fun _ => true, rfl, SqL.of e1, _, rfl, ?_⟩
      rw [hall]
      refine iteF ?_
      refine ⟨L, rfl, bs, hT.ext s1, Same.seq s1 hL, fun b hb => (hP.ext (ExtN.same s1)) b hb |>.imp fun t h => h.imp' (fun r => [r]) fun r h => h, fun p H2 e2 t2 hp => ⟨p, _, rfl, SqL.of hp, fun E o hE ho hoc => ?_⟩⟩
      exact k _ E ((ExtN.same s1).trans (e2.trans (extN_laid hE))) (tabs_laid t2 hE) ⟨o, upd_same, ho, hoc⟩
/-! ### folders are made -/
def ffV (o : V) (E : Addr) : List (Str × V) := putF "entries" (.ref E) (putF "owner" o [])
/-- entries come as tuples or lists of two -/
def EntsIn (K : PySem.W.Frag) (H : Hp) (xs : List V) (es : List (Str × V)) : Prop := xs.length = es.length ∧ ∀ (i : Nat) (x : V) (e : Str × V), xs[i]? = some x → es[i]? = some e → ∃ a, x = .ref a ∧ (SqT K H a [.str e.1, e.2] ∨ SqL K H a [.str e.1, e.2])
end
end NW

set_option maxRecDepth 100000
set_option maxHeartbeats 400000
/-! a comprehension whose items are told by what is true of each (Px), made step by step (S), from H1 on (R) -/
namespace NG
open PySem L2
theorem lc_rel {J : It} {xs : List V} {G : Hp → Prop} (w : Walk J xs.length G (YAt xs)) {te : TE} {i : Nat} {σ : St} {H1 : Hp} {D : Addr} {Q : Hp → Prop} (R : Hp → Prop) (S : Hp → Hp → Prop) (Px : Nat → V → Hp → Prop) (hx : xs.length < sizeLine) (h0 : R (L2.upd H1 D (.lst [])))
    (hG : ∀ H, R H → G H) (hS1 : ∀ H H', R H → S H H' → R H') (hS2 : ∀ H H' acc, R H → S H H' → H D = some (.lst acc) → H' D = some (.lst acc)) (hS3 : ∀ k y H H', S H H' → Px k y H → Px k y H')
    (hU : ∀ H acc y, R H → H D = some (.lst acc) → R (L2.upd H D (.lst (acc ++ [y])))) (hP : ∀ k y H acc acc', H D = some (.lst acc) → Px k y H → Px k y (L2.upd H D (.lst acc')))
    (he : ∀ (k : Nat) (x : V) (H : Hp) (Rk : V → Hp → Prop), xs[k]? = some x → R H → (∀ y H', S H H' → Px k y H' → Rk y H') → te ((wipe σ [i]).set i (some x)) H Rk)
    (hd : ∀ H ys, R H → H D = some (.lst ys) → ys.length = xs.length → (∀ k y, ys[k]? = some y → Px k y H) → Q H) :
    ∃ W : Nat → Nat → Hp → Prop, (∃ m, W 0 m (L2.upd H1 D (.lst []))) ∧ ∀ k m H, W k m H →
      (J.stop k H ∧ Q H) ∨ (J.go k H ∧ ∃ Nx : Hp → Prop, (∀ H', Nx H' → ∃ m', m' < m ∧ W (k + 1) m' H') ∧ ∀ x H', J.yld k H x H' → gName i x (wipe σ [i]) H' fun σ2 H2 => wipe σ2 [i] = wipe σ [i] ∧ tYes σ2 H2 fun b H3 =>
        if b = true then te σ2 H3 fun y H4 => ∃ acc, H4 D = some (.lst acc) ∧ acc.length < sizeLine ∧ Nx (L2.upd H4 D (.lst (acc ++ [y]))) else Nx H3) := by
  refine lc_it w (fun k H => R H ∧ ∃ acc, H D = some (.lst acc) ∧ acc.length = k ∧ ∀ j y, acc[j]? = some y → Px j y H) ⟨h0, [], upd_same, rfl, fun j y h => by cases h⟩ (fun _ H _ h => hG H h.1) ?_ ?_
  · rintro k x H H' hk ⟨r, acc, eD, el, hx'⟩ ⟨rfl, hxk⟩
    refine ⟨?_, ?_⟩
    · show List.set (List.set (List.set σ i none) i _) i none = List.set σ i none
      rw [List.set_set, List.set_set]
    · refine he k x _ _ hxk r (fun y H4 s p => ?_)
      have eD4 := hS2 _ _ _ r s eD
      refine ⟨acc, eD4, by omega, hU _ _ _ (hS1 _ _ r s) eD4, acc ++ [y], upd_same, by rw [List.length_append, el]; rfl, fun j z hz => ?_⟩
      refine hP j z _ _ _ eD4 ?_
      by_cases hj : j < acc.length
      · rw [List.getElem?_append_left hj] at hz
        exact hS3 _ _ _ _ s (hx' j z hz)
      · have hl := (List.getElem?_eq_some_iff.mp hz).1
        rw [List.length_append, List.length_singleton] at hl
        have ej : j = acc.length := by omega
        subst ej
        rw [List.getElem?_append_right (Nat.le_refl _), Nat.sub_self] at hz
        cases Option.some.inj hz
        rw [el]
        exact p
  · rintro H ⟨r, acc, eD, el, hx'⟩
    exact hd H acc r eD el hx'
end NG

set_option maxRecDepth 100000
set_option maxHeartbeats 400000
namespace NW
open PySem L2 NG TR LamX
/-- entries by ascending names, equal ones in their order -/
def leE {α : Type} (x y : Str × α) : Bool := decide (x.1.cps.toList ≤ y.1.cps.toList)
def srtE {α : Type} (es : List (Str × α)) : List (Str × α) := es.mergeSort leE
theorem srt_map {α β : Type} (f : α → β) (es : List (Str × α)) : srtE (es.map fun e => (e.1, f e.2)) = (srtE es).map fun e => (e.1, f e.2) :=
  (List.map_mergeSort (r := leE) (s := leE) (f := fun e : Str × α => (e.1, f e.2)) (fun _ _ _ _ => rfl)).symm
theorem srt_zip {α : Type} {ys : List V} {es : List (Str × α)} (hl : ys.length = es.length) : ∃ zs : List (V × (Str × α)), (∀ z ∈ zs, ∃ i : Nat, ys[i]? = some z.1 ∧ es[i]? = some z.2) ∧ zs.map (·.2) = srtE es ∧
    (((ys.zip es).map fun z => (z.1, z.2.1)).mergeSort leStr).map (·.1) = zs.map (·.1) ∧ ((ys.zip es).map fun z => (z.1, z.2.1)).map (·.1) = ys := by
  refine ⟨(ys.zip es).mergeSort fun a b => leE a.2 b.2, fun z hz => ?_, ?_, ?_, ?_⟩
  · have hm : z ∈ ys.zip es := (List.mergeSort_perm _ _).mem_iff.mp hz
    obtain ⟨i, hi⟩ := List.getElem?_of_mem hm
    rw [List.getElem?_zip_eq_some] at hi
    exact ⟨i, hi⟩
  · rw [List.map_mergeSort (s := leE) (fun _ _ _ _ => rfl), List.map_snd_zip (by omega)]
    rfl
  · rw [← List.map_mergeSort (r := fun a b => leE a.2 b.2) (fun _ _ _ _ => rfl), List.map_map]
    rfl
  · rw [List.map_map]
    show (ys.zip es).map (fun z => z.1) = ys
    exact List.map_fst_zip (by omega)
/-- all but p and the tables -/
def ButN (p : Addr) (H H' : Hp) : Prop := ∀ b o, H b = some o → b ≠ p → (∀ ps, o ≠ .tbl ps) → H' b = some o
/-- what tuple(..) asks -/
def rTupOf (K : PySem.W.Frag) : List V → Hp → VK → Prop := fun vs H Q => ∃ (p : Addr) (ys : List V), vs = [.ref p] ∧ ((SqL K H p ys ∧ ∀ l, H l = none → Q (.ref l) (upd H l (.tup ys))) ∨ SqT K H p ys ∧ Q (.ref p) H)
def spFol (K : PySem.W.Frag) (C P0 : Addr) : Sp := fun vs H Q _ => ∃ (p dx : Addr) (o : V) (L : Addr) (xs : List V) (es : List (Str × V)), vs = [.ref p, o, .ref L] ∧ H p = some (.ins C dx []) ∧ Tabs [(P0, qBy)] H ∧ SqL K H L xs ∧ EntsIn K H xs es ∧ es.length < sizeLine ∧
  ∀ (H' : Hp) (E : Addr) (qs : List V), ButN p H H' → Tabs [(P0, qBy)] H' → H' p = some (.ins C dx (ffV o E)) → PlT H' E qs → qs.length = es.length → (∀ (i : Nat) (q : V) (e : Str × V), qs[i]? = some q → (srtE es)[i]? = some e → ∃ a, q = .ref a ∧ SqT K H' a [.str e.1, e.2]) → Q .non H'
section
variable {P : Program} {w : World} {K : PySem.W.Frag} {mg : Str → Option Value} {base : Heap} {C f fBy P0 : Addr}
theorem scFolI : FnScope ["self", "owner", "entries", "entry"] ["self", "owner", "entries"] (defScope sFolI) := ⟨rfl, rfl, rfl, by decide +kernel, rfl, by decide +kernel, by decide +kernel⟩
theorem ok_folI {fd fdB : FuncData} (F : Fun K "__init__" "Folder.__init__" sFolI f fd) (T : TxtS K mg fBy) (cl : Cls K C) (h1 : NoAttr K C "owner") (h2 : NoAttr K C "entries") (GB : FnOk P w K mg base CX0 2 fBy fdB ["entries"] (spBy K P0)) (bB : Binds K fdB ["entries"] []) :
    FnOk P w K mg base CX0 3 f fd ["self", "owner", "entries"] (spFol K C P0) := by
  have nd := scFolI.nd
  refine F.ok scFolI (fun vs H Q E h => ?_) (fun cdv A outer s H vs Q E hr h => ?_)
  · obtain ⟨p, dx, o, L, xs, es, rfl, _⟩ := h
    rfl
  · obtain ⟨p, dx, o, L, xs, es, rfl, hp, hT, hL, hE, hl, k⟩ := h
    have hr1 : Room 2 _ := hr
    refine ⟨_, (pss_cons (ps_fld (pv 0) (pv 1) rfl)
  (pss_one (ps_fld (pv 0) (pe_call GB hr1 (by rfl) T.g_by T.kp_by bB .nil pass0 (pa_cons (pe_lc (own := [("entry", 3)]) (te := tCB (rTupOf K) (tCons (tVar 3) tNil)) rfl nd (pi_list (pv 2)) (blkOk_by (N := ["self", "owner", "entries", "entry"]) (sc := defScope sFolI) (by decide +kernel)) (fun _ _ _ _ _ => (pg_name (i := 3) nd rfl (Or.inl rfl))) (fun _ _ _ _ _ => pts_nil) (fun _ _ _ _ _ => (pe_callTy call_tuple_of (by rfl) T.m_tuple (by decide +kernel) (pa_cons (pv 3) pa_nil)))) pa_nil)) rfl))), ?_⟩
    refine ⟨_, rfl, _, rfl, p, C, dx, _, rfl, hp, cl, h1, (by show 0 < 1000; decide), ?_⟩
    have n1 : ∀ u : HO, (∀ C dx fs, u ≠ .ins C dx fs) → ∀ b, H b = some u → b ≠ p := fun u hu b e => ne_of e hp (hu C dx [])
    have eB : ButN p H (upd H p (.ins C dx (putF "owner" o []))) := fun b u e n _ => by rw [upd_ne n]; exact e
    have bT : But p H (upd H p (.ins C dx (putF "owner" o []))) := (But.refl p H).upd
    have hL1 : SqL K (upd H p (.ins C dx (putF "owner" o []))) L xs := by
      rcases hL with (h | ⟨u, h⟩) | h
      · exact .inl (.inl (by rw [upd_ne (n1 _ (fun _ _ _ z => by cases z) _ h)]; exact h))
      · exact .inl (.inr ⟨u, by rw [upd_ne (n1 _ (fun _ _ _ z => by cases z) _ h)]; exact h⟩)
      · exact .inr h
    have hE1 : EntsIn K (upd H p (.ins C dx (putF "owner" o []))) xs es := ⟨hE.1, fun i x e a b => by
      obtain ⟨t, h1, h2⟩ := hE.2 i x e a b
      refine ⟨t, h1, h2.imp (fun h2 => But.sqT hp bT h2) fun h2 => ?_⟩
      rcases h2 with (h | ⟨u, h⟩) | h
      · exact .inl (.inl (bT _ _ h (n1 _ (fun _ _ _ z => by cases z) _ h)))
      · exact .inl (.inr ⟨u, bT _ _ h (n1 _ (fun _ _ _ z => by cases z) _ h)⟩)
      · exact .inr h⟩
    have hT1 : Tabs [(P0, qBy)] (upd H p (.ins C dx (putF "owner" o []))) := fun t ht => by
      obtain ⟨ps, a1, a2, a3⟩ := hT t ht
      refine ⟨ps, by rw [upd_ne (ne_of a1 hp (fun z => by cases z))]; exact a1, a2, fun pos cv hc => ?_⟩
      obtain ⟨c, e1, e2⟩ := a3 pos cv hc
      exact ⟨c, e1, by rw [upd_ne (ne_of e2 hp (fun z => by unfold CodeO at z; cases z))]; exact e2⟩
    have hp1 : (upd H p (.ins C dx (putF "owner" o []))) p = some (.ins C dx (putF "owner" o [])) := upd_same
    generalize upd H p (.ins C dx (putF "owner" o [])) = H1 at eB hL1 hE1 hT1 hp1 ⊢
    refine ⟨_, rfl, L, rfl, ⟨_, hL1⟩, fun D hD => ?_⟩
    refine lc_rel (walk_list (K := K) (a := L)) (R := fun H' => Same H1 H') (S := Same) (Px := fun i y H' => ∃ e a, es[i]? = some e ∧ y = .ref a ∧ SqT K H' a [.str e.1, e.2]) (by rw [hE1.1]; exact hl) (NG.Same.upd hD) (fun H' s => Same.seq s hL1) (fun _ _ a b => a.trans b) (fun _ _ _ _ s e => s _ _ e)
      (fun i y _ _ s ⟨e, a, h1, h2, h3⟩ => ⟨e, a, h1, h2, Same.sqT s h3⟩) (fun H' acc y s e b u hb => ?_) (fun i y H' acc acc' eD ⟨e, a, h1, h2, h3⟩ => ⟨e, a, h1, h2, ?_⟩) (fun i x H' Rk hx s hR => ?_) (fun H2 ys s2 e2 hy hys => ?_)
    · rw [upd_ne (ne_of_none hb hD)]
      exact s _ _ hb
    · rcases h3 with (h | ⟨u, h⟩) | h
      · exact .inl (.inl (by rw [upd_ne (ne_of h eD (fun z => by cases z))]; exact h))
      · exact .inl (.inr ⟨u, by rw [upd_ne (ne_of h eD (fun z => by cases z))]; exact h⟩)
      · exact .inr h
    · have hi : i < es.length := by rw [← hE1.1]; exact (List.getElem?_eq_some_iff.mp hx).1
      have he : es[i]? = some es[i] := List.getElem?_eq_getElem hi
      obtain ⟨a, rfl, h⟩ := hE1.2 i x _ hx he
      rcases h with h | h
      · exact ⟨_, rfl, a, _, rfl, .inr ⟨Same.sqT s h, hR _ _ (Same.refl _) ⟨_, a, he, rfl, Same.sqT s h⟩⟩⟩
      · exact ⟨_, rfl, a, _, rfl, .inl ⟨Same.seq s h, fun l hl => hR _ _ (NG.Same.upd hl) ⟨_, l, he, rfl, SqT.of upd_same⟩⟩⟩
    · rw [hE1.1] at hy
      obtain ⟨zs, z1, z2, z3, z4⟩ := srt_zip hy
      refine ⟨D, (ys.zip es).map fun z => (z.1, z.2.1), rfl, hT1.ext s2, ?_, ?_, ?_, fun H3 E e3 t3 hE3 => ?_⟩
      · rw [z4]; exact SqL.of e2
      · rw [List.length_map, List.length_zip]; omega
      · intro b hb
        obtain ⟨z, hz, rfl⟩ := List.mem_map.mp hb
        obtain ⟨i, hi⟩ := List.getElem?_of_mem hz
        rw [List.getElem?_zip_eq_some] at hi
        obtain ⟨e, a, h1, h2, h3⟩ := hys i _ hi.1
        rw [hi.2] at h1
        cases Option.some.inj h1
        exact ⟨a, _, h2, h3⟩
      · rw [z3] at hE3
        have hp3 : H3 p = some (.ins C dx (putF "owner" o [])) := e3 _ _ (s2 _ _ hp1) (fun _ z => by cases z)
        refine ⟨_, rfl, p, C, dx, _, rfl, hp3, cl, h2, (by show 1 < 1000; decide), ?_⟩
        have nE : E ≠ p := let ⟨_, e, _⟩ := hE3; ne_of e hp3 (fun z => by cases z)
        have t4 : Tabs [(P0, qBy)] (upd H3 p (.ins C dx (ffV o E))) := fun t ht => by
          obtain ⟨ps, a1, a2, a3⟩ := t3 t ht
          refine ⟨ps, by rw [upd_ne (ne_of a1 hp3 (fun z => by cases z))]; exact a1, a2, fun pos cv hc => ?_⟩
          obtain ⟨c, e1, e2⟩ := a3 pos cv hc
          exact ⟨c, e1, by rw [upd_ne (ne_of e2 hp3 (fun z => by unfold CodeO at z; cases z))]; exact e2⟩
        refine k _ E (zs.map (·.1)) (fun b u e n q => ?_) t4 upd_same (hE3.keep fun o e => by rw [upd_ne nE]; exact e) ?_ (fun i q e hq he => ?_)
        · rw [upd_ne n]
          exact e3 _ _ (s2 _ _ (eB b u e n q)) q
        · have := congrArg List.length z2
          rw [List.length_map] at this
          rw [List.length_map, this]
          unfold srtE
          rw [List.length_mergeSort]
        · rw [← z2, List.getElem?_map] at he
          rw [List.getElem?_map] at hq
          cases ez : zs[i]? with
          | none => rw [ez] at hq; cases hq
          | some z =>
            rw [ez] at hq he
            cases Option.some.inj hq
            cases Option.some.inj he
            obtain ⟨j, j1, j2⟩ := z1 z (List.mem_of_getElem? ez)
            obtain ⟨e', a, h1, h2, h3⟩ := hys j _ j1
            rw [j2] at h1
            cases Option.some.inj h1
            refine ⟨a, h2, ?_⟩
            have h4 := ExtN.sqT e3 h3
            rcases h4 with (h | ⟨u, h⟩) | h
            · exact .inl (.inl (by rw [upd_ne (ne_of h hp3 (fun z => by cases z))]; exact h))
            · exact .inl (.inr ⟨u, by rw [upd_ne (ne_of h hp3 (fun z => by cases z))]; exact h⟩)
            · exact .inr h
end
end NW

set_option maxRecDepth 100000
set_option maxHeartbeats 400000
namespace NW
open PySem L2 NG TR LamX
abbrev sMade : Stmt := top 37
def srtN : Nd → Nd
  | .fol o es => .fol o (srtE es)
  | nd => nd
theorem putF_ffl (o : Int) (E : Addr) : ffl o E = ffV (.int o) E := rfl
/-- the makers of the four classes -/
structure Makers (K : PySem.W.Frag) (cs fs : Nat → Addr) : Prop where
  make : ∀ i, i < 4 → Mk K (cs i) (fs i)
def spMade (K : PySem.W.Frag) (cs : Nat → Addr) (P0 : Addr) : Sp := fun vs H Q _ => ∃ (t L : Addr) (nd : Nd), vs = [.ref t] ∧ NdAt H (t, L) nd ∧ nd.ents.length < 1000 ∧ Tabs [(P0, qBy)] H ∧
  ∀ (H' : Hp) (q : Addr), ExtN H H' → H q = none → Tabs [(P0, qBy)] H' → ObjAt K cs H' q (srtN nd) → Q (.ref q) H'
theorem new_ext {H : Hp} {x dx C : Addr} (hx : H x = none) (hd : H dx = none) : Same H (upd (upd H dx (.own x)) x (.ins C dx [])) := fun b o e => by
  rw [upd_ne (ne_of_none e hx), upd_ne (ne_of_none e hd)]
  exact e
section
variable {P : Program} {w : World} {K : PySem.W.Frag} {mg : Str → Option Value} {base : Heap} {f P0 : Addr} {cs fs : Nat → Addr}
theorem scMade : FnScope ["_law_node"] ["_law_node"] (defScope sMade) := ⟨rfl, rfl, rfl, by decide +kernel, rfl, by decide +kernel, by decide +kernel⟩
theorem ok_made {fd fd0 fd1 fd2 fd3 : FuncData} (F : Fun K "_law_made" "_law_made" sMade f fd) (TG : TxtG K mg cs) (M : Makers K cs fs)
    (G0 : FnOk P w K mg base CX0 3 (fs 0) fd0 ["self", "owner", "entries"] (spFol K (cs 0) P0)) (b0 : Binds K fd0 ["self", "owner", "entries"] [])
    (G1 : FnOk P w K mg base CX0 1 (fs 1) fd1 ["self", "owner"] (spFile K (cs 1))) (b1 : Binds K fd1 ["self", "owner"] [])
    (G2 : FnOk P w K mg base CX0 1 (fs 2) fd2 ["self", "owner", "text"] (spTwo K (cs 2) "owner" "text")) (b2 : Binds K fd2 ["self", "owner", "text"] [])
    (G3 : FnOk P w K mg base CX0 1 (fs 3) fd3 ["self", "owner", "above"] (spTwo K (cs 3) "owner" "above")) (b3 : Binds K fd3 ["self", "owner", "above"] []) :
    FnOk P w K mg base CX0 5 f fd ["_law_node"] (spMade K cs P0) := by
  have nd := scMade.nd
  refine F.ok scMade (fun vs H Q E h => ?_) (fun cdv A outer s H vs Q E hr h => ?_)
  · obtain ⟨t, L, x, rfl, _⟩ := h
    rfl
  · obtain ⟨t, L, x, rfl, hx, hl, hT, k⟩ := h
    have hr0 : Room 4 _ := hr
    have hr1 : Room 2 _ := hr.mono (by decide)
    have hr2 : Room 2 _ := hr.mono (by decide)
    have hr3 : Room 2 _ := hr.mono (by decide)
    have M0 := M.make 0 (by decide)
    have M1 := M.make 1 (by decide)
    have M2 := M.make 2 (by decide)
    have M3 := M.make 3 (by decide)
    refine ⟨_, (pss_cons (ps_if (pt_cmpR op_eq (pe_ix ix_tup (pv 0) pe_int (fun _ _ => rfl)) pe_str (nomark _)) (pss_one (ps_ret (pe_make M0 G0 hr0 (by rfl) TG.m_Folder b0 .nil pass0 (pa_cons (pe_ix ix_tup (pv 0) pe_int (fun _ _ => rfl)) (pa_cons (pe_ix ix_tup (pv 0) pe_int (fun _ _ => rfl)) pa_nil))))) pss_nil)
  (pss_cons (ps_if (pt_cmpR op_eq (pe_ix ix_tup (pv 0) pe_int (fun _ _ => rfl)) pe_str (nomark _)) (pss_one (ps_ret (pe_make M1 G1 hr1 (by rfl) TG.m_File b1 .nil pass0 (pa_cons (pe_ix ix_tup (pv 0) pe_int (fun _ _ => rfl)) pa_nil)))) pss_nil)
  (pss_one (ps_ret (pe_ifExp (pt_cmpR op_eq (pe_ix ix_tup (pv 0) pe_int (fun _ _ => rfl)) pe_str (nomark _)) (pe_make M2 G2 hr2 (by rfl) TG.m_Link b2 .nil pass0 (pa_cons (pe_ix ix_tup (pv 0) pe_int (fun _ _ => rfl)) (pa_cons (pe_ix ix_tup (pv 0) pe_int (fun _ _ => rfl)) pa_nil))) (pe_make M3 G3 hr3 (by rfl) TG.m_Gone b3 .nil pass0 (pa_cons (pe_ix ix_tup (pv 0) pe_int (fun _ _ => rfl)) (pa_cons (pe_ix ix_tup (pv 0) pe_int (fun _ _ => rfl)) pa_nil)))))))), ?_⟩
    cases x with
    | fol o es =>
      obtain ⟨et, qs, eL, ql, qe⟩ := hx
      have hS := SqT.of (K := K) et
      refine ⟨_, rfl, t, _, 0, _, rfl, rfl, hS, rfl, rfl, _, rfl, ?_⟩
      rw [decide_eq_true (rfl : V.str "folder" = V.str "folder")]
      refine iteT ⟨_, rfl, t, _, 1, _, rfl, rfl, hS, rfl, _, rfl, t, _, 2, _, rfl, rfl, hS, rfl, fun x dx nx ndx nex => ?_⟩
      have s1 := new_ext (C := cs 0) nx ndx
      have hx1 : (upd (upd H dx (.own x)) x (.ins (cs 0) dx [])) x = some (.ins (cs 0) dx []) := upd_same
      generalize upd (upd H dx (.own x)) x (.ins (cs 0) dx []) = H1 at s1 hx1 ⊢
      refine ⟨x, dx, .int o, L, qs, es.map fun e => (e.1, V.int (e.2 : Nat)), rfl, hx1, hT.ext s1, SqL.of (s1 _ _ eL), ⟨by rw [List.length_map, ql], fun i q e hq he => ?_⟩, by rw [List.length_map]; exact small1000 (Nat.le_of_lt hl), fun H2 E qs2 e2 t2 hx2 hE2 l2 p2 => ⟨rfl, k H2 x (fun b u e n => e2 b u (s1 _ _ e) (ne_of_none e nx) n) nx t2 ⟨dx, E, qs2, hx2, hE2, ?_, fun i q e hq he => ?_⟩⟩⟩
      · rw [List.getElem?_map] at he
        cases ee : es[i]? with
        | none => rw [ee] at he; cases he
        | some e0 =>
          rw [ee] at he
          cases Option.some.inj he
          obtain ⟨a, h1, h2⟩ := qe i q e0 hq ee
          exact ⟨a, h1, .inl (SqT.of (s1 _ _ h2))⟩
      · rw [l2, List.length_map]
        exact (List.length_mergeSort es).symm
      · have := p2 i q (e.1, V.int (e.2 : Nat)) hq (by rw [srt_map (fun n : Nat => V.int (n : Nat)) es, List.getElem?_map, he]; rfl)
        exact this
    | fil o =>
      have hS := SqT.of (K := K) hx
      refine ⟨_, rfl, t, _, 0, _, rfl, rfl, hS, rfl, rfl, _, rfl, ?_⟩
      rw [show decide (V.str "file" = V.str "folder") = false from by decide +kernel]
      refine iteF ⟨_, rfl, t, _, 0, _, rfl, rfl, hS, rfl, rfl, _, rfl, ?_⟩
      rw [decide_eq_true (rfl : V.str "file" = V.str "file")]
      refine iteT ⟨_, rfl, t, _, 1, _, rfl, rfl, hS, rfl, fun x dx nx ndx nex => ?_⟩
      have s1 := new_ext (C := cs 1) nx ndx
      have hx1 : (upd (upd H dx (.own x)) x (.ins (cs 1) dx [])) x = some (.ins (cs 1) dx []) := upd_same
      refine ⟨x, dx, .int o, rfl, hx1, rfl, k _ x (fun b u e n => ?_) nx ?_ ⟨dx, upd_same⟩⟩
      · rw [upd_ne (ne_of_none e nx)]; exact s1 _ _ e
      · exact hT.ext fun b u e => by rw [upd_ne (ne_of_none e nx)]; exact s1 _ _ e
    | lnk o z =>
      have hS := SqT.of (K := K) hx
      refine ⟨_, rfl, t, _, 0, _, rfl, rfl, hS, rfl, rfl, _, rfl, ?_⟩
      rw [show decide (V.str "link" = V.str "folder") = false from by decide +kernel]
      refine iteF ⟨_, rfl, t, _, 0, _, rfl, rfl, hS, rfl, rfl, _, rfl, ?_⟩
      rw [show decide (V.str "link" = V.str "file") = false from by decide +kernel]
      refine iteF ⟨_, rfl, t, _, 0, _, rfl, rfl, hS, rfl, rfl, _, rfl, ?_⟩
      rw [decide_eq_true (rfl : V.str "link" = V.str "link")]
      refine iteT ⟨_, rfl, t, _, 1, _, rfl, rfl, hS, rfl, _, rfl, t, _, 2, _, rfl, rfl, hS, rfl, fun x dx nx ndx nex => ?_⟩
      have s1 := new_ext (C := cs 2) nx ndx
      have hx1 : (upd (upd H dx (.own x)) x (.ins (cs 2) dx [])) x = some (.ins (cs 2) dx []) := upd_same
      refine ⟨x, dx, .int o, .str z, rfl, hx1, rfl, k _ x (fun b u e n => ?_) nx ?_ ⟨dx, upd_same⟩⟩
      · rw [upd_ne (ne_of_none e nx), upd_ne (ne_of_none e nx)]; exact s1 _ _ e
      · exact hT.ext fun b u e => by rw [upd_ne (ne_of_none e nx), upd_ne (ne_of_none e nx)]; exact s1 _ _ e
    | gon o ab =>
      have hS := SqT.of (K := K) hx
      refine ⟨_, rfl, t, _, 0, _, rfl, rfl, hS, rfl, rfl, _, rfl, ?_⟩
      rw [show decide (V.str "gone" = V.str "folder") = false from by decide +kernel]
      refine iteF ⟨_, rfl, t, _, 0, _, rfl, rfl, hS, rfl, rfl, _, rfl, ?_⟩
      rw [show decide (V.str "gone" = V.str "file") = false from by decide +kernel]
      refine iteF ⟨_, rfl, t, _, 0, _, rfl, rfl, hS, rfl, rfl, _, rfl, ?_⟩
      rw [show decide (V.str "gone" = V.str "link") = false from by decide +kernel]
      refine iteF ⟨_, rfl, t, _, 1, _, rfl, rfl, hS, rfl, _, rfl, t, _, 2, _, rfl, rfl, hS, rfl, fun x dx nx ndx nex => ?_⟩
      have s1 := new_ext (C := cs 3) nx ndx
      have hx1 : (upd (upd H dx (.own x)) x (.ins (cs 3) dx [])) x = some (.ins (cs 3) dx []) := upd_same
      refine ⟨x, dx, .int o, .int (ab : Nat), rfl, hx1, rfl, k _ x (fun b u e n => ?_) nx ?_ ⟨dx, upd_same⟩⟩
      · rw [upd_ne (ne_of_none e nx), upd_ne (ne_of_none e nx)]; exact s1 _ _ e
      · exact hT.ext fun b u e => by rw [upd_ne (ne_of_none e nx), upd_ne (ne_of_none e nx)]; exact s1 _ _ e
end
end NW

set_option maxRecDepth 100000
set_option maxHeartbeats 400000
namespace NW
open PySem L2 NG TR LamX
/-! ### made trees are well formed as the drawn ones are -/
theorem srt_perm {α : Type} (es : List (Str × α)) : (srtE es).Perm es := List.mergeSort_perm _ _
theorem srtN_owner (nd : Nd) : (srtN nd).owner = nd.owner := by cases nd <;> rfl
theorem srtN_gone (nd : Nd) : (srtN nd).isGone = nd.isGone := by cases nd <;> rfl
theorem srtN_fol (nd : Nd) : (srtN nd).isFol = nd.isFol := by cases nd <;> rfl
theorem srtN_ents (nd : Nd) : (srtN nd).ents = srtE nd.ents := by
  have e : ([] : List (Str × Nat)) = srtE [] := by simp [srtE]
  cases nd with
  | fol o es => rfl
  | _ => exact e
theorem srtN_cls (nd : Nd) : clsI (srtN nd) = clsI nd := by cases nd <;> rfl
theorem get_srt {nds : List Nd} {i : Nat} {x : Nd} (h : (nds.map srtN)[i]? = some x) : ∃ nd, nds[i]? = some nd ∧ x = srtN nd := by
  rw [List.getElem?_map] at h
  cases e : nds[i]? with
  | none => rw [e] at h; cases h
  | some nd => rw [e] at h; exact ⟨nd, rfl, (Option.some.inj h).symm⟩
theorem srt_get {nds : List Nd} {i : Nat} {nd : Nd} (h : nds[i]? = some nd) : (nds.map srtN)[i]? = some (srtN nd) := by rw [List.getElem?_map, h]; rfl
theorem cnt_srt (nds : List Nd) (k : Nat) : cnt (nds.map srtN) k = cnt nds k := by
  induction nds with
  | nil => rfl
  | cons x r ih =>
    rw [List.map_cons, cnt_cons, cnt_cons, ih, srtN_ents]
    congr 1
    unfold cntE
    exact (srt_perm _).countP_eq _
theorem wf_srt {LT PL : Str → Prop} {nds : List Nd} (b : WF LT PL nds) : WF LT PL (nds.map srtN) := by
  refine ⟨⟨?_, fun i x h => ?_, fun i x h e he => ?_, fun i x h => ?_, fun i o t h => ?_, fun i o ab h => ?_⟩, fun k x hk h f => ?_⟩
  · obtain ⟨o, es, h⟩ := b.base.root
    exact ⟨o, srtE es, srt_get h⟩
  · obtain ⟨nd, h1, rfl⟩ := get_srt h
    rw [srtN_owner]
    exact b.base.own i nd h1
  · obtain ⟨nd, h1, rfl⟩ := get_srt h
    rw [srtN_ents] at he
    obtain ⟨h2, h3, nd', h4, h5⟩ := b.base.ent i nd h1 e ((srt_perm _).mem_iff.mp he)
    exact ⟨h2, h3, srtN nd', srt_get h4, by rw [srtN_gone]; exact h5⟩
  · obtain ⟨nd, h1, rfl⟩ := get_srt h
    have := b.base.uniq i nd h1
    rw [srtN_ents]
    exact ⟨((srt_perm nd.ents).map (fun e : Str × Nat => e.1)).nodup_iff.mpr this.1, by rw [(srt_perm _).length_eq]; exact this.2⟩
  · obtain ⟨nd, h1, e⟩ := get_srt h
    cases nd with
    | lnk o' t' => cases e; exact b.base.lnk i _ _ h1
    | _ => cases e
  · obtain ⟨nd, h1, e⟩ := get_srt h
    cases nd with
    | gon o' ab' =>
      cases e
      obtain ⟨h2, o2, es, h3⟩ := b.base.gon i _ _ h1
      exact ⟨h2, o2, srtE es, srt_get h3⟩
    | _ => cases e
  · obtain ⟨nd, h1, rfl⟩ := get_srt h
    rw [cnt_srt]
    exact b.once k nd hk h1 (by rw [← srtN_fol]; exact f)
end NW

set_option maxRecDepth 100000
set_option maxHeartbeats 400000
/-! set(xs) of a list of keys of any one kind, how many there are; len(set(xs)) of texts -/
namespace NG
open PySem PySem.Spec PyProof.Rows L2
/-- the different ones of a list -/
def diff1 {α : Type} [DecidableEq α] (a : List α) (x : α) : List α := if x ∈ a then a else x :: a
def diffs {α : Type} [DecidableEq α] (xs : List α) : List α := xs.foldl diff1 []
theorem diffs_snoc {α : Type} [DecidableEq α] (xs : List α) (x : α) : diffs (xs ++ [x]) = diff1 (diffs xs) x := by unfold diffs; rw [List.foldl_append]; rfl
theorem diffs_le {α : Type} [DecidableEq α] (xs : List α) : (diffs xs).length ≤ xs.length := by
  suffices h : ∀ (ys a : List α), (ys.foldl diff1 a).length ≤ a.length + ys.length by
    have := h xs []
    simpa [diffs] using this
  intro ys
  induction ys with
  | nil => intro a; simp
  | cons y r ih =>
    intro a
    rw [List.foldl_cons]
    refine Nat.le_trans (ih _) ?_
    unfold diff1
    split <;> simp only [List.length_cons] <;> omega
theorem diffs_nodup {α : Type} [DecidableEq α] {xs : List α} (h : xs.Nodup) : (diffs xs).length = xs.length := by
  suffices q : ∀ (ys a : List α), ys.Nodup → (∀ y ∈ ys, y ∉ a) → (ys.foldl diff1 a).length = a.length + ys.length by
    have := q xs [] h (by simp)
    simpa [diffs] using this
  intro ys
  induction ys with
  | nil => intro a _ _; simp
  | cons y r ih =>
    intro a hn ha
    rw [List.nodup_cons] at hn
    rw [List.foldl_cons]
    have e : diff1 a y = y :: a := by unfold diff1; rw [if_neg (ha y List.mem_cons_self)]
    rw [e, ih _ hn.2 (fun z hz q => ?_)]
    · simp only [List.length_cons]; omega
    · rcases List.mem_cons.mp q with rfl | q
      · exact hn.1 hz
      · exact ha z (List.mem_cons_of_mem _ hz) q
section
variable {prog : Program} {w : World} {A : Around} {T : Type} [DecidableEq T] {kd : KeyKind prog w T} {it : Addr} {fp wr : List Addr} {G : Array GenState → Array GenState → Prop} {Pv : Nat → Value → Prop} {St : Nat → Shared → Prop} {R : Result → Shared → Prop}
/-- the set at c holds the first i keys -/
def Holds (kd : KeyKind prog w T) (h : Heap) (c : Addr) (ks : List T) (i : Nat) : Prop := h.SetOf kd c (fun k => decide (k ∈ diffs (ks.take i))) (diffs (ks.take i)).length
theorem Holds.moved {h h' : Heap} {c : Addr} {ks : List T} {i : Nat} (x : Holds kd h c ks i) (e : ∀ o, h.get? c = some o → h'.get? c = some o) : Holds kd h' c ks i := by
  obtain ⟨o, y⟩ := x
  obtain ⟨es, ep, t, ho, y⟩ := y
  exact ⟨o, es, ep, t, e o ho, y⟩
theorem setOf_eq {h : Heap} {c : Addr} {S S2 : T → Bool} {m m2 : Nat} (x : h.SetOf kd c S m) (e : S = S2) (n : m = m2) : h.SetOf kd c S2 m2 := e ▸ n ▸ x
theorem fill_loop {ks : List T} (W : WalksS prog w A.in1 it fp wr G ks.length Pv St) (c : Addr) (hc : c ∉ fp) (hv : ∀ (i : Nat) (v : Value) (k : T), Pv i v → ks[i]? = some k → kd.is k v = true ∧ v.scannable = true) (hb : ks.length + 1 < scanBound) :
    ∀ (left i : Nat) (s : Shared), ks.length = i + left → St i s → Holds kd s.heap c ks i → (∀ s', Moved (c :: wr) G s s' → Holds kd s'.heap c ks ks.length → R (.ok (.ret .none)) s') →
      codeAny (model prog w) A (.builtin "set.update.loop" ⟨[.ref c, .ref it], []⟩) R s := by
  have cw : c ∉ wr := fun z => hc (W.sub _ z)
  have up : ∀ b, b ∈ wr → b ∈ c :: wr := fun b z => List.mem_cons_of_mem c z
  intro left
  induction left with
  | zero =>
    intro i s hi st hs k
    obtain rfl : ks.length = i := by omega
    refine codeAny_builtin F.entry_set_update_loop ?_
    rw [Around.under_plainId F.plain_set_update_loop _]
    refine wpAny_bind (m := pyNext (.ref it)) (W.done s _ _ st fun s1 m1 => wpAny_pure (k s1 (m1.mono up) (hs.moved fun o e => m1.heap c o cw e)))
  | succ left ih =>
    intro i s hi st hs k
    have il : i < ks.length := by omega
    have ek : ks[i]? = some ks[i] := List.getElem?_eq_getElem il
    generalize ks[i] = key at ek
    refine codeAny_builtin F.entry_set_update_loop ?_
    rw [Around.under_plainId F.plain_set_update_loop _]
    refine wpAny_bind (m := pyNext (.ref it)) (W.item i s _ _ il st fun v s1 pv st1 m1 => ?_)
    obtain ⟨vk, vs⟩ := hv i v key pv ek
    have h1 : Holds kd s1.heap c ks i := hs.moved fun o e => m1.heap c o cw e
    refine wpAny_bind (m := holding [v] (setAdd c v)) (wpAny_holding ?_)
    unfold setAdd
    refine wpAny_holding (wpAny_bind (kd.pyHash (k := key) vk ?_))
    have ll : (diffs (ks.take i)).length + 1 < scanBound := by
      have a1 := diffs_le (ks.take i)
      have a2 := List.length_take_le i ks
      omega
    refine wpAny_setAddHashed_of (knd := kd) (s := { s1 with toks := s1.toks + 1 }) vk vs h1 ll fun h2 sb y => ?_
    have et : ks.take (i + 1) = ks.take i ++ [key] := by rw [List.take_add_one, ek]; rfl
    have h3 : Holds kd h2 c ks (i + 1) := by
      unfold Holds
      rw [et, diffs_snoc]
      refine setOf_eq y (funext fun z => ?_) ?_
      · unfold diff1
        by_cases q : key ∈ diffs (ks.take i)
        · rw [if_pos q]
          by_cases e : z = key
          · subst e; simp [q]
          · simp [e]
        · rw [if_neg q, Bool.eq_iff_iff]
          simp [Bool.or_eq_true, List.mem_cons, or_comm]
      · unfold diff1
        by_cases q : key ∈ diffs (ks.take i)
        · simp [q]
        · simp [q]
    refine wpAny_pure ⟨plainId_quiet F.plain_set_update_loop _, ih (i + 1) _ (by omega) (W.frame _ s1 _ _ st1 (Nat.le_succ _) fun b q o e => ?_) h3 fun s4 m4 h4 => k s4 (Moved.trans W.gtrans ((m1.mono up).then_heap (Nat.le_succ _) fun b o q e => ?_) m4) h4⟩
    · rw [sb.2 b fun z => hc (z ▸ q)]; exact e
    · rw [sb.2 b fun z => q (z ▸ List.mem_cons_self)]; exact e
end
section
variable {prog : Program} {w : World} {A : Around} {E : Value → Shared → Prop} {s : Shared} {T : Type} [DecidableEq T] {kd : KeyKind prog w T}
abbrev setO (led : Bool) : Obj := { cls := .type "set", dict := none, data := .set #[] 0 (.fresh 0 0 led) }
set_option maxHeartbeats 3200000 in
theorem set_call {l : Addr} {items : Array Value} {ks : List T} {Q : Value → Shared → Prop} (hh : A.handled = none) (hl : s.heap.IsList l items) (hk : items.size = ks.length)
    (hv : ∀ (i : Nat) (v : Value) (k : T), items[i]? = some v → ks[i]? = some k → kd.is k v = true ∧ v.scannable = true) (hb : ks.length + 1 < scanBound)
    (fin : ∀ (g : Heap) (tk : Nat), Holds kd g s.heap.objs.size ks ks.length → (∀ b o, b < s.heap.objs.size → s.heap.get? b = some o → g.get? b = some o) → Q (.ref s.heap.objs.size) { s with heap := g, toks := tk }) :
    wpAny (model prog w) A (call (.type "set") [.ref l]) Q E s := by
  obtain ⟨c0, t0, mro0⟩ := PySem.F.called_set.mro
  have q1 := PySem.F.called_set.made
  have q2 := PySem.F.called_set.sub
  have q3 := PySem.F.called_set.notType
  have q4 := PySem.F.called_set.canCreate
  have q5 := PySem.F.typeCall_set_1 (.ref l)
  refine wpAny_call (codeAny_of_tree ?_)
  show wpAny _ _ (callAny (.type "set") _) _ _ _
  refine wpAny_pure ⟨Code.quiet_builtin _ (by decide +kernel), codeAny_builtin PySem.F.entry_type_call ?_⟩
  rw [Around.under_plain (weight_type_call_type "set" [.ref l] []) rfl]
  repeat (any_goals (first | assumption | wp_step))
  refine codeAny_mono (code_set_new_1 (.ref l) (E := E) (Q₁ := fun v s1 => ∃ led : Bool, v = .ref s.heap.objs.size ∧ s1 = { s with heap := s.heap.push (setO led) }) fun led => ⟨led, rfl, rfl⟩) fun r s1 hr => ?_
  match r, hr with
  | .ok (.ret v), hr =>
    obtain ⟨led, rfl, rfl⟩ := hr
    have g0 : (s.heap.push (setO led)).get? s.heap.objs.size = some (setO led) := Heap.get?_push_size _ rfl
    have ty : Shared.TypeIs { s with heap := s.heap.push (setO led) } (.ref s.heap.objs.size) "set" := ⟨_, g0, rfl⟩
    have q6 := PySem.F.called_set.init.lookup
    have q7 := PySem.F.called_set.init.bind (.ref s.heap.objs.size)
    repeat (any_goals (first | assumption | wp_step))
    refine codeAny_mono (codeAny_call_builtin (R := wants (fun u s2 => u = .none ∧ ∃ g tk, s2 = { s with heap := g, toks := tk } ∧ Holds kd g s.heap.objs.size ks ks.length ∧ (∀ b o, b < s.heap.objs.size → s.heap.get? b = some o → g.get? b = some o)) E)
      PySem.F.called_set.init.plain PySem.F.entry_set_init (check_set_init_1 ty ?_)) fun r2 s2 hr2 => ?_
    · obtain ⟨⟨lc, ld, lda, lsl⟩, ol, e1, n0, e2⟩ := hl
      simp only at e1 e2
      subst e1 e2
      have ol1 : (s.heap.push (setO led)).get? l = some { cls := .type "list", dict := ld, data := .seq items n0, slots := lsl } := Heap.get?_push_of_some _ ol
      have l1 : (s.heap.push (setO led)).IsList l items := ⟨_, ol1, rfl, n0, rfl⟩
      have q8 := PySem.F.sub_list_set
      have q9 := PySem.F.sub_list_frozenset
      have q10 : (Value.type "list" == Value.type "dict") = false := by decide
      unfold Builtin.«set.__init__» noKeywords Builtin.Frozenset.updateFrom
      generalize hit : pyIter = PI
      wp_walk
      subst hit
      refine wpAny_pyIter_list l1 (wpAny_bind (wpAny_runValue ?_))
      have lt := Heap.lt_size ol
      have sz : (s.heap.push (setO led)).objs.size = s.heap.objs.size + 1 := Heap.size_push ..
      have nl : l ≠ (s.heap.push (setO led)).objs.size := by rw [sz]; exact Nat.ne_of_lt (Nat.lt_succ_of_lt lt)
      have nc : s.heap.objs.size ∉ [(s.heap.push (setO led)).objs.size, l] := by
        rw [sz]
        simp only [List.mem_cons, List.not_mem_nil, or_false, not_or]
        exact ⟨Nat.ne_of_lt (Nat.lt_succ_self _), Nat.ne_of_gt lt⟩
      have Wl := (Walks.list (prog := prog) (w := w) (A := A.in1.in1.in1) (by simp [hh]) _ l nl items).toS
      rw [hk] at Wl
      refine fill_loop (kd := kd) (ks := ks) Wl s.heap.objs.size nc hv hb ks.length 0 _ (by omega) ⟨⟨_, Heap.get?_push_size _ rfl, rfl, rfl⟩, l1.push _⟩ ?_ fun s3 m3 h3 => ?_
      · refine setOf_eq ((setObjOf_fresh (knd := kd) led).setOf (Heap.get?_push_of_some _ g0) (by unfold scanBound; omega)) (funext fun z => ?_) rfl
        simp [diffs]
      · obtain ⟨g, g1, d1, tk, o1⟩ := s3
        obtain rfl : g1 = s.gens := m3.gens
        obtain rfl : d1 = s.drawn := m3.drawn
        obtain rfl : o1 = s.os := m3.os
        refine wpAny_pure (wpAny_pure (show _ from ⟨rfl, g, tk, rfl, h3, fun b o lb e => m3.heap b o ?_ (Heap.get?_push_of_some _ (Heap.get?_push_of_some _ e))⟩))
        simp only [List.mem_cons, List.not_mem_nil, or_false, not_or]
        exact ⟨Nat.ne_of_lt lb, by rw [sz]; exact Nat.ne_of_lt (Nat.lt_succ_of_lt lb)⟩
    · match r2, hr2 with
      | .ok (.ret u), hr2 =>
        obtain ⟨rfl, g, tk, rfl, hg, kp⟩ := hr2
        repeat (any_goals (first | assumption | wp_step))
        exact fin g tk hg kp
      | .ok .next, hr2 => exact hr2.elim
      | .ok .brk, hr2 => exact hr2.elim
      | .ok .cont, hr2 => exact hr2.elim
      | .error e, hr2 => exact hr2
  | .ok .next, hr => exact hr.elim
  | .ok .brk, hr => exact hr.elim
  | .ok .cont, hr => exact hr.elim
  | .error e, hr => exact hr
end
/-- len(set(xs)), xs a list of texts -/
def tLenSetS (K : PySem.W.Frag) (ta : TE) : TE := fun σ H Q => ta σ H fun x H1 => ∃ l, ∃ xs : List Str, x = .ref l ∧ SqL K H1 l (xs.map V.str) ∧ xs.length + 1 < scanBound ∧ Q (.int (diffs xs).length) H1
theorem pe_lenSetS {X : Cx} {a : Expr} {ta : TE} {p p2 q pos : Pos} (hc : X.calm = true) (g1 : Gl X "len") (m1 : X.mg "len" = none) (g2 : Gl X "set") (m2 : X.mg "set" = none) (ha : PE X a ta)
    (na : starEach [a] X.env = (false, eval a X.env) :: starEach [] X.env := by rfl) : PE X (.Call (.Name "len" p) [.Call (.Name "set" p2) [a] [] q] [] pos) (tLenSetS X.K ta) := by
  refine ⟨fun pins s σ H Q I h => ?_⟩
  refine Call_ (ld_blt I g1 m1 boot_len (callWith_builtin1 (args_cons (Call_ (ld_blt I g2 m2 boot_set ?_)) rfl) rfl rfl))
  refine callWith_type1 (args_cons (thn (ha.run pins s σ H _ I h) fun v s1 ⟨x, H1, I1, r1, l, xs, ex, hq, hb, k⟩ => args_nil ?_) na) na rfl
  subst ex
  cases r1
  obtain ⟨its, rv, pl, _⟩ := I1.list hq
  have len : its.toArray.size = xs.length := by rw [List.size_toArray, ← rv.length, List.length_map]
  refine set_call (kd := PySem.strKind X.prog X.w) (ks := xs) (I1.ok.hd hc) pl.isList len (fun i u k e1 e2 => ?_) hb fun g tk hs kp => args_nil ?_
  · obtain ⟨u', e3, t, rfl⟩ := rv.get (i := i) (x := V.str k) (by rw [List.getElem?_map, e2]; rfl)
    have : u = .str k t := by
      have e4 : its[i]? = some u := by simpa using e1
      rw [e3] at e4
      exact (Option.some.inj e4).symm
    subst this
    exact ⟨strKind_is _ _ _ _, rfl⟩
  · have I2 : Inv X pins σ H1 { s1 with heap := g, toks := tk } := I1.kept fun b o e => kp b o (Heap.lt_size e) e
    unfold Holds at hs
    rw [List.take_length] at hs
    obtain ⟨o, es, ep, t, ho, hex, hd, _, _, lt, hf, hn⟩ := hs
    refine call_len_set ho hex hd hf (by unfold scanBound at lt; omega) ⟨.int (diffs xs).length, H1, I2.tok _, ⟨_, by rw [hn]⟩, k⟩
end NG

set_option maxRecDepth 100000
set_option maxHeartbeats 400000
namespace NW
open PySem L2 NG TR LamX
abbrev sWE : Stmt := top 22
structure TxtW (K : PySem.W.Frag) (mg : Str → Option Value) (fMay fWE fStood fBad fOwner fWN : Addr) : Prop where
  m_set : mg "set" = none
  g_may : mg "may_be_entered" = some (.ref fMay)
  kp_may : PySem.W.keepIn K (.ref fMay) = true
  g_we : mg "wrong_entries" = some (.ref fWE)
  kp_we : PySem.W.keepIn K (.ref fWE) = true
  g_stood : mg "stood_in" = some (.ref fStood)
  kp_stood : PySem.W.keepIn K (.ref fStood) = true
  g_bad : mg "bad_place" = some (.ref fBad)
  kp_bad : PySem.W.keepIn K (.ref fBad) = true
  g_is_owner : mg "is_owner" = some (.ref fOwner)
  kp_is_owner : PySem.W.keepIn K (.ref fOwner) = true
  g_wn : mg "wrong_node" = some (.ref fWN)
  kp_wn : PySem.W.keepIn K (.ref fWN) = true
theorem pool_names : ∀ z ∈ pool, nameZ z = true ∧ z.length ≤ 12 := by decide +kernel
/-- a folder's entries in the heap -/
def EntsO (K : PySem.W.Frag) (H : Hp) (E : Addr) (ps : List V) (es : List (Str × Nat)) : Prop := SqT K H E ps ∧ ps.length = es.length ∧ ∀ (k : Nat) (p : V) (e : Str × Nat), ps[k]? = some p → es[k]? = some e → EntO K H p e
theorem EntsO.same {K : PySem.W.Frag} {H H' : Hp} {E : Addr} {ps : List V} {es : List (Str × Nat)} (h : EntsO K H E ps es) (s : Same H H') : EntsO K H' E ps es :=
  ⟨Same.sqT s h.1, h.2.1, fun k p e a b => let ⟨x, y, z⟩ := h.2.2 k p e a b; ⟨x, y, Same.sqT s z⟩⟩
def vEs (es : List (Str × Nat)) : List (V × V) := es.map fun e => (V.str e.1, V.int (e.2 : Nat))
theorem EntsO.pairs {K : PySem.W.Frag} {H : Hp} {E : Addr} {ps : List V} {es : List (Str × Nat)} (h : EntsO K H E ps es) : ∀ (k : Nat) (x : V) (q : V × V), ps[k]? = some x → (vEs es)[k]? = some q → ∃ t, x = V.ref t ∧ SqT K H t [q.1, q.2] := fun k x q h1 h2 => by
  unfold vEs at h2
  rw [List.getElem?_map] at h2
  cases e : es[k]? with
  | none => rw [e] at h2; cases h2
  | some en =>
    rw [e] at h2
    cases Option.some.inj h2
    exact h.2.2 k x en h1 e
theorem vEs_get {es : List (Str × Nat)} {k : Nat} {q : V × V} (h : (vEs es)[k]? = some q) : ∃ e, es[k]? = some e ∧ e ∈ es ∧ q = (V.str e.1, V.int (e.2 : Nat)) := by
  unfold vEs at h
  rw [List.getElem?_map] at h
  cases e : es[k]? with
  | none => rw [e] at h; cases h
  | some en => rw [e] at h; exact ⟨en, rfl, List.mem_of_getElem? e, (Option.some.inj h).symm⟩
theorem vEs_len (es : List (Str × Nat)) : (vEs es).length = es.length := List.length_map _
/-- the made nodes of a well formed list -/
structure Trees (K : PySem.W.Frag) (cs : Nat → Addr) (H : Hp) (T : Addr) (qs : List Addr) (nds : List Nd) : Prop where
  ob : ObjsAt K cs H T qs nds
  wf : WF LinkText PL nds
theorem Trees.same {K : PySem.W.Frag} {cs : Nat → Addr} {H H' : Hp} {T : Addr} {qs : List Addr} {nds : List Nd} (h : Trees K cs H T qs nds) (s : Same H H') : Trees K cs H' T qs nds := ⟨h.ob.same s, h.wf⟩
theorem Trees.at_ {K : PySem.W.Frag} {cs : Nat → Addr} {H : Hp} {T : Addr} {qs : List Addr} {nds : List Nd} (h : Trees K cs H T qs nds) {i : Nat} {nd : Nd} (e : nds[i]? = some nd) : ∃ q, qs[i]? = some q ∧ (qs.map V.ref)[i]? = some (.ref q) ∧ ObjAt K cs H q nd := by
  have hl : i < qs.length := by rw [h.ob.len]; exact (List.getElem?_eq_some_iff.mp e).1
  have hq : qs[i]? = some qs[i] := List.getElem?_eq_getElem hl
  exact ⟨_, hq, by rw [List.getElem?_map, hq]; rfl, h.ob.nds i _ nd hq e⟩
def spWE (K : PySem.W.Frag) (cs : Nat → Addr) : Sp := fun vs H Q _ => ∃ (T E : Addr) (qs : List Addr) (nds : List Nd) (i : Nat) (o : Int) (es : List (Str × Nat)) (ps : List V), vs = [.ref T, .ref E] ∧ Trees K cs H T qs nds ∧ nds[i]? = some (.fol o es) ∧ EntsO K H E ps es ∧ ∀ H', Same H H' → Q .non H'
section
variable {P : Program} {w : World} {K : PySem.W.Frag} {mg : Str → Option Value} {base : Heap} {fName fStep fBy fNum fAt fDigit fPool fMay fWE fStood fBad fOwner fWN : Addr} {cs : Nat → Addr}
theorem scWE : FnScope ["nodes", "entries", "names", "name", "_", "node"] ["nodes", "entries"] (defScope sWE) := ⟨rfl, rfl, rfl, by decide +kernel, rfl, by decide +kernel, by decide +kernel⟩
theorem ok_we {fd fdN fdM : FuncData} (F : Fun K "wrong_entries" "wrong_entries" sWE fWE fd) (T : TxtK K mg fNum fAt fDigit fPool) (TS : TxtS K mg fBy) (TN : TxtN K mg fName fStep) (TW : TxtW K mg fMay fWE fStood fBad fOwner fWN)
    (GN : FnOk P w K mg base CX0 1 fName fdN ["value"] spName) (bN : Binds K fdN ["value"] []) (GM : FnOk P w K mg base CX0 3 fMay fdM ["nodes", "number"] (spMay K cs)) (bM : Binds K fdM ["nodes", "number"] []) :
    FnOk P w K mg base CX0 4 fWE fd ["nodes", "entries"] (spWE K cs) := by
  have nd := scWE.nd
  refine F.ok scWE (fun vs H Q E h => ?_) (fun cdv A outer s H vs Q E hr h => ?_)
  · obtain ⟨T, E, qs, nds, i, o, es, ps, rfl, _⟩ := h
    rfl
  · obtain ⟨N, E, qs, nds, i, o, es, ps, rfl, TR, hi, hE, k⟩ := h
    have hr3 : Room 3 _ := hr
    have hr1 : Room 1 _ := hr.mono (by decide)
    have W := TR.wf
    have le12 : es.length ≤ 12 := (W.base.uniq i _ hi).2
    have hs : sizeLine = 16777216 := sizeLine_eq
    refine ⟨_, (pss_cons (ps_setLc (i := 2) (own := [("name", 3), ("_", 4)]) (g := gTup K 2 (gCons (gName 3) (gCons (gName 4) gNil))) rfl nd rfl rfl (sw_true rfl rfl rfl (by decide +kernel)) (pi_tup (pv 1)) (blkOk_by (N := ["nodes", "entries", "names", "name", "_", "node"]) (sc := defScope sWE) (by decide +kernel)) (fun _ _ _ _ _ => (pg_tup (by rfl) (pgs_cons (pg_name (i := 3) nd rfl (Or.inl rfl)) (pgs_cons (pg_name (i := 4) nd rfl (Or.inl rfl)) pgs_nil)))) (fun _ _ _ _ _ => pts_nil) (fun _ _ _ _ _ => (pv 3)))
  (pss_cons (ps_if (pt_not (pt_val (pe_callB (cr_all rfl) (by rfl) TS.m_all (by decide +kernel) (pa_cons (pe_lc (own := [("name", 3)]) rfl nd (pi_list (pv 2)) (blkOk_by (N := ["nodes", "entries", "names", "name", "_", "node"]) (sc := defScope sWE) (by decide +kernel)) (fun _ _ _ _ _ => (pg_name (i := 3) nd rfl (Or.inl rfl))) (fun _ _ _ _ _ => pts_nil) (fun _ _ _ _ _ => (pe_call GN hr1 (by rfl) TN.g_is_name TN.kp_is_name bN .nil pass0 (pa_cons (pv 3) pa_nil)))) pa_nil)))) (pss_one (ps_ret pe_str)) pss_nil)
  (pss_cons (ps_if (pt_cmpR op_lt (pe_lenSetS rfl (by rfl) T.m_len (by rfl) TW.m_set (pv 2)) (pe_callB call_len_seq (by rfl) T.m_len (by decide +kernel) (pa_cons (pv 2) pa_nil)) (nomark _)) (pss_one (ps_ret pe_str)) pss_nil)
  (pss_cons (ps_if (pt_not (pt_val (pe_callB (cr_all rfl) (by rfl) TS.m_all (by decide +kernel) (pa_cons (pe_lc (own := [("_", 4), ("node", 5)]) (g := gTup K 2 (gCons (gName 4) (gCons (gName 5) gNil))) rfl nd (pi_tup (pv 1)) (blkOk_by (N := ["nodes", "entries", "names", "name", "_", "node"]) (sc := defScope sWE) (by decide +kernel)) (fun _ _ _ _ _ => (pg_tup (by rfl) (pgs_cons (pg_name (i := 4) nd rfl (Or.inl rfl)) (pgs_cons (pg_name (i := 5) nd rfl (Or.inl rfl)) pgs_nil)))) (fun _ _ _ _ _ => pts_nil) (fun _ _ _ _ _ => (pe_call GM hr3 (by rfl) TW.g_may TW.kp_may bM .nil pass0 (pa_cons (pv 0) (pa_cons (pv 5) pa_nil))))) pa_nil)))) (pss_one (ps_ret pe_str)) pss_nil)
  (pss_one (ps_ret pe_non)))))), ?_⟩
    refine ⟨_, rfl, E, rfl, ⟨_, hE.1⟩, fun D hD => ?_⟩
    refine lc_pair (K := K) (walk_tup (K := K) (a := E)) (i := 3) (j := 4) (by decide) (vEs es) (by rw [vEs_len, hE.2.1]) (fun _ => true) (fun v => v.1) hE.pairs (by rw [hE.2.1]; omega) hD (fun H' s => Same.sqT s hE.1) (fun i v H' R _ s hR => hR _ (Same.refl _)) (fun i v H' R h _ s hR => ⟨_, rfl, hR _ (Same.refl _)⟩) (fun H1 s1 e1 => ?_)
    have e1' : H1 D = some (.lst ((es.map (·.1)).map V.str)) := by
      rw [e1, List.filter_eq_self.mpr (fun _ _ => rfl), List.map_map]
      unfold vEs
      rw [List.map_map]
      rfl
    have nm : ∀ z ∈ es.map (·.1), nameZ z = true ∧ z.length ≤ 12 := fun z hz => by
      obtain ⟨e, he, rfl⟩ := List.mem_map.mp hz
      exact pool_names _ (W.base.ent i _ hi e he).1
    refine ⟨_, rfl, D, rfl, ⟨_, SqL.of e1'⟩, fun D2 hD2 => ?_⟩
    refine lc_map (walk_list (K := K) (a := D)) (fun _ => V.bl true) (by rw [List.length_map, List.length_map]; omega) hD2 (fun H' s => SqL.of (s _ _ e1')) (fun k x H' R hk s hR => ?_) (fun H2 s2 e2 => ?_)
    · rw [List.getElem?_map] at hk
      cases e : (es.map (·.1))[k]? with
      | none => rw [e] at hk; cases hk
      | some z =>
        rw [e] at hk
        cases Option.some.inj hk
        obtain ⟨h1, h2⟩ := nm z (List.mem_of_getElem? e)
        refine ⟨_, rfl, z, rfl, by omega, fun H' s' => ?_⟩
        rw [h1]
        exact hR H' s'
    · have e2' : H2 D2 = some (.lst ((es.map fun _ => true).map V.bl)) := by
        rw [e2, List.map_map, List.map_map, List.map_map]
        rfl
      have all1 : (es.map fun _ => true).all id = true := by rw [List.all_map, List.all_eq_true]; exact fun _ _ => rfl
      refine ⟨D2, _, rfl, SqL.of e2', _, rfl, ?_⟩
      rw [all1]
      refine iteF ?_
      have e3 : H2 D = some (.lst ((es.map (·.1)).map V.str)) := s2 _ _ e1'
      have hnd : (es.map (·.1)).Nodup := (W.base.uniq i _ hi).1
      refine ⟨_, rfl, D, es.map (·.1), rfl, SqL.of e3, by rw [List.length_map]; unfold scanBound; omega, _, rfl, D, _, rfl, .inl (SqL.of e3), _, _, rfl, rfl, _, rfl, ?_⟩
      have dn : (diffs (es.map (·.1))).length = es.length := by rw [diffs_nodup hnd, List.length_map]
      have lt0 : decide (((diffs (es.map (·.1))).length : Int) < (((es.map (·.1)).map V.str).length : Nat)) = false := by
        rw [dn, List.length_map, List.length_map]
        simp
      rw [lt0]
      refine iteF ?_
      have hE3 := hE.same (s1.trans s2)
      have TR3 := TR.same (s1.trans s2)
      refine ⟨_, rfl, E, rfl, ⟨_, hE3.1⟩, fun D3 hD3 => ?_⟩
      refine lc_pair (K := K) (walk_tup (K := K) (a := E)) (i := 4) (j := 5) (by decide) (vEs es) (by rw [vEs_len, hE.2.1]) (fun _ => true) (fun _ => V.bl true) hE3.pairs (by rw [hE.2.1]; omega) hD3 (fun H' s => Same.sqT s hE3.1) (fun i v H' R _ s hR => hR _ (Same.refl _)) (fun j v H' R h _ s hR => ?_) (fun H4 s4 e4 => ?_)
      · obtain ⟨e, _, he, rfl⟩ := vEs_get h
        obtain ⟨_, h1, nd', h2, h3⟩ := W.base.ent i _ hi e he
        have TR' := TR3.same s
        obtain ⟨q, hq, hq', hO⟩ := TR'.at_ h2
        obtain ⟨dx, fs, hins, _⟩ := obj_ins hO
        have c3 : clsI nd' ≠ 3 := by
          cases nd' with
          | fol _ _ => exact (by decide : (0 : Nat) ≠ 3)
          | fil _ => exact (by decide : (1 : Nat) ≠ 3)
          | lnk _ _ => exact (by decide : (2 : Nat) ≠ 3)
          | gon _ _ => cases h3
        exact ⟨_, rfl, _, rfl, N, qs.map V.ref, e.2, q, clsI nd', dx, fs, rfl, TR'.ob.ls, hq', clsI_lt nd', hins, by omega, c3, fun H' s' => hR H' s'⟩
      · have e4' : H4 D3 = some (.lst ((es.map fun _ => true).map V.bl)) := by
          rw [e4, List.filter_eq_self.mpr (fun _ _ => rfl)]
          unfold vEs
          rw [List.map_map, List.map_map]
          rfl
        refine ⟨D3, _, rfl, SqL.of e4', _, rfl, ?_⟩
        rw [all1]
        exact iteF (k _ (s1.trans (s2.trans s4)))
end
end NW

set_option maxRecDepth 100000
set_option maxHeartbeats 400000
namespace NW
open PySem L2 NG TR LamX
abbrev sWN : Stmt := top 21
theorem linkText_ok {z : Str} (h : LinkText z) : z.length + 2 ≤ sizeLine ∧ (∀ p ∈ partsOf z, p.length ≤ sizeLine) ∧ badP z = none := by
  obtain ⟨qs, hne, ok, hl, rfl, hz⟩ := h
  have PA := parts_are hne (fun p hp => (ok p hp).1) (by omega)
  refine ⟨PA.zl, fun p hp => ?_, ?_⟩
  · rw [PA.sp] at hp
    exact (PA.ok p hp).1
  · unfold badP
    rw [if_neg hz, PA.sp]
    exact goBad_of fun p hp => (ok p hp).2
theorem clsI_fol {nd : Nd} (h : clsI nd = 0) : ∃ o es, nd = .fol o es := by
  cases nd with
  | fol o es => exact ⟨o, es, rfl⟩
  | _ => cases h
def spWN (K : PySem.W.Frag) (cs : Nat → Addr) : Sp := fun vs H Q _ => ∃ (T : Addr) (qs : List Addr) (nds : List Nd) (i : Nat), vs = [.ref T, .int (i : Nat)] ∧ Trees K cs H T qs nds ∧ i < nds.length ∧ ∀ H', Same H H' → Q .non H'
section
variable {P : Program} {w : World} {K : PySem.W.Frag} {mg : Str → Option Value} {base : Heap} {fName fStep fBy fNum fAt fDigit fPool fMay fWE fStood fBad fOwner fWN : Addr} {cs : Nat → Addr}
theorem scWN : FnScope ["nodes", "number", "node"] ["nodes", "number"] (defScope sWN) := ⟨rfl, rfl, rfl, by decide +kernel, rfl, by decide +kernel, by decide +kernel⟩
theorem ok_wn {fd fdO fdW fdB fdS : FuncData} (F : Fun K "wrong_node" "wrong_node" sWN fWN fd) (T : TxtK K mg fNum fAt fDigit fPool) (TG : TxtG K mg cs) (TW : TxtW K mg fMay fWE fStood fBad fOwner fWN)
    (GO : FnOk P w K mg base CX0 2 fOwner fdO ["value"] spOwner) (bO : Binds K fdO ["value"] []) (GW : FnOk P w K mg base CX0 4 fWE fdW ["nodes", "entries"] (spWE K cs)) (bW : Binds K fdW ["nodes", "entries"] [])
    (GB : FnOk P w K mg base CX0 3 fBad fdB ["text"] (spBad K)) (bB : Binds K fdB ["text"] []) (GS : FnOk P w K mg base CX0 3 fStood fdS ["nodes", "number", "last"] (spStood K cs)) (bS : Binds K fdS ["nodes", "number", "last"] []) :
    FnOk P w K mg base CX0 5 fWN fd ["nodes", "number"] (spWN K cs) := by
  have nd := scWN.nd
  refine F.ok scWN (fun vs H Q E h => ?_) (fun cdv A outer s H vs Q E hr h => ?_)
  · obtain ⟨T, qs, nds, i, rfl, _⟩ := h
    rfl
  · obtain ⟨N, qs, nds, i, rfl, TR, hi, k⟩ := h
    have hr4 : Room 4 _ := hr
    have hr3 : Room 3 _ := hr.mono (by decide)
    have hr2 : Room 2 _ := hr.mono (by decide)
    have W := TR.wf
    have hn : nds[i]? = some nds[i] := List.getElem?_eq_getElem hi
    generalize nds[i] = x at hn
    refine ⟨_, (pss_cons (ps_set (i := 2) nd rfl (Or.inl rfl) (pe_ix ix_tup (pv 0) (pv 1) (fun _ _ => rfl)))
  (pss_cons (ps_if (PW.pt (pw_or (pt_not (pt_val (pe_callB call_isiT (by rfl) T.m_isinstance (by decide +kernel) (pa_cons (pv 2) (pa_cons (pe_tup (pa_cons (pe_glob (v := .ref (cs 0)) (by rfl) TG.m_Folder rfl) (pa_cons (pe_glob (v := .ref (cs 1)) (by rfl) TG.m_File rfl) (pa_cons (pe_glob (v := .ref (cs 2)) (by rfl) TG.m_Link rfl) (pa_cons (pe_glob (v := .ref (cs 3)) (by rfl) TG.m_Gone rfl) pa_nil))))) pa_nil))))) (pw_or1 (pt_not (pt_val (pe_call GO hr2 (by rfl) TW.g_is_owner TW.kp_is_owner bO .nil pass0 (pa_cons (pe_fld (pv 2) rfl) pa_nil))))))) (pss_one (ps_ret pe_str)) pss_nil)
  (pss_cons (ps_if (pt_val (pe_callB call_isi (by rfl) T.m_isinstance (by decide +kernel) (pa_cons (pv 2) (pa_cons (pe_glob (v := .ref (cs 0)) (by rfl) TG.m_Folder rfl) pa_nil)))) (pss_one (ps_ret (pe_call GW hr4 (by rfl) TW.g_we TW.kp_we bW .nil pass0 (pa_cons (pv 0) (pa_cons (pe_fld (pv 2) rfl) pa_nil))))) pss_nil)
  (pss_cons (ps_if (PW.pt (pw_and (pt_val (pe_callB call_isi (by rfl) T.m_isinstance (by decide +kernel) (pa_cons (pv 2) (pa_cons (pe_glob (v := .ref (cs 2)) (by rfl) TG.m_Link rfl) pa_nil)))) (pw_and1 (pt_cmp (pc_notN (pe_call GB hr3 (by rfl) TW.g_bad TW.kp_bad bB .nil pass0 (pa_cons (pe_fld (pv 2) rfl) pa_nil))))))) (pss_one (ps_ret pe_str)) pss_nil)
  (pss_cons (ps_if (PW.pt (pw_and (pt_val (pe_callB call_isi (by rfl) T.m_isinstance (by decide +kernel) (pa_cons (pv 2) (pa_cons (pe_glob (v := .ref (cs 3)) (by rfl) TG.m_Gone rfl) pa_nil)))) (pw_and1 (pt_not (pt_val (pe_call GS hr3 (by rfl) TW.g_stood TW.kp_stood bS .nil pass0 (pa_cons (pv 0) (pa_cons (pv 1) (pa_cons (pe_fld (pv 2) rfl) pa_nil))))))))) (pss_one (ps_ret pe_str)) pss_nil)
  (pss_one (ps_ret pe_non))))))), ?_⟩
    obtain ⟨q, hq, hqr, hO⟩ := TR.at_ hn
    obtain ⟨dx, fs, hins, hown⟩ := obj_ins hO
    have ci := clsI_lt x
    have ty := TG.ty _ ci
    refine ⟨_, rfl, _, rfl, N, _, _, _, rfl, rfl, TR.ob.ls, atI_nat hqr, ?_⟩
    refine ⟨_, rfl, (by show 4 ≤ sizeLine; decide), fun tp htp => ?_⟩
    have sp := NG.Same.upd (o := HO.tup [V.ref (cs 0), V.ref (cs 1), V.ref (cs 2), V.ref (cs 3)]) htp
    have etp : (upd H tp (HO.tup [V.ref (cs 0), V.ref (cs 1), V.ref (cs 2), V.ref (cs 3)])) tp = some (.tup [V.ref (cs 0), V.ref (cs 1), V.ref (cs 2), V.ref (cs 3)]) := upd_same
    have TR1 := TR.same sp
    have k1 : ∀ H', Same (upd H tp (HO.tup [V.ref (cs 0), V.ref (cs 1), V.ref (cs 2), V.ref (cs 3)])) H' → Q .non H' := fun H' s => k H' (sp.trans s)
    have hins1 := sp _ _ hins
    have hO1 := hO.same sp
    generalize upd H tp (HO.tup [V.ref (cs 0), V.ref (cs 1), V.ref (cs 2), V.ref (cs 3)]) = H1 at etp TR1 k1 hins1 hO1 ⊢
    have tyx : TyX K H1 (.ref q) (.ref (cs (clsI x))) := .base (.ins hins1 (TG.cl _ ci) ty.c1 ty.c2 ty.c3 ty.c4)
    refine ⟨_, tp, _, .ref (cs (clsI x)), [.ref (cs 0), .ref (cs 1), .ref (cs 2), .ref (cs 3)], true, rfl, etp, .cons (.own _) (.cons (.own _) (.cons (.own _) (.cons (.own _) .nil))), tyx, ?_, _, rfl, ?_⟩
    · have e := kitAny_of TG ci [0, 1, 2, 3] (by simp)
      have e4 : ([0, 1, 2, 3] : List Nat).contains (clsI x) = true := by cases x <;> rfl
      rw [e4] at e
      exact e
    refine iteF ⟨_, rfl, q, _, _, _, _, rfl, hins1, TG.cl _ ci, TG.nO _ ci, hown, x.owner, rfl, _, rfl, ?_⟩
    have ow : decide (0 ≤ x.owner) = true := decide_eq_true (W.base.own i _ hn)
    rw [ow]
    refine iteF ?_
    -- a folder
    refine ⟨_, rfl, _, _, _, _, decide (clsI x = 0), rfl, .own (cs 0), tyx, TG.kit _ 0 ci (by decide), _, rfl, ?_⟩
    have isI : ∀ j, j < 4 → PySem.W.kitOne K (.ref (cs (clsI x))) (.ref (cs j)) = some (decide (clsI x = j)) := fun j hj => TG.kit _ j ci hj
    cases x with
    | fol o es =>
      rw [show decide (clsI (Nd.fol o es) = 0) = true from rfl]
      obtain ⟨dx', Ea, ps, h1, h2, h3, h4⟩ := hO1
      refine iteT ⟨_, rfl, _, rfl, q, cs 0, dx', _, _, rfl, h1, TG.cl 0 (by decide), TG.nE, (by unfold ffl; rw [lookup_putF, if_pos rfl]), N, Ea, qs, nds, i, o, es, ps, rfl, TR1, hn, ⟨h2.sqT, h3, h4⟩, k1⟩
    | fil o =>
      rw [show decide (clsI (Nd.fil o) = 0) = false from rfl]
      refine iteF ⟨_, rfl, _, _, _, _, false, rfl, .own (cs 2), tyx, isI 2 (by decide), _, rfl, ?_⟩
      refine iteF (iteF ⟨_, rfl, _, _, _, _, false, rfl, .own (cs 3), tyx, isI 3 (by decide), _, rfl, ?_⟩)
      exact iteF (iteF (k1 _ (Same.refl _)))
    | lnk o z =>
      rw [show decide (clsI (Nd.lnk o z) = 0) = false from rfl]
      refine iteF ⟨_, rfl, _, _, _, _, true, rfl, .own (cs 2), tyx, isI 2 (by decide), _, rfl, ?_⟩
      obtain ⟨dx', h1⟩ := hO1
      obtain ⟨z1, z2, z3⟩ := linkText_ok (W.base.lnk i o z hn)
      refine iteT ⟨_, rfl, q, cs 2, dx', _, _, rfl, h1, TG.cl 2 (by decide), TG.nT, (by unfold fl2; rw [lookup_putF, if_pos rfl]), .inr ⟨z, rfl, z1, z2, fun n e => (by rw [z3] at e; cases e), fun _ H2 s2 => ?_⟩⟩
      have tyx2 : TyX K H2 (.ref q) (.ref (cs 2)) := .base (.ins (s2 _ _ hins1) (TG.cl 2 (by decide)) (TG.ty 2 (by decide)).c1 (TG.ty 2 (by decide)).c2 (TG.ty 2 (by decide)).c3 (TG.ty 2 (by decide)).c4)
      refine ⟨_, rfl, iteF ⟨_, rfl, _, _, _, _, false, rfl, .own (cs 3), tyx2, isI 3 (by decide), _, rfl, ?_⟩⟩
      exact iteF (iteF (k1 _ s2))
    | gon o ab =>
      rw [show decide (clsI (Nd.gon o ab) = 0) = false from rfl]
      refine iteF ⟨_, rfl, _, _, _, _, false, rfl, .own (cs 2), tyx, isI 2 (by decide), _, rfl, ?_⟩
      refine iteF (iteF ⟨_, rfl, _, _, _, _, true, rfl, .own (cs 3), tyx, isI 3 (by decide), _, rfl, ?_⟩)
      obtain ⟨dx', h1⟩ := hO1
      obtain ⟨ha, o', es, hab⟩ := W.base.gon i o ab hn
      obtain ⟨q2, hq2, hq2r, hO2⟩ := TR1.at_ hab
      obtain ⟨dx2, E2, ps2, h2, _⟩ := hO2
      refine iteT ⟨_, rfl, _, rfl, _, rfl, q, cs 3, dx', _, _, rfl, h1, TG.cl 3 (by decide), TG.nA, (by unfold fl2; rw [lookup_putF, if_pos rfl]), N, _, i, ab, q2, dx2, _, rfl, TR1.ob.ls, hq2r, h2, by omega, fun H2 s2 => ⟨_, rfl, iteF (k1 _ s2)⟩⟩
end
end NW

set_option maxRecDepth 100000
set_option maxHeartbeats 400000
/-! statements that are not come to; xs[i] += e -/
namespace NG
open PySem PyProof.Rows L2
section
variable {X : Cx}
theorem pss_dead {ss : List Stmt} : PSs X ss (fun _ _ _ => False) := ⟨fun _ _ _ _ _ _ h => h.elim⟩
theorem ps_dead {st : Stmt} : PS X st (fun _ _ _ => False) := ⟨fun _ _ _ _ _ _ h => h.elim⟩
def rGetN (K : PySem.W.Frag) : V → V → Hp → VK → Prop := fun o i H Q => ∃ (p : Addr) (xs : List V) (k : Nat) (v : V), o = .ref p ∧ i = .int (k : Nat) ∧ SqL K H p xs ∧ xs[k]? = some v ∧ Q v H
theorem get_listN : PGet X (rGetN X.K) := by
  intro pins s σ H o i ov iv Q I ro ri h
  obtain ⟨p, xs, k, v, rfl, rfl, hs, hv, q⟩ := h
  cases ro
  obtain ⟨t, rfl⟩ := ri
  obtain ⟨its, r, pl, hz⟩ := I.list hs
  obtain ⟨u, hu, ru⟩ := r.get hv
  have hk := (List.getElem?_eq_some_iff.mp hv).1
  have hn := line63
  exact wpAny_getItem_list pl.isList (by omega) (by omega) (by simpa using hu) ⟨v, H, I, ru, q⟩
end
end NG

set_option maxRecDepth 100000
set_option maxHeartbeats 400000
namespace NW
open PySem L2 NG TR LamX
abbrev sET : Stmt := top 27
/-- numbers by place -/
def tally (n : Nat) (f : Nat → Nat) : List V := (List.range n).map fun k => V.int (f k : Nat)
theorem tally_len (n : Nat) (f : Nat → Nat) : (tally n f).length = n := by unfold tally; rw [List.length_map, List.length_range]
theorem tally_get {n k : Nat} (f : Nat → Nat) (h : k < n) : (tally n f)[k]? = some (V.int (f k : Nat)) := by
  unfold tally
  rw [List.getElem?_map, List.getElem?_range h]
  rfl
theorem tally_set {n k : Nat} (f : Nat → Nat) (h : k < n) : (tally n f).set k (V.int ((f k : Nat) + 1)) = tally n fun j => f j + if k = j then 1 else 0 := by
  apply List.ext_getElem?
  intro j
  by_cases hj : j < n
  · rw [tally_get _ hj]
    by_cases e : k = j
    · subst e
      rw [List.getElem?_set_self (by rw [tally_len]; exact h), if_pos rfl]
      rfl
    · rw [List.getElem?_set_ne e, tally_get _ hj, if_neg e]
      rfl
  · rw [List.getElem?_eq_none (by rw [List.length_set, tally_len]; omega), List.getElem?_eq_none (by rw [tally_len]; omega)]
theorem cntE_take {es : List (Str × Nat)} {k : Nat} {e : Str × Nat} (h : es[k]? = some e) (j : Nat) : cntE (es.take (k + 1)) j = cntE (es.take k) j + if e.2 = j then 1 else 0 := by
  rw [NG.take_succ h, cntE_app]
  congr 1
  exact cntE_one e.1 e.2 j
theorem cnt_take {nds : List Nd} {k : Nat} {x : Nd} (h : nds[k]? = some x) (j : Nat) : cnt (nds.take (k + 1)) j = cnt (nds.take k) j + cntE x.ents j := by
  rw [NG.take_succ h, cnt_app, cnt_cons, cnt_nil]
  omega
/-- all but D -/
def ButD (D : Addr) (H H' : Hp) : Prop := ∀ b o, H b = some o → b ≠ D → H' b = some o
def spET (K : PySem.W.Frag) (cs : Nat → Addr) : Sp := fun vs H Q _ => ∃ (T : Addr) (qs : List Addr) (nds : List Nd), vs = [.ref T] ∧ Trees K cs H T qs nds ∧ nds.length ≤ 1000 ∧ ∀ H' D, Same H H' → H' D = some (.lst (tally nds.length (cnt nds))) → Q (.ref D) H'
section
variable {P : Program} {w : World} {K : PySem.W.Frag} {mg : Str → Option Value} {base : Heap} {fNum fAt fDigit fPool fET : Addr} {cs : Nat → Addr}
theorem scET : FnScope ["nodes", "times", "node", "_", "number"] ["nodes"] (defScope sET) := ⟨rfl, rfl, rfl, by decide +kernel, rfl, by decide +kernel, by decide +kernel⟩
theorem ok_et {fd : FuncData} (F : Fun K "entered_times" "entered_times" sET fET fd) (T : TxtK K mg fNum fAt fDigit fPool) (TG : TxtG K mg cs) : FnOk P w K mg base CX0 1 fET fd ["nodes"] (spET K cs) := by
  have nd := scET.nd
  refine F.ok scET (fun vs H Q E h => ?_) (fun cdv A outer s H vs Q E hr h => ?_)
  · obtain ⟨T, qs, nds, rfl, _⟩ := h
    rfl
  · obtain ⟨N, qs, nds, rfl, TR, hl, k⟩ := h
    have W := TR.wf
    have hs : sizeLine = 16777216 := sizeLine_eq
    refine ⟨_, (pss_cons (ps_set (i := 1) nd rfl (Or.inl rfl) (pe_op op_rep (pe_lst (pa_cons pe_int pa_nil)) (pe_callB call_len_seq (by rfl) T.m_len (by decide +kernel) (pa_cons (pv 0) pa_nil))))
  (pss_cons (ps_for PassesOwn.never rfl (pi_tup (pv 0)) (pg_name (i := 2) nd rfl (Or.inl rfl))
  (pss_one (ps_if (pt_val (pe_callB call_isi (by rfl) T.m_isinstance (by decide +kernel) (pa_cons (pv 2) (pa_cons (pe_glob (v := .ref (cs 0)) (by rfl) TG.m_Folder rfl) pa_nil)))) (pss_one (ps_for PassesOwn.never rfl (pi_tup (pe_fld (pv 2) rfl)) (pg_tup (by rfl) (pgs_cons (pg_name (i := 3) nd rfl (Or.inl rfl)) (pgs_cons (pg_name (i := 4) nd rfl (Or.inl rfl)) pgs_nil)))
  (pss_one (ps_augS (pv 1) (pv 4) get_listN pe_int ip_add set_list)))) pss_nil)))
  (pss_one (ps_ret (pv 1))))), ?_⟩
    refine ⟨(by show 1 ≤ sizeLine; decide), fun L hL => ⟨_, rfl, N, _, rfl, .inr (Same.sqT (NG.Same.upd hL) TR.ob.ls), ?_⟩⟩
    have lq : (qs.map V.ref).length = nds.length := by rw [List.length_map, TR.ob.len]
    rw [lq]
    have sL := NG.Same.upd (o := HO.lst [V.int 0]) hL
    have eL : (upd H L (HO.lst [V.int 0])) L = some (.lst [V.int 0]) := upd_same
    generalize upd H L (HO.lst [V.int 0]) = H0 at sL eL ⊢
    refine ⟨L, _, _, rfl, rfl, eL, by omega, by omega, by simp only [List.length_singleton]; omega, fun D hD => ?_⟩
    have e0 : (List.replicate (nds.length : Int).toNat [V.int 0]).flatten = tally nds.length (cnt (nds.take 0)) := by
      have : ∀ n : Nat, (List.replicate n [V.int 0]).flatten = List.replicate n (V.int 0) := fun n => by
        induction n with
        | zero => rfl
        | succ n ih => rw [List.replicate_succ, List.flatten_cons, ih, List.replicate_succ]; rfl
      rw [this]
      unfold tally
      rw [List.take_zero]
      show _ = (List.range nds.length).map fun _ => V.int 0
      rw [List.map_const', List.length_range]
      rfl
    rw [e0]
    have s1 : Same H (upd H0 D (.lst (tally nds.length (cnt (nds.take 0))))) := sL.trans (NG.Same.upd hD)
    have fD : H D = none := by
      cases e : H D with
      | none => rfl
      | some u => have := sL _ _ e; rw [hD] at this; cases this
    refine ⟨_, rfl, N, rfl, ⟨_, Same.sqT s1 TR.ob.ls⟩, for_tup (K := K) (a := N) (xs := qs.map V.ref) (fun i σ H' => (∃ v2 v3 v4 : Option V, σ = [some (.ref N), some (.ref D), v2, v3, v4]) ∧ Same H H' ∧ H' D = some (.lst (tally nds.length (cnt (nds.take i)))))
      ⟨⟨none, none, none, rfl⟩, s1, upd_same⟩ (fun i σ H' _ h => Same.sqT h.2.1 TR.ob.ls) ?_ ?_⟩
    · rintro i x σ H2 hx ⟨⟨v2, v3, v4, rfl⟩, s2, e2⟩
      have hi : i < nds.length := by rw [← lq]; exact (List.getElem?_eq_some_iff.mp hx).1
      have hn : nds[i]? = some nds[i] := List.getElem?_eq_getElem hi
      generalize nds[i] = y at hn
      have TR2 := TR.same s2
      obtain ⟨q, hq, hqr, hO⟩ := TR2.at_ hn
      have : x = .ref q := by rw [hqr] at hx; exact (Option.some.inj hx).symm
      subst this
      obtain ⟨dx, fs, hins, _⟩ := obj_ins hO
      have ci := clsI_lt y
      have ty := TG.ty _ ci
      refine ⟨_, rfl, _, _, _, _, decide (clsI y = 0), rfl, .own (cs 0), .base (.ins hins (TG.cl _ ci) ty.c1 ty.c2 ty.c3 ty.c4), TG.kit _ 0 ci (by decide), _, rfl, ?_⟩
      by_cases hf : clsI y = 0
      · obtain ⟨o, es, rfl⟩ := clsI_fol hf
        rw [decide_eq_true hf]
        obtain ⟨dx', Ea, ps, h1, h2p, h3, h4⟩ := hO
        have h2 : SqT K _ Ea ps := h2p.sqT
        have le12 : es.length ≤ 12 := (W.base.uniq i _ hn).2
        refine iteT ⟨_, rfl, q, cs 0, dx', _, _, rfl, h1, TG.cl 0 (by decide), TG.nE, (by unfold ffl; rw [lookup_putF, if_pos rfl]), Ea, rfl, ⟨_, h2⟩, ?_⟩
        refine for_tup (K := K) (a := Ea) (xs := ps) (fun j σ H' => (∃ v3 v4 : Option V, σ = [some (.ref N), some (.ref D), some (.ref q), v3, v4]) ∧ ButD D H2 H' ∧ Same H H' ∧ H' D = some (.lst (tally nds.length fun k => cnt (nds.take i) k + cntE (es.take j) k)))
          ⟨⟨v3, v4, rfl⟩, fun _ _ z _ => z, s2, by rw [e2]; rfl⟩ (fun j σ H' _ h => ?_) ?_ ?_
        · rcases h2 with (z | ⟨u, z⟩) | z
          · exact .inl (.inl (h.2.1 _ _ z (ne_of z e2 (fun y => by cases y))))
          · exact .inl (.inr ⟨u, h.2.1 _ _ z (ne_of z e2 (fun y => by cases y))⟩)
          · exact .inr z
        · rintro j p σ H3 hp ⟨⟨v3, v4, rfl⟩, b3, s3, e3⟩
          have hj : j < es.length := by rw [← h3]; exact (List.getElem?_eq_some_iff.mp hp).1
          have he : es[j]? = some es[j] := List.getElem?_eq_getElem hj
          generalize es[j] = e at he
          obtain ⟨a, rfl, ha⟩ := h4 j p e hp he
          obtain ⟨_, _, nd', hnd, _⟩ := W.base.ent i _ hn e (List.mem_of_getElem? he)
          have hk := (List.getElem?_eq_some_iff.mp hnd).1
          have ha3 : SqT K H3 a [.str e.1, .int (e.2 : Nat)] := by
            rcases ha with (z | ⟨u, z⟩) | z
            · exact .inl (.inl (b3 _ _ z (ne_of z e2 (fun y => by cases y))))
            · exact .inl (.inr ⟨u, b3 _ _ z (ne_of z e2 (fun y => by cases y))⟩)
            · exact .inr z
          refine ⟨a, [.str e.1, .int (e.2 : Nat)], rfl, ha3, rfl, _, _, rfl, _, _, rfl, rfl, ?_⟩
          refine ⟨_, rfl, _, rfl, D, _, e.2, _, rfl, rfl, SqL.of e3, tally_get _ hk, _, _, rfl, rfl, D, _, _, e.2, rfl, rfl, e3, ?_, ?_⟩
          · unfold ixN
            rw [tally_len, if_pos (by omega), if_pos (by omega)]
            simp
          · refine ⟨⟨_, _, rfl⟩, fun b u eb nb => by rw [upd_ne nb]; exact b3 _ _ eb nb, fun b u eb => by rw [upd_ne (ne_of_none eb fD)]; exact s3 _ _ eb, ?_⟩
            rw [upd_same, tally_set _ hk]
            congr 3
            funext k
            rw [cntE_take he]
            omega
        · rintro σ H3 ⟨⟨v3, v4, rfl⟩, b3, s3, e3⟩
          refine ⟨⟨_, _, _, rfl⟩, s3, ?_⟩
          rw [e3]
          congr 3
          funext k
          rw [cnt_take hn, h3, List.take_length]
          rfl
      · rw [decide_eq_false hf]
        refine iteF ⟨⟨_, _, _, rfl⟩, s2, ?_⟩
        rw [e2]
        congr 3
        funext k
        rw [cnt_take hn]
        have : y.ents = [] := by
          cases y with
          | fol o es => exact absurd rfl hf
          | _ => rfl
        rw [this]
        rfl
    · rintro σ H2 ⟨⟨v2, v3, v4, rfl⟩, s2, e2⟩
      rw [lq, List.take_length] at e2
      exact ⟨_, rfl, k _ D s2 e2⟩
end
end NW

set_option maxRecDepth 100000
set_option maxHeartbeats 1000000
/-! enumerate over a tuple -/
namespace NG
open PySem PyProof.Rows L2
theorem new_enum {v : Value} {ob : Obj} {Z : Heap → Prop} (B : Begins v ob Z) :
    Meets (Builtin.«enumerate.__new__» ⟨[.type "enumerate", v], []⟩) (fun _ R s => Z s.heap ∧
      R (.ok (.ret (.ref (s.heap.push ob).objs.size))) { s with heap := (s.heap.push ob).push { cls := .type "enumerate", data := .fields #[.none, .bool false, .ref s.heap.objs.size, rawInt 0, .none, .none] } }) :=
  .of_wp fun prog w A R s z => by
    obtain ⟨hp, gs, dr, tk, os⟩ := s
    obtain ⟨z1, z2⟩ := z
    have sub := sub_enumerate
    have step : ∀ {A1 : Around} {E1 Q1 : Value → Shared → Prop}, Q1 (.ref hp.objs.size) ⟨hp.push ob, gs, dr, tk, os⟩ → wpAny (model prog w) A1 (pyIter v) Q1 E1 ⟨hp, gs, dr, tk, os⟩ := fun q => B.iter prog w _ _ ⟨hp, gs, dr, tk, os⟩ _ z1 q
    wp_walk using step
    refine wpAny_stack_any fun st => wpAny_pure ?_
    split
    · rename_i cc _ _ _ _ _
      cases (cc == Value.type "enumerate") <;> (wp_walk using step; exact ⟨_, rfl, z2⟩)
    · wp_walk using step
      exact ⟨_, rfl, z2⟩
section
variable {prog : Program} {w : World} {A : Around} {E : Value → Shared → Prop} {s : Shared}
theorem call_enum {v : Value} {ob : Obj} {Z : Heap → Prop} {Q : Value → Shared → Prop} (B : Begins v ob Z) (hz : Z s.heap)
    (k : ∀ g, IsEnum g (s.heap.objs.size + 1) s.heap.objs.size 0 .none → g.get? s.heap.objs.size = some ob → (∀ b o, s.heap.get? b = some o → g.get? b = some o) → Q (.ref (s.heap.objs.size + 1)) { s with heap := g }) :
    wpAny (model prog w) A (call (.type "enumerate") [v]) Q E s := by
  refine callType_new F.called_enumerate (by decide) (F.typeCall_enumerate_1 _) (F.newCall_enumerate_1 _) (fun u => F.args_object_init_2 u _) F.entry_enumerate_new (new_enum B) ⟨hz, ?_⟩
  have e1 : (s.heap.push ob).objs.size = s.heap.objs.size + 1 := Heap.size_push ..
  show _ ∧ _
  rw [e1]
  have e2 : IsEnum ((s.heap.push ob).push { cls := .type "enumerate", data := .fields #[.none, .bool false, .ref s.heap.objs.size, rawInt 0, .none, .none] }) (s.heap.objs.size + 1) s.heap.objs.size 0 .none := by
    have q := Heap.get?_push_size (s.heap.push ob) (o := { cls := .type "enumerate", data := .fields #[.none, .bool false, .ref s.heap.objs.size, rawInt 0, .none, .none] }) rfl
    rwa [e1] at q
  exact ⟨⟨_, e2, rfl⟩, k _ e2 (Heap.get?_push_of_some _ (Heap.get?_push_size _ B.free)) fun b o e => Heap.get?_push_of_some _ (Heap.get?_push_of_some _ e)⟩
end
/-- what enumerate draws of the tuple at a -/
def IteT (K : PySem.W.Frag) (a : Addr) : It where
  go i H := ∃ (xs : List V) (x : V), SqT K H a xs ∧ xs[i]? = some x
  yld i H v H' := ∃ (T : Addr) (x : V), v = .ref T ∧ H T = none ∧ H' = L2.upd H T (.tup [.int (i : Nat), x]) ∧ ∀ xs, SqT K H a xs → xs[i]? = some x
  stop i H := ∃ xs : List V, SqT K H a xs ∧ xs.length ≤ i
theorem turn_enumT {P : Program} {w : World} {K : PySem.W.Frag} {elts : List Expr} {kk : Nat} {tpos : Pos} (a e it : Addr) :
    Turn P w K (.Tuple elts kk tpos) (IteT K a) [e, it] e (fun i h => (∃ old, IsEnum h e it ((i : Nat) : Int) old) ∧ h.IsTupleIter it a i ∧ e ≠ it ∧ it ≠ a ∧ e ≠ a) where
  mem := by simp
  obj := fun i h st b hb => by
    obtain ⟨⟨old, he⟩, ⟨o, ho, _, hd⟩, _⟩ := st
    rcases (by simpa using hb : b = e ∨ b = it) with rfl | rfl
    · exact ⟨_, he, fun v q => nomatch q⟩
    · exact ⟨o, ho, fun v q => by rw [hd] at q; cases q⟩
  keep := fun i h h' st k => by
    obtain ⟨⟨old, he⟩, ⟨o, ho, r⟩, z⟩ := st
    exact ⟨⟨old, k e (by simp) _ he⟩, ⟨o, k it (by simp) _ ho, r⟩, z⟩
  item := by
    intro X hP hw hK hc i pins s σ H E I hf st hg
    subst hP hw hK
    obtain ⟨⟨old, he⟩, hit, n1, n2, n3⟩ := st
    obtain ⟨xs, x, hq, hx⟩ := hg
    obtain ⟨its, rv, ⟨ot, eo, co, no, d0⟩, hz⟩ := I.tuple hq
    obtain ⟨u, hu, ru⟩ := rv.get hx
    have hi : i < its.toArray.size := by
      have := (List.getElem?_eq_some_iff.mp hu).1
      simpa using this
    have D := Draws.tuple (prog := X.prog) (w := X.w) (A := X.A.in1) (I.ok.hd hc) it a (Ne.symm n2) its.toArray
    refine wpAny_pyNext_enum_itemD D he ⟨hit, ot, eo, co, no, d0⟩ hi n1 (by simp [n1, n3]) fun y g tk hy hg1 hg2 hg3 hg4 hg5 => ?_
    have ey : y = u := by
      have e1 : its[i]? = some y := by simpa using hy
      rw [hu] at e1
      exact (Option.some.inj e1).symm
    subst ey
    have lt1 : e < s.heap.objs.size := Heap.lt_size he
    have lt2 : it < s.heap.objs.size := by obtain ⟨_, q, _⟩ := hit; exact Heap.lt_size q
    refine ⟨_, rfl, wpAny_letOwnedTupleGo_enum (s := { s with heap := g, toks := tk + 1 }) hg1 fun g2 he2 sb => ?_⟩
    have tup : g2.get? s.heap.objs.size = some { cls := .type "tuple", data := .seq #[.int i tk, y] } := (sb.2 _ (Nat.ne_of_gt lt1)).trans hg3
    have new : ObjOk X.prog X.w (L2.upd H s.heap.objs.size (.tup [.int (i : Nat), x])) g2 s.heap.objs.size (.tup [.int (i : Nat), x]) :=
      ⟨by show 2 ≤ sizeLine; decide, [.int i tk, y], .cons ⟨_, rfl⟩ (.cons ru .nil), ⟨_, tup, rfl, _, rfl⟩⟩
    have I1 : Inv X pins σ (L2.upd H s.heap.objs.size (.tup [.int (i : Nat), x])) { s with heap := g2, toks := tk + 1 } :=
      I.turnedNew (ch := [e, it]) (fun b o hb q => (sb.2 b fun z => hb (by simp [z])).trans (hg5 b o (fun z => hb (by simp [z])) (fun z => hb (by simp [z])) q)) hf (Nat.le_refl _) new
    refine ⟨.ref s.heap.objs.size, _, I1, rfl, ⟨_, x, rfl, I.hok.fresh (Nat.le_refl _), rfl, fun ys hy => by rw [I.tuple_inj hy hq]; exact hx⟩, ⟨⟨y, ?_⟩, hg2.1.extBut sb.extBut (Ne.symm n1), n1, n2, n3⟩, fun b hb => ?_⟩
    · have : ((i + 1 : Nat) : Int) = (i : Int) + 1 := by omega
      rw [this]; exact he2
    · have lb : b < s.heap.objs.size := by
        rcases (by simpa using hb : b = e ∨ b = it) with rfl | rfl
        · exact lt1
        · exact lt2
      rw [L2.upd_ne (Nat.ne_of_lt lb)]
      exact (hf b hb).1
  done := by
    intro X hP hw hK hc i pins s σ H E I hf st hg
    subst hP hw hK
    obtain ⟨⟨old, he⟩, hit, n1, n2, n3⟩ := st
    obtain ⟨xs, hq, hx⟩ := hg
    obtain ⟨its, rv, ⟨ot, eo, co, no, d0⟩, hz⟩ := I.tuple hq
    obtain ⟨f0, f1, f2, f3, f4, f5⟩ := hf it (by simp)
    have hn : its.toArray[i]? = none := by
      have := rv.length
      rw [List.getElem?_toArray]
      exact List.getElem?_eq_none (by omega)
    have D : Draws X.prog X.w X.A.in1 it [it, a] i (fun _ _ => False) (fun j h => j = i ∧ h.IsTupleIter it a i ∧ h.IsTuple a its.toArray) := {
      live := fun j h z => let ⟨o, e, _⟩ := z.2.1; ⟨o, e⟩
      frame := fun j h h' z k => ⟨z.1, let ⟨o, e, r⟩ := z.2.1; ⟨o, k it (by simp) _ e, r⟩, let ⟨o, e, r⟩ := z.2.2; ⟨o, k a (by simp) _ e, r⟩⟩
      item := fun j s1 Q1 E1 hj z _ => absurd z.1 (Nat.ne_of_lt hj)
      done := fun s1 Q1 E1 z k => wpAny_nextOf_tuple_end (I.ok.hd hc) z.2.1 z.2.2 hn k }
    exact wpAny_pyNext_enum_endD D he ⟨rfl, hit, ot, eo, co, no, d0⟩ fun g eb => ⟨rfl, I.turned (t' := s.toks) (fun b o hb q => eb b o hb q) f0 f1 f3 f4 f5⟩
  self := fun A i s Q E st h => let ⟨⟨_, he⟩, _⟩ := st; wpAny_pyIter_enum he h
def iEnumT (K : PySem.W.Frag) (ta : TA) : TI := fun σ H R => ta σ H fun vs H1 => ∃ (a : Addr) (xs : List V), vs = [.ref a] ∧ SqT K H1 a xs ∧ R (IteT K a) H1
theorem pi_enumT {X : Cx} {e : Expr} {ta : TA} {p pos tpos : Pos} {elts : List Expr} {kk : Nat} (hg : Gl X "enumerate") (hm : X.mg "enumerate" = none) (ha : PA X [e] ta) (hs : starEach [e] X.env = [(false, eval e X.env)] := by rfl) :
    PI X (.Tuple elts kk tpos) (.Call (.Name "enumerate" p) [e] [] pos) (iEnumT X.K ta) := by
  refine ⟨fun pins s σ H R I h => ?_⟩
  refine Call_ (ld_blt I hg hm boot_enumerate (callWith_type1 (thn (ha.run pos pins s σ H _ I h) fun us s1 ⟨vs, H1, I1, r1, a, xs, ex, hq, q⟩ => ?_) hs rfl))
  subst ex
  obtain ⟨u, rfl, ru⟩ := vals1 r1
  obtain rfl : u = Value.ref a := ru
  obtain ⟨its, rv, tp, _⟩ := I1.tuple hq
  refine call_enum (begins_tuple a its.toArray) tp fun g g1 g2 g3 => wpAny_pyIter_enum g1 ?_
  have I2 : Inv X pins σ H1 { s1 with heap := g } := I1.kept (t' := s1.toks) g3
  have la : a < s1.heap.objs.size := by obtain ⟨o, e, _⟩ := tp; exact Heap.lt_size e
  refine ⟨s1.heap.objs.size + 1, [s1.heap.objs.size + 1, s1.heap.objs.size], _, _, H1, rfl, I2, turn_enumT a (s1.heap.objs.size + 1) s1.heap.objs.size, ⟨⟨.none, g1⟩, ⟨_, g2, rfl, rfl⟩, Nat.succ_ne_self _, Nat.ne_of_gt la, Nat.ne_of_gt (Nat.lt_succ_of_lt la)⟩, fun b hb => ?_, q⟩
  have lb : s1.heap.objs.size ≤ b := by
    rcases (by simpa using hb : b = s1.heap.objs.size + 1 ∨ b = s1.heap.objs.size) with rfl | rfl
    · exact Nat.le_succ _
    · exact Nat.le_refl _
  exact I1.fpOk lb (I1.hok.fresh lb)
theorem walk_enumT {K : PySem.W.Frag} {a : Addr} {xs : List V} : Walk (IteT K a) xs.length (fun H => SqT K H a xs) (YPair (fun i => some (.int (i : Nat))) (fun i => xs[i]?)) :=
  ⟨fun i _ hi q => ⟨xs, xs[i], q, List.getElem?_eq_getElem hi⟩, fun _ q => ⟨xs, q, Nat.le_refl _⟩, fun i H v H' _ q ⟨T, x, h1, h2, h3, h4⟩ => ⟨T, .int (i : Nat), x, h1, h2, h3, rfl, h4 xs q⟩⟩
theorem lc_enumT {K : PySem.W.Frag} {a : Addr} {xs : List V} {tt : TT} {te : TE} {i j : Nat} (hij : i ≠ j) {σ : L2.St} {H1 : Hp} {D : Addr} {Q : Hp → Prop} (p : Nat → Bool) (f : Nat → V) (hx : xs.length < sizeLine) (hD : H1 D = none) (hG : ∀ H, Same H1 H → SqT K H a xs)
    (ht : ∀ (k : Nat) (x : V) (H : Hp) (R : Bool → Hp → Prop), xs[k]? = some x → Same H1 H → (∀ H', Same H H' → R (p k) H') → tt (((wipe σ [i, j]).set i (some (.int (k : Nat)))).set j (some x)) H R)
    (he : ∀ (k : Nat) (x : V) (H : Hp) (R : V → Hp → Prop), xs[k]? = some x → p k = true → Same H1 H → (∀ H', Same H H' → R (f k) H') → te (((wipe σ [i, j]).set i (some (.int (k : Nat)))).set j (some x)) H R)
    (hd : ∀ H, Same H1 H → H D = some (.lst (((List.range xs.length).filter p).map f)) → Q H) :
    ∃ W : Nat → Nat → Hp → Prop, (∃ m, W 0 m (L2.upd H1 D (.lst []))) ∧ ∀ k m H, W k m H →
      ((IteT K a).stop k H ∧ Q H) ∨ ((IteT K a).go k H ∧ ∃ Nx : Hp → Prop, (∀ H', Nx H' → ∃ m', m' < m ∧ W (k + 1) m' H') ∧ ∀ x H', (IteT K a).yld k H x H' → gTup K 2 (gCons (gName i) (gCons (gName j) gNil)) x (wipe σ [i, j]) H' fun σ2 H2 => wipe σ2 [i, j] = wipe σ [i, j] ∧ tt σ2 H2 fun b H3 =>
        if b = true then te σ2 H3 fun y H4 => ∃ acc, H4 D = some (.lst acc) ∧ acc.length < sizeLine ∧ Nx (L2.upd H4 D (.lst (acc ++ [y]))) else Nx H3) := by
  refine lc_it (walk_enumT (K := K) (a := a) (xs := xs)) (fun k H => Same H1 H ∧ H D = some (.lst (((List.range k).filter p).map f))) ⟨Same.upd hD, by rw [upd_same]; simp⟩ (fun _ H _ h => hG H h.1) ?_ ?_
  · rintro k x H H' hk ⟨s1, eD⟩ ⟨T, ki, y, rfl, hT, rfl, h1, h2⟩
    cases Option.some.inj h1
    have sT : Same H (L2.upd H T (.tup [.int (k : Nat), y])) := Same.upd hT
    refine ⟨T, [.int (k : Nat), y], rfl, SqT.of upd_same, rfl, _, _, rfl, _, _, rfl, rfl, wipe2 hij _ _, ?_⟩
    have ll : (((List.range k).filter p).map f).length < sizeLine := by
      rw [List.length_map]
      have := List.length_filter_le p (List.range k)
      rw [List.length_range] at this
      omega
    have s0 := s1.trans sT
    have eD0 := sT _ _ eD
    generalize L2.upd H T (.tup [.int (k : Nat), y]) = H0 at s0 eD0
    refine ht k y _ _ h2 s0 (fun H3 s3 => ?_)
    have eD3 := s3 _ _ eD0
    have s13 := s0.trans s3
    refine ite2 (fun hp => ?_) (fun hp => ?_)
    · refine he k y _ _ h2 hp s13 (fun H4 s4 => ⟨_, s4 _ _ eD3, ll, ?_, ?_⟩)
      · intro b o e
        have hb : b ≠ D := ne_of_none e hD
        rw [upd_ne hb]
        exact s4 _ _ (s13 _ _ e)
      · rw [upd_same, List.range_succ, List.filter_append, List.map_append]
        congr 2
        congr 1
        have : [k].filter p = [k] := by simp [hp]
        rw [this]
        rfl
    · refine ⟨s13, ?_⟩
      rw [List.range_succ, List.filter_append, List.map_append]
      have : [k].filter p = [] := by simp [hp]
      rw [this]
      simpa using eD3
  · rintro H ⟨s1, eD⟩
    exact hd H s1 eD
end NG

set_option maxRecDepth 100000
set_option maxHeartbeats 400000
namespace NW
open PySem L2 NG TR LamX
abbrev sCN : Stmt := top 20
abbrev sCF : Stmt := top 26
abbrev sTreeI : Stmt := inClass (top 18) 0
structure TxtT (K : PySem.W.Frag) (mg : Str → Option Value) (fET fFF fCN fCF : Addr) : Prop where
  m_enumerate : mg "enumerate" = none
  g_et : mg "entered_times" = some (.ref fET)
  kp_et : PySem.W.keepIn K (.ref fET) = true
  g_ff : mg "found_folders" = some (.ref fFF)
  kp_ff : PySem.W.keepIn K (.ref fFF) = true
  g_cn : mg "check_nodes" = some (.ref fCN)
  kp_cn : PySem.W.keepIn K (.ref fCN) = true
  g_cf : mg "check_folders" = some (.ref fCF)
  kp_cf : PySem.W.keepIn K (.ref fCF) = true
def spChk (K : PySem.W.Frag) (cs : Nat → Addr) : Sp := fun vs H Q _ => ∃ (T : Addr) (qs : List Addr) (nds : List Nd), vs = [.ref T] ∧ Trees K cs H T qs nds ∧ nds.length ≤ 1000 ∧ ∀ H', Same H H' → Q .non H'
section
variable {P : Program} {w : World} {K : PySem.W.Frag} {mg : Str → Option Value} {base : Heap} {fName fStep fBy fNum fAt fDigit fPool fMay fWE fStood fBad fOwner fWN fET fFF fCN fCF : Addr} {cs : Nat → Addr}
theorem scCN : FnScope ["nodes", "number", "why"] ["nodes"] (defScope sCN) := ⟨rfl, rfl, rfl, by decide +kernel, rfl, by decide +kernel, by decide +kernel⟩
theorem ok_cn {fd fdW : FuncData} (F : Fun K "check_nodes" "check_nodes" sCN fCN fd) (T : TxtK K mg fNum fAt fDigit fPool) (TG : TxtG K mg cs) (TW : TxtW K mg fMay fWE fStood fBad fOwner fWN) (GW : FnOk P w K mg base CX0 5 fWN fdW ["nodes", "number"] (spWN K cs)) (bW : Binds K fdW ["nodes", "number"] []) :
    FnOk P w K mg base CX0 6 fCN fd ["nodes"] (spChk K cs) := by
  have nd := scCN.nd
  obtain ⟨tr, gr⟩ := TG.m_ROOT
  refine F.ok scCN (fun vs H Q E h => ?_) (fun cdv A outer s H vs Q E hr h => ?_)
  · obtain ⟨T, qs, nds, rfl, _⟩ := h
    rfl
  · obtain ⟨N, qs, nds, rfl, TR, hl, k⟩ := h
    have hrW : Room 5 _ := hr
    have W := TR.wf
    have lq : (qs.map V.ref).length = nds.length := by rw [List.length_map, TR.ob.len]
    refine ⟨_, (pss_cons (ps_if (PW.pt (pw_or (pt_cmpR op_eq (pe_callB call_len_seq (by rfl) T.m_len (by decide +kernel) (pa_cons (pv 0) pa_nil)) pe_int (nomark _)) (pw_or1 (pt_not (pt_val (pe_callB call_isi (by rfl) T.m_isinstance (by decide +kernel) (pa_cons (pe_ix ix_tup (pv 0) (pe_glob (v := .int 0) (by rfl) gr ⟨_, rfl⟩) (fun _ _ => rfl)) (pa_cons (pe_glob (v := .ref (cs 0)) (by rfl) TG.m_Folder rfl) pa_nil)))))))) (pss_one ps_dead) pss_nil)
  (pss_one (ps_for PassesOwn.never rfl (pi_range1 (by rfl) T.m_range (pa_cons (pe_callB call_len_seq (by rfl) T.m_len (by decide +kernel) (pa_cons (pv 0) pa_nil)) pa_nil)) (pg_name (i := 1) nd rfl (Or.inl rfl))
  (pss_cons (ps_set (i := 2) nd rfl (Or.inl rfl) (pe_call GW hrW (by rfl) TW.g_wn TW.kp_wn bW .nil pass0 (pa_cons (pv 0) (pa_cons (pv 1) pa_nil))))
  (pss_one (ps_if (pt_cmp (pc_notN (pv 2))) (pss_one ps_dead) pss_nil)))))), ?_⟩
    refine ⟨_, rfl, N, _, rfl, .inr TR.ob.ls, rfl, _, rfl, ?_⟩
    obtain ⟨o0, es0, h0⟩ := W.base.root
    have pos : 0 < nds.length := (List.getElem?_eq_some_iff.mp h0).1
    rw [lq, show decide (V.int (nds.length : Nat) = V.int 0) = false from decide_eq_false (fun z => by injection z with z; omega)]
    obtain ⟨q0, hq0, hqr0, hO0⟩ := TR.at_ h0
    obtain ⟨dx0, E0, ps0, hi0, _⟩ := hO0
    have ty0 := TG.ty 0 (by decide)
    refine iteF ⟨_, rfl, N, _, _, _, rfl, rfl, TR.ob.ls, atI_nat hqr0, _, _, _, _, true, rfl, .own (cs 0), .base (.ins hi0 (TG.cl 0 (by decide)) ty0.c1 ty0.c2 ty0.c3 ty0.c4), TG.kit 0 0 (by decide) (by decide), _, rfl, iteF ?_⟩
    refine ⟨_, rfl, N, _, rfl, .inr TR.ob.ls, ?_⟩
    rw [lq]
    refine ⟨(nds.length : Int), rfl, by omega, by omega, for_range (n := nds.length) (fun i σ H' => (∃ v1 v2 : Option V, σ = [some (.ref N), v1, v2]) ∧ Same H H') ⟨⟨none, none, rfl⟩, Same.refl H⟩ ?_ ?_⟩
    · rintro i σ H2 hi ⟨⟨v1, v2, rfl⟩, s2⟩
      have e0 : (0 : Int) + (i : Int) = (i : Nat) := by omega
      rw [e0]
      refine ⟨_, rfl, _, rfl, N, qs, nds, i, rfl, TR.same s2, hi, fun H3 s3 => ?_⟩
      exact ⟨_, rfl, _, rfl, iteF ⟨⟨_, _, rfl⟩, s2.trans s3⟩⟩
    · rintro σ H2 ⟨⟨v1, v2, rfl⟩, s2⟩
      exact k _ s2
/-- the folders but the root -/
def subs (nds : List Nd) : List Nat := (List.range nds.length).filter fun k => decide (k ≠ 0) && folB nds k
theorem mem_subs {nds : List Nd} {k : Nat} (h : k ∈ subs nds) : 0 < k ∧ ∃ o es, nds[k]? = some (.fol o es) := by
  obtain ⟨_, h2⟩ := List.mem_filter.mp h
  rw [Bool.and_eq_true] at h2
  have := of_decide_eq_true h2.1
  exact ⟨by omega, folB_iff.mp h2.2⟩
theorem scCF : FnScope ["nodes", "folders", "entered", "number", "found", "node"] ["nodes"] (defScope sCF) := ⟨rfl, rfl, rfl, by decide +kernel, rfl, by decide +kernel, by decide +kernel⟩
theorem ok_cf {fd fdE fdF : FuncData} (F : Fun K "check_folders" "check_folders" sCF fCF fd) (T : TxtK K mg fNum fAt fDigit fPool) (T2 : TxtT K mg fET fFF fCN fCF) (TG : TxtG K mg cs) (GE : FnOk P w K mg base CX0 1 fET fdE ["nodes"] (spET K cs)) (bE : Binds K fdE ["nodes"] []) (GF : FnOk P w K mg base CX0 1 fFF fdF ["nodes"] (spFound K cs)) (bF : Binds K fdF ["nodes"] []) :
    FnOk P w K mg base CX0 2 fCF fd ["nodes"] (spChk K cs) := by
  have nd := scCF.nd
  obtain ⟨tr, gr⟩ := TG.m_ROOT
  refine F.ok scCF (fun vs H Q E h => ?_) (fun cdv A outer s H vs Q E hr h => ?_)
  · obtain ⟨T, qs, nds, rfl, _⟩ := h
    rfl
  · obtain ⟨N, qs, nds, rfl, TR, hl, k⟩ := h
    have hrE : Room 1 _ := hr
    have hrF : Room 1 _ := hr
    have hu := hu_of hr
    have W := TR.wf
    have hs : sizeLine = 16777216 := sizeLine_eq
    have lq : (qs.map V.ref).length = nds.length := by rw [List.length_map, TR.ob.len]
    refine ⟨_, (pss_cons (ps_setLc (i := 1) (own := [("number", 3), ("node", 5)]) (g := gTup K 2 (gCons (gName 3) (gCons (gName 5) gNil))) (tt := tAnd (tTest (tOp rNe (tVar 3) (tC (V.int 0)))) (tB (tCB (rIsi K) (tCons (tVar 5) (tCons (tC (V.ref (cs 0))) tNil))))) rfl nd rfl rfl (sw_true rfl rfl rfl (by decide +kernel)) (pi_enumT (by rfl) T2.m_enumerate (pa_cons (pv 0) pa_nil)) (blkOk_by (N := ["nodes", "folders", "entered", "number", "found", "node"]) (sc := defScope sCF) (by decide +kernel)) (fun _ _ _ _ _ => (pg_tup (by rfl) (pgs_cons (pg_name (i := 3) nd rfl (Or.inl rfl)) (pgs_cons (pg_name (i := 5) nd rfl (Or.inl rfl)) pgs_nil)))) (fun _ _ _ _ _ => pts_one (PW.pt (pw_and (pt_cmpR op_ne (pv 3) (pe_glob (v := .int 0) (by rfl) gr ⟨_, rfl⟩) (nomark _)) (pw_and1 (pt_val (pe_callB call_isi (by rfl) T.m_isinstance (by decide +kernel) (pa_cons (pv 5) (pa_cons (pe_glob (v := .ref (cs 0)) (by rfl) TG.m_Folder rfl) pa_nil)))))))) (fun _ _ _ _ _ => (pv 3)))
  (pss_cons (ps_set (i := 2) nd rfl (Or.inl rfl) (pe_call GE hrE (by rfl) T2.g_et T2.kp_et bE .nil pass0 (pa_cons (pv 0) pa_nil)))
  (pss_cons (ps_for PassesOwn.never rfl (pi_list (pv 1)) (pg_name (i := 3) nd rfl (Or.inl rfl))
  (pss_one (ps_if (pt_cmpR op_ne (pe_ix ix_list (pv 2) (pv 3) (fun _ _ => rfl)) pe_int (nomark _)) (pss_one ps_dead) pss_nil)))
  (pss_cons (ps_set (i := 4) nd rfl (Or.inl rfl) (pe_call GF hrF (by rfl) T2.g_ff T2.kp_ff bF .nil pass0 (pa_cons (pv 0) pa_nil)))
  (pss_one (ps_for PassesOwn.never rfl (pi_list (pv 1)) (pg_name (i := 3) nd rfl (Or.inl rfl))
  (pss_one (ps_if (pt_cmp (pc_dnotin hu (pv 3) (pv 4))) (pss_one ps_dead) pss_nil)))))))), ?_⟩
    refine ⟨_, rfl, N, _, rfl, TR.ob.ls, fun D hD => ?_⟩
    refine lc_enumT (K := K) (a := N) (xs := qs.map V.ref) (i := 3) (j := 5) (by decide) (fun k => decide (k ≠ 0) && folB nds k) (fun i => V.int (i : Nat)) (by omega) hD (fun H' s => Same.sqT s TR.ob.ls) (fun i x H' R hx s hR => ?_) (fun i x H' R _ _ s hR => ⟨_, rfl, hR _ (Same.refl _)⟩) (fun H1 s1 e1 => ?_)
    · have hi : i < nds.length := by rw [← lq]; exact (List.getElem?_eq_some_iff.mp hx).1
      have hn : nds[i]? = some nds[i] := List.getElem?_eq_getElem hi
      generalize nds[i] = y at hn
      obtain ⟨q, hq, hqr, hO⟩ := (TR.same s).at_ hn
      have : x = .ref q := by rw [hqr] at hx; exact (Option.some.inj hx).symm
      subst this
      obtain ⟨dx, fs, hins, _⟩ := obj_ins hO
      have ci := clsI_lt y
      have ty := TG.ty _ ci
      refine ⟨_, rfl, rfl, _, rfl, ?_⟩
      have e1 : (!decide (V.int (i : Nat) = V.int 0)) = decide (i ≠ 0) := by
        by_cases e : i = 0
        · subst e; rfl
        · rw [decide_eq_false (fun z => by injection z with z; omega), decide_eq_true e]; rfl
      rw [e1]
      refine ite2 (fun c => ?_) (fun c => ?_)
      · refine ⟨_, rfl, _, _, _, _, decide (clsI y = 0), rfl, .own (cs 0), .base (.ins hins (TG.cl _ ci) ty.c1 ty.c2 ty.c3 ty.c4), TG.kit _ 0 ci (by decide), _, rfl, ?_⟩
        have e2 : decide (clsI y = 0) = (decide (i ≠ 0) && folB nds i) := by
          rw [c, Bool.true_and, folB_at hn]
          cases y <;> rfl
        rw [e2]
        exact hR _ (Same.refl _)
      · have e2 : false = (decide (i ≠ 0) && folB nds i) := by
          have : decide (i ≠ 0) = false := by simpa using c
          rw [this]; rfl
        rw [e2]
        exact hR _ (Same.refl _)
    · rw [lq] at e1
      replace e1 : H1 D = some (.lst ((subs nds).map fun i => V.int (i : Nat))) := e1
      refine ⟨_, rfl, N, qs, nds, rfl, TR.same s1, hl, fun H2 D2 s2 e2 => ?_⟩
      have e12 := s2 _ _ e1
      refine ⟨_, rfl, D, rfl, ⟨_, SqL.of e12⟩, for_list (K := K) (a := D) (xs := (subs nds).map fun i => V.int (i : Nat)) (fun i σ H' => (∃ v3 v4 v5 : Option V, σ = [some (.ref N), some (.ref D), some (.ref D2), v3, v4, v5]) ∧ H' = H2) ⟨⟨_, _, _, rfl⟩, rfl⟩ (fun i σ H' _ h => by rw [h.2]; exact SqL.of e12) ?_ ?_⟩
      · rintro i x σ H' hx ⟨⟨v3, v4, v5, rfl⟩, rfl⟩
        rw [List.getElem?_map] at hx
        cases es : (subs nds)[i]? with
        | none => rw [es] at hx; cases hx
        | some j =>
          rw [es] at hx
          cases Option.some.inj hx
          obtain ⟨j0, o, ee, hj⟩ := mem_subs (List.mem_of_getElem? es)
          have jl := (List.getElem?_eq_some_iff.mp hj).1
          refine ⟨_, rfl, _, rfl, D2, _, _, _, rfl, rfl, SqL.of e2, atI_nat (tally_get _ jl), rfl, _, rfl, ?_⟩
          rw [W.once j _ j0 hj rfl]
          exact iteF ⟨⟨_, _, _, rfl⟩, rfl⟩
      · rintro σ H' ⟨⟨v3, v4, v5, rfl⟩, rfl⟩
        refine ⟨_, rfl, N, qs, nds, rfl, (TR.same (s1.trans s2)).ob, W, hl, fun D3 kvs H3 s3 e3 hk => ?_⟩
        have e13 := s3 _ _ e12
        refine ⟨_, rfl, D, rfl, ⟨_, SqL.of e13⟩, for_list (K := K) (a := D) (xs := (subs nds).map fun i => V.int (i : Nat)) (fun i σ H' => (∃ v3 v5 : Option V, σ = [some (.ref N), some (.ref D), some (.ref D2), v3, some (.ref D3), v5]) ∧ H' = H3) ⟨⟨_, _, rfl⟩, rfl⟩ (fun i σ H' _ h => by rw [h.2]; exact SqL.of e13) ?_ ?_⟩
        · rintro i x σ H' hx ⟨⟨v3, v5, rfl⟩, rfl⟩
          rw [List.getElem?_map] at hx
          cases es : (subs nds)[i]? with
          | none => rw [es] at hx; cases hx
          | some j =>
            rw [es] at hx
            cases Option.some.inj hx
            obtain ⟨j0, o, ee, hj⟩ := mem_subs (List.mem_of_getElem? es)
            have hv := hk j ⟨o, ee, hj⟩
            refine ⟨_, rfl, _, rfl, D3, _, rfl, DGet.k (k := Sum.inl (j : Int)) e3, _, rfl, ?_⟩
            rw [hv]
            exact iteF ⟨⟨_, _, rfl⟩, rfl⟩
        · rintro σ H' ⟨⟨v3, v5, rfl⟩, rfl⟩
          exact k _ (s1.trans (s2.trans s3))
end
end NW

set_option maxRecDepth 100000
set_option maxHeartbeats 400000
namespace NW
open PySem L2 NG TR LamX
abbrev sTree : Stmt := top 38
/-- all but lists and tables -/
def ExtX (H H' : Hp) : Prop := ∀ b o, H b = some o → (∀ xs, o ≠ .lst xs) → (∀ ps, o ≠ .tbl ps) → H' b = some o
theorem ExtX.of {H H' : Hp} (e : ExtN H H') : ExtX H H' := fun b o h _ n => e b o h n
theorem ExtX.sqT {K : PySem.W.Frag} {H H' : Hp} {a : Addr} {xs : List V} (e : ExtX H H') (h : SqT K H a xs) : SqT K H' a xs := by
  rcases h with (h | ⟨o, h⟩) | h
  · exact .inl (.inl (e _ _ h (fun _ z => by cases z) (fun _ z => by cases z)))
  · exact .inl (.inr ⟨o, e _ _ h (fun _ z => by cases z) (fun _ z => by cases z)⟩)
  · exact .inr h
theorem ObjAt.ext {K : PySem.W.Frag} {cs : Nat → Addr} {H H' : Hp} {q : Addr} {nd : Nd} (h : ObjAt K cs H q nd) (e : ExtX H H') : ObjAt K cs H' q nd := by
  have i : ∀ {b C dx fs}, H b = some (.ins C dx fs) → H' b = some (.ins C dx fs) := fun h => e _ _ h (fun _ z => by cases z) (fun _ z => by cases z)
  cases nd with
  | fol o es =>
    obtain ⟨dx, E, ps, h1, h2, h3, h4⟩ := h
    exact ⟨dx, E, ps, i h1, h2.keep (fun o z => e _ _ z (fun _ q => by cases q) (fun _ q => by cases q)), h3, fun k p en a b => let ⟨x, y, z⟩ := h4 k p en a b; ⟨x, y, e.sqT z⟩⟩
  | fil o => exact let ⟨dx, h⟩ := h; ⟨dx, i h⟩
  | lnk o t => exact let ⟨dx, h⟩ := h; ⟨dx, i h⟩
  | gon o ab => exact let ⟨dx, h⟩ := h; ⟨dx, i h⟩
theorem extX_lst {H : Hp} {D : Addr} {xs ys : List V} (e : H D = some (.lst xs)) : ExtX H (upd H D (.lst ys)) := fun b o h n _ => by
  rw [upd_ne (fun z => n xs (by rw [z, e] at h; exact (Option.some.inj h).symm))]
  exact h
theorem tabs_lst {T : List (Addr × Str)} {H : Hp} {D : Addr} {xs ys : List V} (t : Tabs T H) (e : H D = some (.lst xs)) : Tabs T (upd H D (.lst ys)) := fun p hp => by
  obtain ⟨ps, a1, a2, a3⟩ := t p hp
  refine ⟨ps, by rw [upd_ne (ne_of a1 e (fun z => by cases z))]; exact a1, a2, fun pos cv hc => ?_⟩
  obtain ⟨c, e1, e2⟩ := a3 pos cv hc
  exact ⟨c, e1, by rw [upd_ne (ne_of e2 e (fun z => by unfold CodeO at z; cases z))]; exact e2⟩
/-- a tree in the heap -/
def TreeAt (K : PySem.W.Frag) (cs : Nat → Addr) (CT : Addr) (H : Hp) (t : Addr) (qs : List Addr) (nds : List Nd) : Prop := ∃ dx T, H t = some (.ins CT dx (fl1 "nodes" (.ref T))) ∧ Trees K cs H T qs nds
theorem TreeAt.same {K : PySem.W.Frag} {cs : Nat → Addr} {CT : Addr} {H H' : Hp} {t : Addr} {qs : List Addr} {nds : List Nd} (h : TreeAt K cs CT H t qs nds) (s : Same H H') : TreeAt K cs CT H' t qs nds :=
  let ⟨dx, T, h1, h2⟩ := h; ⟨dx, T, s _ _ h1, h2.same s⟩
def spTreeI (K : PySem.W.Frag) (cs : Nat → Addr) (CT : Addr) : Sp := fun vs H Q _ => ∃ (p dx L : Addr) (qs : List Addr) (nds : List Nd), vs = [.ref p, .ref L] ∧ H p = some (.ins CT dx []) ∧ SqL K H L (qs.map V.ref) ∧ qs.length = nds.length ∧ (∀ (i : Nat) (q : Addr) (nd : Nd), qs[i]? = some q → nds[i]? = some nd → ObjAt K cs H q nd ∧ q ≠ p) ∧ WF LinkText PL nds ∧ nds.length ≤ 1000 ∧
  ∀ H', But p H H' → TreeAt K cs CT H' p qs nds → Q .non H'
section
variable {P : Program} {w : World} {K : PySem.W.Frag} {mg : Str → Option Value} {base : Heap} {fName fStep fBy fNum fAt fDigit fPool fMay fWE fStood fBad fOwner fWN fET fFF fCN fCF f CT P0 : Addr} {cs : Nat → Addr}
theorem scTreeI : FnScope ["self", "nodes"] ["self", "nodes"] (defScope sTreeI) := ⟨rfl, rfl, rfl, by decide +kernel, rfl, by decide +kernel, by decide +kernel⟩
theorem ok_treeI {fd fdC fdF : FuncData} (F : Fun K "__init__" "Tree.__init__" sTreeI f fd) (TS : TxtS K mg fBy) (T2 : TxtT K mg fET fFF fCN fCF) (cl : Cls K CT) (h1 : NoAttr K CT "nodes") (GC : FnOk P w K mg base CX0 6 fCN fdC ["nodes"] (spChk K cs)) (bC : Binds K fdC ["nodes"] [])
    (GF : FnOk P w K mg base CX0 2 fCF fdF ["nodes"] (spChk K cs)) (bF : Binds K fdF ["nodes"] []) : FnOk P w K mg base CX0 7 f fd ["self", "nodes"] (spTreeI K cs CT) := by
  have nd := scTreeI.nd
  refine F.ok scTreeI (fun vs H Q E h => ?_) (fun cdv A outer s H vs Q E hr h => ?_)
  · obtain ⟨p, dx, L, qs, nds, rfl, _⟩ := h
    rfl
  · obtain ⟨p, dx, L, qs, nds, rfl, hp, hL, ql, hO, W, hl, k⟩ := h
    have hrC : Room 6 _ := hr
    have hrF : Room 2 _ := hr.mono (by decide)
    refine ⟨_, (pss_cons (ps_fld (pv 0) (pe_callTy call_tuple_of (by rfl) TS.m_tuple (by decide +kernel) (pa_cons (pv 1) pa_nil)) rfl)
  (pss_cons (ps_expr (pe_call GC hrC (by rfl) T2.g_cn T2.kp_cn bC .nil pass0 (pa_cons (pe_fld (pv 0) rfl) pa_nil)))
  (pss_one (ps_expr (pe_call GF hrF (by rfl) T2.g_cf T2.kp_cf bF .nil pass0 (pa_cons (pe_fld (pv 0) rfl) pa_nil)))))), ?_⟩
    refine ⟨_, rfl, L, _, rfl, .inl ⟨hL, fun T hT => ?_⟩⟩
    have sT := NG.Same.upd (o := HO.tup (qs.map V.ref)) hT
    have eT : (upd H T (HO.tup (qs.map V.ref))) T = some (.tup (qs.map V.ref)) := upd_same
    have hpT := sT _ _ hp
    generalize upd H T (HO.tup (qs.map V.ref)) = H1 at sT eT hpT ⊢
    refine ⟨_, rfl, p, CT, dx, _, rfl, hpT, cl, h1, (by show 0 < 1000; decide), ?_⟩
    have nTp : T ≠ p := ne_of eT hpT (fun z => by cases z)
    have b2 : But p H (upd H1 p (.ins CT dx (fl1 "nodes" (.ref T)))) := (But.ofSame sT).upd
    have ep : (upd H1 p (.ins CT dx (fl1 "nodes" (.ref T)))) p = some (.ins CT dx (fl1 "nodes" (.ref T))) := upd_same
    have eT2 : (upd H1 p (.ins CT dx (fl1 "nodes" (.ref T)))) T = some (.tup (qs.map V.ref)) := by rw [upd_ne nTp]; exact eT
    have TR : Trees K cs (upd H1 p (.ins CT dx (fl1 "nodes" (.ref T)))) T qs nds := by
      refine ⟨⟨SqT.of eT2, ql, fun i q x a b => ?_⟩, W⟩
      obtain ⟨h2, h3⟩ := hO i q x a b
      have bs : ∀ {a xs}, SqT K H a xs → SqT K (upd H1 p (.ins CT dx (fl1 "nodes" (.ref T)))) a xs := fun h => But.sqT hp b2 h
      cases x with
      | fol o es =>
        obtain ⟨dx', E, ps, h4, h5, h6, h7⟩ := h2
        exact ⟨dx', E, ps, b2 _ _ h4 h3, h5.keep (fun o e => b2 _ _ e (ne_of e hp (fun z => by cases z))), h6, fun k p en a b => let ⟨x, y, z⟩ := h7 k p en a b; ⟨x, y, bs z⟩⟩
      | fil o => exact let ⟨dx', h4⟩ := h2; ⟨dx', b2 _ _ h4 h3⟩
      | lnk o t => exact let ⟨dx', h4⟩ := h2; ⟨dx', b2 _ _ h4 h3⟩
      | gon o ab => exact let ⟨dx', h4⟩ := h2; ⟨dx', b2 _ _ h4 h3⟩
    show tSeq _ _ _ _ (upd H1 p (.ins CT dx (fl1 "nodes" (.ref T))))
    generalize upd H1 p (.ins CT dx (fl1 "nodes" (.ref T))) = H2 at b2 ep eT2 TR ⊢
    refine ⟨_, rfl, p, CT, dx, _, _, rfl, ep, cl, h1, (by unfold fl1; rw [lookup_putF, if_pos rfl]), T, qs, nds, rfl, TR, hl, fun H3 s3 => ?_⟩
    refine ⟨_, rfl, p, CT, dx, _, _, rfl, s3 _ _ ep, cl, h1, (by unfold fl1; rw [lookup_putF, if_pos rfl]), T, qs, nds, rfl, TR.same s3, hl, fun H4 s4 => ?_⟩
    exact k H4 (b2.same (s3.trans s4)) ⟨dx, T, s4 _ _ (s3 _ _ ep), TR.same (s3.trans s4)⟩
/-- nothing but tables stood at q -/
def Fr (H : Hp) (q : Addr) : Prop := ∀ u, H q = some u → ∃ ps, u = .tbl ps
theorem Fr.of {H H' : Hp} {q : Addr} (e : ExtN H H') (n : H' q = none) : Fr H q := fun u h => Classical.byContradiction fun c => by
  have := e _ _ h (fun ps z => c ⟨ps, z⟩)
  rw [n] at this
  cases this
/-! ### _law_tree -/
structure TxtV (K : PySem.W.Frag) (mg : Str → Option Value) (fMade CT : Addr) : Prop where
  m_Tree : mg "Tree" = some (.ref CT)
  g_made : mg "_law_made" = some (.ref fMade)
  kp_made : PySem.W.keepIn K (.ref fMade) = true
/-- drawn nodes in the heap, whatever else stands there -/
structure NdsL (H : Hp) (N : Addr) (ads : List (Addr × Addr)) (nds : List Nd) : Prop where
  ls : H N = some (.lst (ads.map fun a => V.ref a.1))
  len : ads.length = nds.length
  nds : ∀ (i : Nat) (ad : Addr × Addr) (nd : Nd), ads[i]? = some ad → nds[i]? = some nd → NdAt H ad nd
theorem NdsAt.l {H : Hp} {N : Addr} {ads : List (Addr × Addr)} {nds : List Nd} (h : NdsAt H N ads nds) : NdsL H N ads nds := ⟨h.ls, h.len, h.nds⟩
def spTree (K : PySem.W.Frag) (cs : Nat → Addr) (CT P0 : Addr) : Sp := fun vs H Q _ => ∃ (N : Addr) (ads : List (Addr × Addr)) (nds : List Nd), vs = [.ref N] ∧ NdsL H N ads nds ∧ WF LinkText PL nds ∧ nds.length ≤ 1000 ∧ Tabs [(P0, qBy)] H ∧
  ∀ H' t qs, ExtN H H' → Tabs [(P0, qBy)] H' → TreeAt K cs CT H' t qs (nds.map srtN) → (∀ x ∈ qs, Fr H x) → Q (.ref t) H'
theorem scTree : FnScope ["_law_nodes_here", "_law_node"] ["_law_nodes_here"] (defScope sTree) := ⟨rfl, rfl, rfl, by decide +kernel, rfl, by decide +kernel, by decide +kernel⟩
theorem ok_tree {fMade fTI : Addr} {fd fdM fdT : FuncData} (F : Fun K "_law_tree" "_law_tree" sTree f fd) (T : TxtV K mg fMade CT) (MT : Mk K CT fTI) (GM : FnOk P w K mg base CX0 5 fMade fdM ["_law_node"] (spMade K cs P0)) (bM : Binds K fdM ["_law_node"] [])
    (GTr : FnOk P w K mg base CX0 7 fTI fdT ["self", "nodes"] (spTreeI K cs CT)) (bTr : Binds K fdT ["self", "nodes"] []) : FnOk P w K mg base CX0 9 f fd ["_law_nodes_here"] (spTree K cs CT P0) := by
  have nd := scTree.nd
  refine F.ok scTree (fun vs H Q E h => ?_) (fun cdv A outer s H vs Q E hr h => ?_)
  · obtain ⟨N, ads, nds, rfl, _⟩ := h
    rfl
  · obtain ⟨N, ads, nds, rfl, ND, W, hl, hT, k⟩ := h
    have hrT : Room 8 _ := hr
    have hrM : Room 5 _ := hr.mono (by decide)
    have hs : sizeLine = 16777216 := sizeLine_eq
    refine ⟨_, (pss_one (ps_ret (pe_make MT GTr hrT (by rfl) T.m_Tree bTr .nil pass0 (pa_cons (pe_lc (own := [("_law_node", 1)]) rfl nd (pi_list (pv 0)) (blkOk_by (N := ["_law_nodes_here", "_law_node"]) (sc := defScope sTree) (by decide +kernel)) (fun _ _ _ _ _ => (pg_name (i := 1) nd rfl (Or.inl rfl))) (fun _ _ _ _ _ => pts_nil) (fun _ _ _ _ _ => (pe_call GM hrM (by rfl) T.g_made T.kp_made bM .nil pass0 (pa_cons (pv 1) pa_nil)))) pa_nil)))), ?_⟩
    refine ⟨_, rfl, N, rfl, ⟨_, SqL.of ND.ls⟩, fun D hD => ?_⟩
    have xl : (ads.map fun a => V.ref a.1).length = nds.length := by rw [List.length_map, ND.len]
    have ND' : ∀ H', ExtN H H' → ∀ (i : Nat) (ad : Addr × Addr) (x : Nd), ads[i]? = some ad → nds[i]? = some x → NdAt H' ad x := fun H' e i ad x a b => by
      have h := ND.nds i ad x a b
      have tk : ∀ a xs, H a = some (.tup xs) → H' a = some (.tup xs) := fun a xs h => e _ _ h (fun _ z => by cases z)
      cases x with
      | fol o es =>
        obtain ⟨h1, ps, h2, h3, h4⟩ := h
        exact ⟨tk _ _ h1, ps, e _ _ h2 (fun _ z => by cases z), h3, fun k q en a b => (h4 k q en a b).mono tk⟩
      | fil o => exact tk _ _ h
      | lnk o t => exact tk _ _ h
      | gon o ab => exact tk _ _ h
    refine lc_rel (walk_list (K := K) (a := N)) (R := fun H' => ExtN H H' ∧ Tabs [(P0, qBy)] H') (S := fun a b => ExtN a b ∧ Tabs [(P0, qBy)] b) (Px := fun i y H' => ∃ q x, y = .ref q ∧ nds[i]? = some x ∧ ObjAt K cs H' q (srtN x) ∧ Fr H q) (by rw [xl]; omega) ⟨extN_laid hD, tabs_laid hT hD⟩ (fun H2 r => ExtN.sqL r.1 (SqL.of ND.ls)) (fun _ _ r s => ⟨r.1.trans s.1, s.2⟩) (fun _ _ _ _ s e => s.1 _ _ e (fun _ z => by cases z))
      (fun i y _ _ s ⟨q, x, h1, h2, h3, h4⟩ => ⟨q, x, h1, h2, h3.ext (.of s.1), h4⟩) (fun H' acc y r e => ⟨fun b u hb n => ?_, tabs_lst r.2 e⟩) (fun i y H' acc acc' eD ⟨q, x, h1, h2, h3, h4⟩ => ⟨q, x, h1, h2, h3.ext (extX_lst eD), h4⟩) (fun i x H' Rk hx r hR => ?_) (fun H2 ys r2 e2 hy hys => ?_)
    · rw [upd_ne (ne_of_none hb hD)]
      exact r.1 _ _ hb n
    · rw [List.getElem?_map] at hx
      cases ea : ads[i]? with
      | none => rw [ea] at hx; cases hx
      | some ad =>
        rw [ea] at hx
        cases Option.some.inj hx
        have hi : i < nds.length := by rw [← ND.len]; exact (List.getElem?_eq_some_iff.mp ea).1
        have hn : nds[i]? = some nds[i] := List.getElem?_eq_getElem hi
        generalize nds[i] = y at hn
        have l12 := (W.base.uniq i _ hn).2
        exact ⟨_, rfl, ad.1, ad.2, y, rfl, ND' H' r.1 i ad y ea hn, by omega, r.2, fun H3 q e3 nq t3 hO => hR _ _ ⟨e3, t3⟩ ⟨q, y, rfl, hn, hO, Fr.of r.1 nq⟩⟩
    · rw [xl] at hy
      have ey : ys = (ys.map fun v => match v with | V.ref a => a | _ => 0).map V.ref := by
        apply List.ext_getElem?
        intro i
        rw [List.getElem?_map, List.getElem?_map]
        cases e : ys[i]? with
        | none => rfl
        | some y =>
          obtain ⟨q, x, rfl, _⟩ := hys i y e
          rfl
      generalize (ys.map fun v => match v with | V.ref a => a | _ => 0) = qs at ey
      subst ey
      rw [List.length_map] at hy
      refine fun x dx nx ndx nex => ?_
      have s3 := new_ext (C := CT) nx ndx
      have ex : (upd (upd H2 dx (.own x)) x (.ins CT dx [])) x = some (.ins CT dx []) := upd_same
      generalize upd (upd H2 dx (.own x)) x (.ins CT dx []) = H3 at s3 ex ⊢
      refine ⟨x, dx, D, qs, nds.map srtN, rfl, ex, SqL.of (s3 _ _ e2), by rw [hy, List.length_map], fun i q y hq hy' => ?_, wf_srt W, by rw [List.length_map]; exact hl, fun H4 b4 TA => ⟨rfl, k H4 x qs (fun b u e n => ?_) ?_ TA (fun y hy2 => ?_)⟩⟩
      · obtain ⟨y0, h0, rfl⟩ := get_srt hy'
        obtain ⟨q', x', h1, h2, h3, _⟩ := hys i (.ref q) (by rw [List.getElem?_map, hq]; rfl)
        cases h1
        rw [h0] at h2
        cases Option.some.inj h2
        obtain ⟨_, _, h4, _⟩ := obj_ins h3
        exact ⟨h3.same s3, ne_of_none h4 nx⟩
      · exact b4 _ _ (s3 _ _ (r2.1 _ _ e n)) (ne_of_none (r2.1 _ _ e n) nx)
      · intro t ht
        obtain ⟨ps, a1, a2, a3⟩ := r2.2 t ht
        refine ⟨ps, b4 _ _ (s3 _ _ a1) (ne_of_none a1 nx), a2, fun pos cv hc => ?_⟩
        obtain ⟨c, e1, e2⟩ := a3 pos cv hc
        exact ⟨c, e1, b4 _ _ (s3 _ _ e2) (ne_of_none e2 nx)⟩
      · obtain ⟨i, hi⟩ := List.getElem?_of_mem hy2
        obtain ⟨q', x', h1, h2, h3, h4⟩ := hys i (.ref y) (by rw [List.getElem?_map, hi]; rfl)
        cases h1
        exact h4
end
end NW

set_option maxRecDepth 100000
set_option maxHeartbeats 4000000
/-! == and != by an own __eq__, both answers -/
namespace NG
open PySem PySem.W PySem.Calls PyProof.Rows Builtin
section
variable {prog : Program} {w : World} {A : Around} {E : Value → Shared → Prop} {s : Shared} {K : Frag} {x C f : Addr} {ox : Obj} {od : Option Obj} {name : Str} {b tb : Value}
theorem ifBound_B {M : Model} {id : String} {args : List Value} {Q : Option Value → Shared → Prop} (X : K.In s.heap) (I : InstAt s.heap x ox C od) (hs : findIn K (.ref C) name = some (some (.builtin id)))
    (hb : ∀ self, bindSpecial (.builtin id) self = pure (.builtin id, [self]))
    (h : wpAny M A (call (.builtin id) (.ref x :: args)) (fun v => Q (some v)) E s) : wpAny M A (callSpecialIfBound? (.ref x) name args) Q E s := by
  simp only [callSpecialIfBound?, bindSpecialIfBound?]
  refine wpAny_holding (wpAny_bind (wpAny_bind (wpAny_bind (I.type.here ((looks_findIn X hs).here ?_)))))
  simp only [hb]
  refine wpAny_bind (wpAny_askSetting (wpAny_ite ?_))
  have fin : wpAny M A (call (.builtin id) ([.ref x] ++ args) >>= fun v => pure (some v)) Q E s := wpAny_bind (wpAny_mono h (fun v s' h' => wpAny_pure h') fun _ _ h' => h')
  split
  · exact wpAny_bind (wpAny_pure (wpAny_pure fin))
  · exact wpAny_tryCatch (wpAny_bind (wpAny_pure (wpAny_pure fin)))
theorem objNe_K (X : K.In s.heap) (I : InstAt s.heap x ox C od) (hs : findIn K (.ref C) "__eq__" = some (some (.ref f))) (hf : isFn K (.ref f) = true) (hu : A.units < cLine) {Q : Fin → Shared → Prop}
    (hcall : wpAny (model prog w) A (call (.ref f) [.ref x, b]) (fun v s' => ∃ r, v = .bool r ∧ Q (.done (.ret (.bool (!r)))) s') E s) :
    wpAny (model prog w) A (Builtin.«object.__ne__» ⟨[.ref x, b], []⟩) Q E s := by
  obtain ⟨h, g, d, t, os⟩ := s
  unfold Builtin.«object.__ne__»
  repeat (first
    | with_reducible refine wpAny_cRoomFor hu ?_
    | (refine wpAny_bind (m := callSpecialIfBound? (.ref x) (Str.ofString "__eq__") [b])
        (ifBound_K X I hs hf (wpAny_mono hcall (fun r s' hr => by
          obtain ⟨b, rfl, hq⟩ := hr
          repeat (first | exact hq | exact wpAny_pure hq | exact wpAny_truthy_bool hq | (refine wpAny_bind (m := truthy (.bool _)) (wpAny_truthy_bool ?_)) | wp_step)) fun _ _ e => e)))
    | wp_step)
theorem ne_K {Q : Value → Shared → Prop} (hu : A.units + 1 < cLine) (X : K.In s.heap) (I : InstAt s.heap x ox C od) (hb : Looks (model prog w) s.heap (typeOf b) tb) (hn : notFirst K C tb = true)
    (ho : subIn K (.ref C) (.type "object") = some true) (hne : findIn K (.ref C) "__ne__" = some (some (.builtin "object.__ne__")))
    (hs : findIn K (.ref C) "__eq__" = some (some (.ref f))) (hf : isFn K (.ref f) = true)
    (h : wpAny (model prog w) A.in1 (call (.ref f) [.ref x, b]) (fun v s' => ∃ r, v = .bool r ∧ Q (.bool (!r)) s') E s) : wpAny (model prog w) A (richCompare .NotEq (.ref x) b) Q E s := by
  have one : wpAny (model prog w) A (tryCompare (.ref x) "__ne__" b) (fun r s' => ∃ v, r = some v ∧ Q v s') E s := by
    unfold tryCompare
    refine wpAny_bind (ifBound_B X I hne F.cmp_object.ne.bind (wpAny_call (codeAny_call_builtin F.cmp_object.ne.plain F.cmpEntry_ne
      (check_slot F.cmpKind_ne F.cmpSplit_ne (I.type.andThen (looks_subIn X ho)) (F.cmpArgs_ne _ _) (objNe_K (A := A.in1) X I hs hf (by exact hu) (wpAny_mono h (fun v s' hv => ?_) fun _ _ e => e))))))
    obtain ⟨r, rfl, hq⟩ := hv
    first | exact ⟨r, rfl, wpAny_pure ⟨_, rfl, hq⟩⟩ | exact ⟨r, rfl, wpAny_pure (wpAny_pure ⟨_, rfl, hq⟩)⟩ | exact ⟨r, rfl, _, rfl, hq⟩
  unfold richCompare
  simp only [oneThing_ref]
  refine wpAny_holding (wpAny_bind (wpAny_cRoomFor (Nat.lt_of_succ_lt hu) ?_))
  rw [cmpInfo_NotEq]
  dsimp only
  refine wpAny_bind (I.type.here (wpAny_bind (hb.here ?_)))
  split
  · rename_i q
    have e : subIn K tb (.ref C) = some false := by
      rcases Bool.or_eq_true_iff.mp hn with e | e
      · rw [beq_iff_eq.mp e] at q; simp at q
      · exact beq_iff_eq.mp e
    refine wpAny_bind ((looks_subIn X e).here ?_)
    simp only [Bool.false_eq_true, if_false]
    refine wpAny_bind (wpAny_mono one (fun r s' z => ?_) fun _ _ e => e)
    obtain ⟨v, rfl, hq⟩ := z
    exact wpAny_pure hq
  · refine wpAny_bind (wpAny_pure ?_)
    simp only [Bool.false_eq_true, if_false]
    refine wpAny_bind (wpAny_mono one (fun r s' z => ?_) fun _ _ e => e)
    obtain ⟨v, rfl, hq⟩ := z
    exact wpAny_pure hq
end
end NG

namespace NG
open PySem L2
section
variable {X : Cx} {n : Nat} {C f : Addr} {fd : FuncData} {ps : List Str} {sp : Sp} {CX : CXT} {E : XK}
/-- x == y, x of a class with its own == : what that def promises of the two -/
def rOwn (K : PySem.W.Frag) (C : Addr) (sp : Sp) (E : XK) (g : Bool → Bool) : R2 := fun x y H Q => ∃ (a dx : Addr) (fs : List (Str × V)) (t : Value), x = .ref a ∧ H a = some (.ins C dx fs) ∧ TyX K H y t ∧ PySem.W.notFirst K C t = true ∧ sp [x, y] H (fun v H' => ∃ k, v = .bl k ∧ Q (.bl (g k)) H') E
theorem own_run (F : FnOk X.prog X.w X.K X.mg X.base CX n f fd ps sp) (hb : Binds X.K fd ps []) (hx : Passes CX X E) {A : Around} {pins : List (Addr × Obj)} {s : Shared} {σ : St} {H : Hp} {a : Addr} {y : V} {u : Value} {R : Bool → Hp → Prop} (sb : Sub X n A) (I : Inv X pins σ H s) (ry : RelV y u)
    (hsp : sp [.ref a, y] H (fun v H' => ∃ k, v = .bl k ∧ R k H') E) :
    wpAny (model X.prog X.w) A (call (.ref f) [.ref a, u]) (fun v s' => ∃ k, v = .bool k ∧ ∃ H', Inv X pins σ H' s' ∧ R k H') X.xe s := by
  have e0 : Env0 X.prog X.w X.K X.mg X.base A X.stack s H := by
    have e := I.env0
    exact ⟨by rw [sb.fr]; exact e.frames, e.mod, e.bs, e.bsz, e.funs, e.frf, e.hok, e.bare⟩
  have hl := F.len _ _ _ _ hsp
  have r2 : Vals [V.ref a, y] [Value.ref a, u] := .cons rfl (.cons ry .nil)
  refine wpAny_call (codeAny_mono (F.run A X.stack s H ⟨[.ref a, u], []⟩ [.ref a, u] [.ref a, y] _ E sb.room e0 (by
    have := hb s [.ref a, u] I.kIn (by simpa using hl)
    simpa using this) r2 hsp) fun r s' hq => ?_)
  cases r with
  | error e => exact hx pins σ H s e s' I hq
  | ok fl =>
    cases fl with
    | ret w =>
      obtain ⟨z, H', I', rz, k, ez, q⟩ := I.after hq
      subst ez
      cases rz
      exact ⟨k, rfl, H', I', q⟩
    | next => exact False.elim hq
    | brk => exact False.elim hq
    | cont => exact False.elim hq
theorem op_eqOwn (F : FnOk X.prog X.w X.K X.mg X.base CX n f fd ps sp) (hr : Room n X.A) (hs : PySem.W.findIn X.K (.ref C) "__eq__" = some (some (.ref f))) (hf : PySem.W.isFn X.K (.ref f) = true) (hb : Binds X.K fd ps []) (hx : Passes CX X E) :
    OpR X (compareOp .Eq) (rOwn X.K C sp E fun k => k) := by
  intro pins s σ H x y v u Q I rx ry h
  obtain ⟨a, dx, fs, t, rfl, ha, ty, hn, hsp⟩ := h
  cases rx
  obtain ⟨mA, J, _⟩ := ins_get I.hok ha
  obtain ⟨od, J, _⟩ := J.look
  obtain ⟨P, Z, p, _⟩ := kit_of I ry ty
  obtain ⟨m, hF⟩ := I.fr
  show wpAny (model X.prog X.w) X.A (richCompare .Eq (.ref a) u) (EP X pins σ Q) X.xe s
  refine PySem.W.cmp_K (op := .Eq) (tb := t) hr.units0 hF I.ok.mod.kin J (Z.ty _ _ I.kIn p) hn hs hf ?_
  refine wpAny_mono (own_run F hb hx ⟨hr, rfl⟩ I ry hsp) (fun r s' z => ?_) fun _ _ x => x
  obtain ⟨k, rfl, H', I', q⟩ := z
  exact ⟨.bl k, H', I', rfl, q⟩
theorem op_neOwn (F : FnOk X.prog X.w X.K X.mg X.base CX n f fd ps sp) (hr : Room (n + 1) X.A) (hs : PySem.W.findIn X.K (.ref C) "__eq__" = some (some (.ref f))) (hf : PySem.W.isFn X.K (.ref f) = true)
    (ho : PySem.W.subIn X.K (.ref C) (.type "object") = some true) (hne : PySem.W.findIn X.K (.ref C) "__ne__" = some (some (.builtin "object.__ne__"))) (hb : Binds X.K fd ps []) (hx : Passes CX X E) :
    OpR X (compareOp .NotEq) (rOwn X.K C sp E fun k => !k) := by
  intro pins s σ H x y v u Q I rx ry h
  obtain ⟨a, dx, fs, t, rfl, ha, ty, hn, hsp⟩ := h
  cases rx
  obtain ⟨mA, J, _⟩ := ins_get I.hok ha
  obtain ⟨od, J, _⟩ := J.look
  obtain ⟨P, Z, p, _⟩ := kit_of I ry ty
  show wpAny (model X.prog X.w) X.A (richCompare .NotEq (.ref a) u) (EP X pins σ Q) X.xe s
  refine ne_K (tb := t) (by have := hr.un; omega) I.kIn J (Z.ty _ _ I.kIn p) hn ho hne hs hf ?_
  refine wpAny_mono (own_run F hb hx (A := X.A.in1) ⟨hr.in1, rfl⟩ I ry hsp) (fun r s' z => ?_) fun _ _ x => x
  obtain ⟨k, rfl, H', I', q⟩ := z
  exact ⟨k, rfl, .bl (!k), H', I', rfl, q⟩
end
end NG

set_option maxRecDepth 100000
set_option maxHeartbeats 1000000
/-! nodes as things: fields that are data, compared -/
namespace NW
open PySem L2 NG TR LamX
mutual
theorem dp_same {K : PySem.W.Frag} {H H' : Hp} (s : Same H H') : ∀ {v : V} {d : PyData}, Dp K H v d → Dp K H' v d
  | _, _, .non => .non
  | _, _, .bl b => .bl b
  | _, _, .int i => .int i
  | _, _, .str x => .str x
  | _, _, .lst h ha => .lst (Same.seq s h) (dps_same s ha)
  | _, _, .tup h ha => .tup (Same.sqT s h) (dps_same s ha)
theorem dps_same {K : PySem.W.Frag} {H H' : Hp} (s : Same H H') : ∀ {vs : List V} {ds : List PyData}, DpAll K H vs ds → DpAll K H' vs ds
  | _, _, .nil => .nil
  | _, _, .cons h ha => .cons (dp_same s h) (dps_same s ha)
end
/-- the fields by their names -/
def LkAll (fs : List (Str × V)) : List Str → List V → Prop
  | [], [] => True
  | n :: ns, x :: xs => fs.lookup n = some x ∧ LkAll fs ns xs
  | _, _ => False
def eqAll : List PyData → List PyData → Bool
  | [], [] => true
  | d :: ds, e :: es => PyData.eqv d e && eqAll ds es
  | _, _ => false
def shAll : List PyData → Prop
  | [] => True
  | d :: ds => SeqAt.shaped d = true ∧ shAll ds
/-- an instance at a whose fields are xs -/
def HasF (H : Hp) (C a : Addr) (ns : List Str) (xs : List V) : Prop := ∃ dx fs, H a = some (.ins C dx fs) ∧ LkAll fs ns xs
theorem HasF.same {H H' : Hp} {C a : Addr} {ns : List Str} {xs : List V} (h : HasF H C a ns xs) (s : Same H H') : HasF H' C a ns xs := let ⟨dx, fs, e, l⟩ := h; ⟨dx, fs, s _ _ e, l⟩
def spMk (C : Addr) (ns : List Str) : Sp := fun vs H Q _ => ∃ (p dx : Addr) (xs : List V), vs = .ref p :: xs ∧ xs.length = ns.length ∧ H p = some (.ins C dx []) ∧ ∀ H', But p H H' → HasF H' C p ns xs → Q .non H'
def spEqD (K : PySem.W.Frag) (C : Addr) (ns : List Str) : Sp := fun vs H Q _ => ∃ (p : Addr) (y : V) (xs : List V) (ds : List PyData), vs = [.ref p, y] ∧ HasF H C p ns xs ∧ DpAll K H xs ds ∧ shAll ds ∧
  ((∃ t, TyX K H y t ∧ PySem.W.kitOne K t (.ref C) = some false ∧ Q (.bl false) H) ∨ ∃ (q : Addr) (ys : List V) (es : List PyData), y = .ref q ∧ HasF H C q ns ys ∧ DpAll K H ys es ∧ shAll es ∧ Q (.bl (eqAll ds es)) H)
structure EqC (K : PySem.W.Frag) (C f : Addr) : Prop where
  e1 : PySem.W.findIn K (.ref C) "__eq__" = some (some (.ref f))
  e2 : PySem.W.isFn K (.ref f) = true
  e3 : PySem.W.subIn K (.ref C) (.type "object") = some true
  e4 : PySem.W.findIn K (.ref C) "__ne__" = some (some (.builtin "object.__ne__"))
theorem kit_self {K : PySem.W.Frag} {C : Addr} : PySem.W.kitOne K (.ref C) (.ref C) = some true := by unfold PySem.W.kitOne; rw [if_pos (by simp)]
theorem nf_self {K : PySem.W.Frag} {C : Addr} : PySem.W.notFirst K C (.ref C) = true := by simp [PySem.W.notFirst]
theorem hasF_up {H : Hp} {p C dx : Addr} {fs : List (Str × V)} : (upd H p (.ins C dx fs)) p = some (.ins C dx fs) := upd_same
section
variable {P : Program} {w : World} {K : PySem.W.Frag} {mg : Str → Option Value} {base : Heap} {C f : Addr} {fd : FuncData}
abbrev sFolderE : Stmt := inClass (top 14) 1
theorem scFolderE : FnScope ["self", "other"] ["self", "other"] (defScope sFolderE) := ⟨rfl, rfl, rfl, by decide +kernel, rfl, by decide +kernel, by decide +kernel⟩
theorem eq_Folder (F : Fun K "__eq__" "Folder.__eq__" sFolderE f fd) (mi : mg "isinstance" = none) (gC : mg "Folder" = some (.ref C)) (cl : Cls K C) (TC : TyC K C) (na : ∀ n ∈ (["owner", "entries"] : List Str), NoAttr K C n) : FnOk P w K mg base CX0 1 f fd ["self", "other"] (spEqD K C ["owner", "entries"]) := by
  refine F.ok scFolderE (fun vs H Q E h => ?_) (fun cdv A outer s H vs Q E hr h => ?_)
  · obtain ⟨p, y, xs, ds, rfl, _⟩ := h
    rfl
  · obtain ⟨p, y, xs, ds, rfl, ⟨dx, fs, hp, lk⟩, dp, sh, k⟩ := h
    refine ⟨_, pss_one (ps_ret (pe_and (pe_callB call_isi (by rfl) mi (by decide +kernel) (pa_cons (pv 1) (pa_cons (pe_glob (v := .ref C) (by rfl) gC rfl) pa_nil))) (pe_and (pe_cmpR (op_eqD hr.units) (pe_fld (pv 0) rfl) (pe_fld (pv 1) rfl) (nomark _)) (pe_one (pe_cmpR (op_eqD hr.units) (pe_fld (pv 0) rfl) (pe_fld (pv 1) rfl) (nomark _)))))), ?_⟩
    rcases k with ⟨t, ty, kt, k⟩ | ⟨q, ys, es, rfl, ⟨dy, gs, hq, lk2⟩, dp2, sh2, k⟩
    · exact ⟨_, rfl, y, _, t, _, false, rfl, .own C, ty, kt, _, rfl, iteF k⟩
    · refine ⟨_, rfl, _, _, _, _, true, rfl, .own C, .base (.ins hq cl TC.c1 TC.c2 TC.c3 TC.c4), kit_self, _, rfl, iteT ?_⟩
      obtain ⟨x0, xr0, rfl⟩ : ∃ a b, xs = a :: b := by
        cases xs with
        | nil => simp [LkAll] at lk
        | cons a b => exact ⟨a, b, rfl⟩
      obtain ⟨x1, xr1, rfl⟩ : ∃ a b, xr0 = a :: b := by
        cases xr0 with
        | nil => simp [LkAll] at lk
        | cons a b => exact ⟨a, b, rfl⟩
      obtain rfl : xr1 = [] := by
        cases xr1 with
        | nil => rfl
        | cons a b => simp [LkAll] at lk
      cases dp with
      | cons dph0 dpt0 =>
      cases dpt0 with
      | cons dph1 dpt1 =>
      cases dpt1
      obtain ⟨lk0, lk1, -⟩ := lk
      obtain ⟨sh0, sh1, -⟩ := sh
      obtain ⟨y0, yr0, rfl⟩ : ∃ a b, ys = a :: b := by
        cases ys with
        | nil => simp [LkAll] at lk2
        | cons a b => exact ⟨a, b, rfl⟩
      obtain ⟨y1, yr1, rfl⟩ : ∃ a b, yr0 = a :: b := by
        cases yr0 with
        | nil => simp [LkAll] at lk2
        | cons a b => exact ⟨a, b, rfl⟩
      obtain rfl : yr1 = [] := by
        cases yr1 with
        | nil => rfl
        | cons a b => simp [LkAll] at lk2
      cases dp2 with
      | cons dp2h0 dp2t0 =>
      cases dp2t0 with
      | cons dp2h1 dp2t1 =>
      cases dp2t1
      obtain ⟨lk20, lk21, -⟩ := lk2
      obtain ⟨sh20, sh21, -⟩ := sh2
      refine ⟨_, rfl, p, C, dx, _, _, rfl, hp, cl, na _ (by simp), lk0, _, rfl, q, C, dy, _, _, rfl, hq, cl, na _ (by simp), lk20, _, _, dph0, dp2h0, sh0, sh20, _, rfl, ?_⟩
      refine ite2 (fun h0 => ?_) (fun h0 => ?_)
      rotate_left
      · simp only [eqAll, (by simpa using h0 : PyData.eqv _ _ = false), Bool.false_and, Bool.and_false, Bool.true_and] at k
        exact k
      refine ⟨_, rfl, p, C, dx, _, _, rfl, hp, cl, na _ (by simp), lk1, _, rfl, q, C, dy, _, _, rfl, hq, cl, na _ (by simp), lk21, _, _, dph1, dp2h1, sh1, sh21, ?_⟩
      simp only [eqAll, h0, Bool.true_and, Bool.and_true] at k
      exact k
abbrev sFileE : Stmt := inClass (top 15) 1
theorem scFileE : FnScope ["self", "other"] ["self", "other"] (defScope sFileE) := ⟨rfl, rfl, rfl, by decide +kernel, rfl, by decide +kernel, by decide +kernel⟩
theorem eq_File (F : Fun K "__eq__" "File.__eq__" sFileE f fd) (mi : mg "isinstance" = none) (gC : mg "File" = some (.ref C)) (cl : Cls K C) (TC : TyC K C) (na : ∀ n ∈ (["owner"] : List Str), NoAttr K C n) : FnOk P w K mg base CX0 1 f fd ["self", "other"] (spEqD K C ["owner"]) := by
  refine F.ok scFileE (fun vs H Q E h => ?_) (fun cdv A outer s H vs Q E hr h => ?_)
  · obtain ⟨p, y, xs, ds, rfl, _⟩ := h
    rfl
  · obtain ⟨p, y, xs, ds, rfl, ⟨dx, fs, hp, lk⟩, dp, sh, k⟩ := h
    refine ⟨_, pss_one (ps_ret (pe_and (pe_callB call_isi (by rfl) mi (by decide +kernel) (pa_cons (pv 1) (pa_cons (pe_glob (v := .ref C) (by rfl) gC rfl) pa_nil))) (pe_one (pe_cmpR (op_eqD hr.units) (pe_fld (pv 0) rfl) (pe_fld (pv 1) rfl) (nomark _))))), ?_⟩
    rcases k with ⟨t, ty, kt, k⟩ | ⟨q, ys, es, rfl, ⟨dy, gs, hq, lk2⟩, dp2, sh2, k⟩
    · exact ⟨_, rfl, y, _, t, _, false, rfl, .own C, ty, kt, _, rfl, iteF k⟩
    · refine ⟨_, rfl, _, _, _, _, true, rfl, .own C, .base (.ins hq cl TC.c1 TC.c2 TC.c3 TC.c4), kit_self, _, rfl, iteT ?_⟩
      obtain ⟨x0, xr0, rfl⟩ : ∃ a b, xs = a :: b := by
        cases xs with
        | nil => simp [LkAll] at lk
        | cons a b => exact ⟨a, b, rfl⟩
      obtain rfl : xr0 = [] := by
        cases xr0 with
        | nil => rfl
        | cons a b => simp [LkAll] at lk
      cases dp with
      | cons dph0 dpt0 =>
      cases dpt0
      obtain ⟨lk0, -⟩ := lk
      obtain ⟨sh0, -⟩ := sh
      obtain ⟨y0, yr0, rfl⟩ : ∃ a b, ys = a :: b := by
        cases ys with
        | nil => simp [LkAll] at lk2
        | cons a b => exact ⟨a, b, rfl⟩
      obtain rfl : yr0 = [] := by
        cases yr0 with
        | nil => rfl
        | cons a b => simp [LkAll] at lk2
      cases dp2 with
      | cons dp2h0 dp2t0 =>
      cases dp2t0
      obtain ⟨lk20, -⟩ := lk2
      obtain ⟨sh20, -⟩ := sh2
      refine ⟨_, rfl, p, C, dx, _, _, rfl, hp, cl, na _ (by simp), lk0, _, rfl, q, C, dy, _, _, rfl, hq, cl, na _ (by simp), lk20, _, _, dph0, dp2h0, sh0, sh20, ?_⟩
      simp only [eqAll, Bool.true_and, Bool.and_true] at k
      exact k
abbrev sLinkE : Stmt := inClass (top 16) 1
theorem scLinkE : FnScope ["self", "other"] ["self", "other"] (defScope sLinkE) := ⟨rfl, rfl, rfl, by decide +kernel, rfl, by decide +kernel, by decide +kernel⟩
theorem eq_Link (F : Fun K "__eq__" "Link.__eq__" sLinkE f fd) (mi : mg "isinstance" = none) (gC : mg "Link" = some (.ref C)) (cl : Cls K C) (TC : TyC K C) (na : ∀ n ∈ (["owner", "text"] : List Str), NoAttr K C n) : FnOk P w K mg base CX0 1 f fd ["self", "other"] (spEqD K C ["owner", "text"]) := by
  refine F.ok scLinkE (fun vs H Q E h => ?_) (fun cdv A outer s H vs Q E hr h => ?_)
  · obtain ⟨p, y, xs, ds, rfl, _⟩ := h
    rfl
  · obtain ⟨p, y, xs, ds, rfl, ⟨dx, fs, hp, lk⟩, dp, sh, k⟩ := h
    refine ⟨_, pss_one (ps_ret (pe_and (pe_callB call_isi (by rfl) mi (by decide +kernel) (pa_cons (pv 1) (pa_cons (pe_glob (v := .ref C) (by rfl) gC rfl) pa_nil))) (pe_and (pe_cmpR (op_eqD hr.units) (pe_fld (pv 0) rfl) (pe_fld (pv 1) rfl) (nomark _)) (pe_one (pe_cmpR (op_eqD hr.units) (pe_fld (pv 0) rfl) (pe_fld (pv 1) rfl) (nomark _)))))), ?_⟩
    rcases k with ⟨t, ty, kt, k⟩ | ⟨q, ys, es, rfl, ⟨dy, gs, hq, lk2⟩, dp2, sh2, k⟩
    · exact ⟨_, rfl, y, _, t, _, false, rfl, .own C, ty, kt, _, rfl, iteF k⟩
    · refine ⟨_, rfl, _, _, _, _, true, rfl, .own C, .base (.ins hq cl TC.c1 TC.c2 TC.c3 TC.c4), kit_self, _, rfl, iteT ?_⟩
      obtain ⟨x0, xr0, rfl⟩ : ∃ a b, xs = a :: b := by
        cases xs with
        | nil => simp [LkAll] at lk
        | cons a b => exact ⟨a, b, rfl⟩
      obtain ⟨x1, xr1, rfl⟩ : ∃ a b, xr0 = a :: b := by
        cases xr0 with
        | nil => simp [LkAll] at lk
        | cons a b => exact ⟨a, b, rfl⟩
      obtain rfl : xr1 = [] := by
        cases xr1 with
        | nil => rfl
        | cons a b => simp [LkAll] at lk
      cases dp with
      | cons dph0 dpt0 =>
      cases dpt0 with
      | cons dph1 dpt1 =>
      cases dpt1
      obtain ⟨lk0, lk1, -⟩ := lk
      obtain ⟨sh0, sh1, -⟩ := sh
      obtain ⟨y0, yr0, rfl⟩ : ∃ a b, ys = a :: b := by
        cases ys with
        | nil => simp [LkAll] at lk2
        | cons a b => exact ⟨a, b, rfl⟩
      obtain ⟨y1, yr1, rfl⟩ : ∃ a b, yr0 = a :: b := by
        cases yr0 with
        | nil => simp [LkAll] at lk2
        | cons a b => exact ⟨a, b, rfl⟩
      obtain rfl : yr1 = [] := by
        cases yr1 with
        | nil => rfl
        | cons a b => simp [LkAll] at lk2
      cases dp2 with
      | cons dp2h0 dp2t0 =>
      cases dp2t0 with
      | cons dp2h1 dp2t1 =>
      cases dp2t1
      obtain ⟨lk20, lk21, -⟩ := lk2
      obtain ⟨sh20, sh21, -⟩ := sh2
      refine ⟨_, rfl, p, C, dx, _, _, rfl, hp, cl, na _ (by simp), lk0, _, rfl, q, C, dy, _, _, rfl, hq, cl, na _ (by simp), lk20, _, _, dph0, dp2h0, sh0, sh20, _, rfl, ?_⟩
      refine ite2 (fun h0 => ?_) (fun h0 => ?_)
      rotate_left
      · simp only [eqAll, (by simpa using h0 : PyData.eqv _ _ = false), Bool.false_and, Bool.and_false, Bool.true_and] at k
        exact k
      refine ⟨_, rfl, p, C, dx, _, _, rfl, hp, cl, na _ (by simp), lk1, _, rfl, q, C, dy, _, _, rfl, hq, cl, na _ (by simp), lk21, _, _, dph1, dp2h1, sh1, sh21, ?_⟩
      simp only [eqAll, h0, Bool.true_and, Bool.and_true] at k
      exact k
abbrev sGoneE : Stmt := inClass (top 17) 1
theorem scGoneE : FnScope ["self", "other"] ["self", "other"] (defScope sGoneE) := ⟨rfl, rfl, rfl, by decide +kernel, rfl, by decide +kernel, by decide +kernel⟩
theorem eq_Gone (F : Fun K "__eq__" "Gone.__eq__" sGoneE f fd) (mi : mg "isinstance" = none) (gC : mg "Gone" = some (.ref C)) (cl : Cls K C) (TC : TyC K C) (na : ∀ n ∈ (["owner", "above"] : List Str), NoAttr K C n) : FnOk P w K mg base CX0 1 f fd ["self", "other"] (spEqD K C ["owner", "above"]) := by
  refine F.ok scGoneE (fun vs H Q E h => ?_) (fun cdv A outer s H vs Q E hr h => ?_)
  · obtain ⟨p, y, xs, ds, rfl, _⟩ := h
    rfl
  · obtain ⟨p, y, xs, ds, rfl, ⟨dx, fs, hp, lk⟩, dp, sh, k⟩ := h
    refine ⟨_, pss_one (ps_ret (pe_and (pe_callB call_isi (by rfl) mi (by decide +kernel) (pa_cons (pv 1) (pa_cons (pe_glob (v := .ref C) (by rfl) gC rfl) pa_nil))) (pe_and (pe_cmpR (op_eqD hr.units) (pe_fld (pv 0) rfl) (pe_fld (pv 1) rfl) (nomark _)) (pe_one (pe_cmpR (op_eqD hr.units) (pe_fld (pv 0) rfl) (pe_fld (pv 1) rfl) (nomark _)))))), ?_⟩
    rcases k with ⟨t, ty, kt, k⟩ | ⟨q, ys, es, rfl, ⟨dy, gs, hq, lk2⟩, dp2, sh2, k⟩
    · exact ⟨_, rfl, y, _, t, _, false, rfl, .own C, ty, kt, _, rfl, iteF k⟩
    · refine ⟨_, rfl, _, _, _, _, true, rfl, .own C, .base (.ins hq cl TC.c1 TC.c2 TC.c3 TC.c4), kit_self, _, rfl, iteT ?_⟩
      obtain ⟨x0, xr0, rfl⟩ : ∃ a b, xs = a :: b := by
        cases xs with
        | nil => simp [LkAll] at lk
        | cons a b => exact ⟨a, b, rfl⟩
      obtain ⟨x1, xr1, rfl⟩ : ∃ a b, xr0 = a :: b := by
        cases xr0 with
        | nil => simp [LkAll] at lk
        | cons a b => exact ⟨a, b, rfl⟩
      obtain rfl : xr1 = [] := by
        cases xr1 with
        | nil => rfl
        | cons a b => simp [LkAll] at lk
      cases dp with
      | cons dph0 dpt0 =>
      cases dpt0 with
      | cons dph1 dpt1 =>
      cases dpt1
      obtain ⟨lk0, lk1, -⟩ := lk
      obtain ⟨sh0, sh1, -⟩ := sh
      obtain ⟨y0, yr0, rfl⟩ : ∃ a b, ys = a :: b := by
        cases ys with
        | nil => simp [LkAll] at lk2
        | cons a b => exact ⟨a, b, rfl⟩
      obtain ⟨y1, yr1, rfl⟩ : ∃ a b, yr0 = a :: b := by
        cases yr0 with
        | nil => simp [LkAll] at lk2
        | cons a b => exact ⟨a, b, rfl⟩
      obtain rfl : yr1 = [] := by
        cases yr1 with
        | nil => rfl
        | cons a b => simp [LkAll] at lk2
      cases dp2 with
      | cons dp2h0 dp2t0 =>
      cases dp2t0 with
      | cons dp2h1 dp2t1 =>
      cases dp2t1
      obtain ⟨lk20, lk21, -⟩ := lk2
      obtain ⟨sh20, sh21, -⟩ := sh2
      refine ⟨_, rfl, p, C, dx, _, _, rfl, hp, cl, na _ (by simp), lk0, _, rfl, q, C, dy, _, _, rfl, hq, cl, na _ (by simp), lk20, _, _, dph0, dp2h0, sh0, sh20, _, rfl, ?_⟩
      refine ite2 (fun h0 => ?_) (fun h0 => ?_)
      rotate_left
      · simp only [eqAll, (by simpa using h0 : PyData.eqv _ _ = false), Bool.false_and, Bool.and_false, Bool.true_and] at k
        exact k
      refine ⟨_, rfl, p, C, dx, _, _, rfl, hp, cl, na _ (by simp), lk1, _, rfl, q, C, dy, _, _, rfl, hq, cl, na _ (by simp), lk21, _, _, dph1, dp2h1, sh1, sh21, ?_⟩
      simp only [eqAll, h0, Bool.true_and, Bool.and_true] at k
      exact k
end
end NW

set_option maxRecDepth 100000
set_option maxHeartbeats 4000000
/-! making an object in a try body; x in [..] by own __eq__, all answers False -/
namespace NG
open PySem PySem.SeqAt
open AutoSeq1 (wpAny_loadPart')
open MeetsSeq MeetsSeq2 MeetsSeq3 SeqRoads2 GQ
section
variable {prog : Program} {w : World} {A : Around} {R : Result → Shared → Prop}
/-- at each turn the list is read anew: N items, none equal to x -/
def LoopF (prog : Program) (w : World) (A : Around) (E : Value → Shared → Prop) (l : Addr) (x : Value) (N : Nat) (I : Nat → Shared → Prop) : Prop :=
  ∀ i s, I i s → ∃ (items : Array Value) (n : Nat), s.heap.get? l = some { cls := .type "list", data := .seq items n } ∧ items.size = N ∧
    ∀ (h1 : i < items.size), wpAny (model prog w) A.in1 (eqBool items[i] x) (fun r s' => r = false ∧ I (i + 1) s') E s
theorem in_loopF (l : Addr) (x : Value) (N : Nat) (I : Nat → Shared → Prop) (hl : LoopF prog w A (fun e s' => R (.error e) s') l x N I)
    (fin : ∀ s, I N s → R (.ok (.ret (.bool false))) s) (k : Nat) :
    ∀ i : Nat, N - i = k → i ≤ N → ∀ s, I i s →
      wpAny (model prog w) A.in1 (Builtin.«list.__contains__.loop» ⟨[.ref l, x, rawInt i], []⟩) (FinOf prog w A R) (fun e s' => R (.error e) s') s := by
  induction k with
  | zero =>
    intro i hk hi s h
    obtain ⟨items, n, hl1, hs1, _⟩ := hl _ _ h
    have hi' : i = N := by omega
    have hR : R (.ok (.ret (.bool false))) s := fin s (hi' ▸ h)
    obtain ⟨hp, g, d, tk, os⟩ := s
    wp_walk using wpAny_loadPart' hl1
    have hi1 : items[((i : Nat) : Int).toNat]? = none := by simp; omega
    rw [hi1]
    wp_walk
    exact hR
  | succ k ih =>
    intro i hk hi s h
    obtain ⟨items, n, hl1, hs1, turn⟩ := hl _ _ h
    have hlt : i < items.size := by omega
    have ht := turn hlt
    obtain ⟨hp, g, d, tk, os⟩ := s
    wp_walk using wpAny_loadPart' hl1
    have hi1 : items[((i : Nat) : Int).toNat]? = some items[i] := by simp [hlt]
    have hc : ((i : Int) + 1) = ((i + 1 : Nat) : Int) := by omega
    rw [hi1]
    refine wpAny_bind (wpAny_mono ht (fun r s2 h2 => ?_) fun _ _ x => x)
    obtain ⟨hr, h2⟩ := h2
    subst hr
    have hrec := ih (i + 1) (by omega) (by omega) s2 h2
    obtain ⟨hp2, g2, d2, tk2, os2⟩ := s2
    wp_walk
    rw [hc]
    exact ⟨plainId_quiet plain_contains_loop _, codeAny_builtin entry_contains_loop (by
      rw [Around.under_plainId plain_contains_loop _]
      exact hrec)⟩
theorem list_inF (l : Addr) (x : Value) (N : Nat) (I : Nat → Shared → Prop) (hl : LoopF prog w A (fun e s' => R (.error e) s') l x N I)
    (fin : ∀ s, I N s → R (.ok (.ret (.bool false))) s) {s : Shared} (h : I 0 s) :
    wpAny (model prog w) A.in1 (Builtin.«list.__contains__» ⟨[.ref l, x], []⟩) (FinOf prog w A R) (fun e s' => R (.error e) s') s := by
  obtain ⟨items, n, hl1, hs1, _⟩ := hl _ _ h
  have hrec := in_loopF (A := A) (R := R) l x N I hl fin _ 0 rfl (Nat.zero_le _) s h
  obtain ⟨hp, g, d, tk, os⟩ := s
  wp_walk using wpAny_loadPart' hl1
  exact ⟨plainId_quiet plain_contains_loop _, codeAny_builtin entry_contains_loop (by
    rw [Around.under_plainId plain_contains_loop _]
    exact hrec)⟩
end
section
variable {prog : Program} {w : World} {A : Around} {E : Value → Shared → Prop} {s : Shared}
theorem op_inF {l : Addr} {x : Value} {N : Nat} {Q : Value → Shared → Prop} (I : Nat → Shared → Prop) (hl : LoopF prog w A E l x N I)
    (fin : ∀ s, I N s → Q (.bool false) s) (h : I 0 s) : wpAny (model prog w) A (compareOp .In x (.ref l)) Q E s := by
  obtain ⟨items, n, hl1, _, _⟩ := hl _ _ h
  show wpAny _ A (do return .bool (← contains (.ref l) x)) Q E s
  refine wpAny_bind (wpAny_contains_slot ⟨_, hl1, rfl⟩ F.slot_list_contains (call_here F.slot_list_contains ⟨_, hl1, rfl⟩ F.entry_list_contains (F.args_list_contains_2 _ _) ?_))
  refine list_inF (R := wants (fun r s' => wpAny (model prog w) A (truthy r) (fun b s' => wpAny (model prog w) A (pure (Value.bool b)) Q E s') E s') E) l x N I hl (fun s' q => ?_) h
  exact wpAny_truthy_bool (wpAny_pure (fin s' q))
end
end NG
namespace NG
open PySem PySem.W PySem.Calls PyProof.Rows
section
variable {prog : Program} {w : World} {A : Around} {E : Value → Shared → Prop} {s : Shared} {K : Frag} {x C f : Addr} {dx : Addr} {od : Option Obj} {v : Value} {T id : String}
theorem tup_declines {a : Addr} {items : Array Value} {Q : Value → Shared → Prop} (ha : s.heap.IsTuple a items) (X : K.In s.heap) (I : InstAt s.heap x (instObj C dx) C od) (hs : subIn K (.ref C) (.type "tuple") = some false)
    (h : Q .notImplemented s) : wpAny (model prog w) A (call (.builtin "tuple.__eq__") [.ref a, .ref x]) Q E s := by
  obtain ⟨⟨cls, dd, data, sl⟩, ho, hc, n, hd⟩ := id ha
  simp only at hc hd
  subst hc hd
  refine GQ.call_here F.slot_tuple_eq ⟨_, ho, rfl⟩ F.entry_tuple_eq (F.args_tuple_eq_2 _ _) ?_
  have hi : ∀ {Q : Bool → Shared → Prop} {A : Around} {E : Value → Shared → Prop}, Q false s → wpAny (model prog w) A (isInstance (.ref x) (.type "tuple")) Q E s := fun hq => by
    unfold isInstance
    exact wpAny_bind (I.type.here ((looks_subIn X hs).here hq))
  obtain ⟨hp, g, d, tk, os⟩ := s
  wp_walk using hi
  exact h
theorem str_declines {z : Str} {k : Tok} {Q : Value → Shared → Prop} (I : InstAt s.heap x (instObj C dx) C od)
    (h : Q .notImplemented s) : wpAny (model prog w) A (call (.builtin "str.__eq__") [.str z k, .ref x]) Q E s := by
  refine GQ.call_here F.slot_str_eq (typeIs_str s z k) F.entry_str_eq (F.args_str_eq_2 _ _) ?_
  have hx := I.at_
  obtain ⟨hp, g, d, tk, os⟩ := s
  wp_walk using wpAny_load hx
  exact h
theorem cmpR_K {a : Value} {Q : Value → Shared → Prop} (hu : A.units < cLine) (h1 : oneThing? .Eq a (.ref x) = none) (ha : s.TypeIs a T) (slot : Slot T "__eq__" id) (X : K.In s.heap) (I : InstAt s.heap x (instObj C dx) C od) (hsub : subIn K (.ref C) (.type T) = some false)
    (hdec : ∀ {Q : Value → Shared → Prop}, Q .notImplemented s → wpAny (model prog w) A (call (.builtin id) [a, .ref x]) Q E s)
    (hs : findIn K (.ref C) "__eq__" = some (some (.ref f))) (hf : isFn K (.ref f) = true)
    (h : wpAny (model prog w) A (call (.ref f) [.ref x, a]) (PySem.W.CmpBack Q) E s) : wpAny (model prog w) A (richCompare .Eq a (.ref x)) Q E s := by
  have two : wpAny (model prog w) A (tryCompare (.ref x) "__eq__" a) (fun r s' => ∃ v, r = some v ∧ Q v s') E s := by
    unfold tryCompare
    refine wpAny_bind (ifBound_K X I hs hf (wpAny_mono h (fun v s' hv => ?_) fun _ _ e => e))
    cases v <;> first | exact hv.elim | exact wpAny_pure ⟨_, rfl, hv⟩
  unfold richCompare
  rw [h1]
  refine wpAny_holding (wpAny_bind (wpAny_cRoomFor hu ?_))
  rw [cmpInfo_Eq]
  dsimp only
  refine wpAny_bind (wpAny_typeOf ha (wpAny_bind (I.type.here ?_)))
  rw [if_pos (by simp)]
  refine wpAny_bind ((looks_subIn X hsub).here ?_)
  simp only [Bool.false_eq_true, if_false]
  refine wpAny_bind (wpAny_tryCompare_declines ha slot (hdec ⟨rfl, ?_⟩))
  dsimp only
  simp only [Bool.not_false, if_true]
  refine wpAny_bind (wpAny_mono two (fun r s' z => ?_) fun _ _ e => e)
  obtain ⟨v, rfl, hq⟩ := z
  exact wpAny_pure hq
end
end NG

namespace NG
open PySem L2
section
variable {X : Cx} {n m : Nat} {C f : Addr} {fd : FuncData} {ps : List Str} {sp : Sp} {CX : CXT} {E : XK} {D D' : Eqv}
/-- == gives False for what D says, and only makes objects -/
def EqF (X : Cx) (n : Nat) (D : Eqv) : Prop :=
  ∀ (A : Around) (pins : List (Addr × Obj)) (s : Shared) (σ : St) (H : Hp) (x y : V) (u v : Value), Sub X n A → Inv X pins σ H s → RelV x u → RelV y v → D x y H →
    wpAny (model X.prog X.w) A (eqBool u v) (fun r s' => r = false ∧ ∃ H', Inv X pins σ H' s' ∧ Ext H H') X.xe s
theorem EqF.or (h : EqF X n D) (h' : EqF X n D') : EqF X n (fun x y H => D x y H ∨ D' x y H) := fun A pins s σ H x y u v sb I rx ry d => by
  rcases d with d | d
  · exact h A pins s σ H x y u v sb I rx ry d
  · exact h' A pins s σ H x y u v sb I rx ry d
def rInF (D : Eqv) : R2 := fun x y H Q => ∃ p zs, y = .ref p ∧ H p = some (.lst zs) ∧ (∀ z ∈ zs, D z x H) ∧ ∀ H', Ext H H' → Q (.bl false) H'
theorem op_inOwnF (hD : Mon D) (h : EqF X n D) (hr : Room (n + 1) X.A) : OpR X (compareOp .In) (rInF D) := by
  intro pins s σ H x y v u Q I rx ry q
  obtain ⟨p, zs, rfl, hp, hz, k⟩ := q
  cases ry
  refine op_inF (N := zs.length) (fun _ s' => LoopI X pins σ H s') (fun i s' q => ?_) (fun s' q => ?_) ⟨H, I, Ext.rfl'⟩
  · obtain ⟨H1, I1, e1⟩ := id q
    obtain ⟨z, its, j, r, e⟩ := I1.hok p _ (e1 _ _ hp)
    refine ⟨its.toArray, j, e, by rw [List.size_toArray, ← r.length], fun h1 => ?_⟩
    have h1' : i < its.length := by simpa using h1
    have k1 : i < zs.length := by rw [r.length]; exact h1'
    obtain ⟨w1, hw1, rw1⟩ := r.get (List.getElem?_eq_getElem k1)
    have g1 : its[i]? = some its.toArray[i] := by rw [List.getElem?_eq_getElem h1'] <;> simp
    rw [g1] at hw1
    rw [Option.some.inj hw1]
    refine wpAny_mono (h X.A.in1 pins s' σ H1 _ _ _ _ ⟨hr.in1, rfl⟩ I1 rw1 rx (hD _ _ _ _ e1 (hz _ (List.getElem_mem k1)))) (fun r s2 q => ?_) fun _ _ x => x
    obtain ⟨hr, H2, I2, e2⟩ := q
    exact ⟨hr, H2, I2, e1.trans e2⟩
  · obtain ⟨H1, I1, e1⟩ := q
    exact ⟨.bl false, H1, I1, rfl, k H1 e1⟩
theorem eqBool_neG {prog : Program} {w : World} {A : Around} {E : Value → Shared → Prop} {s : Shared} {u v : Value} {Q : Bool → Shared → Prop} (hne : (u == v) = false) (hfl : ∀ a b, u ≠ .float a b)
    (h : wpAny (model prog w) A (richCompare .Eq u v) (fun r s' => ∃ b, r = .bool b ∧ Q b s') E s) : wpAny (model prog w) A (eqBool u v) Q E s := by
  unfold eqBool
  refine wpAny_holding ?_
  rw [hne]
  cases u with
  | float a b => exact absurd rfl (hfl a b)
  | _ =>
    simp only [Bool.false_eq_true, if_false]
    refine wpAny_bind (wpAny_mono h (fun v s' hv => ?_) fun _ _ x => x)
    obtain ⟨r, rfl, q⟩ := hv
    exact wpAny_truthy_bool q
/-- instances of C: what its == promises is False -/
def DInsF (K : PySem.W.Frag) (C : Addr) (R : V → V → Hp → Prop) : Eqv := fun x y H => ∃ a b dx dy fs gs, x = .ref a ∧ y = .ref b ∧ a ≠ b ∧ H a = some (.ins C dx fs) ∧ H b = some (.ins C dy gs) ∧ R x y H
/-- a tuple or a text ahead of an instance of C -/
def DOthF (K : PySem.W.Frag) (C : Addr) (R : V → V → Hp → Prop) : Eqv := fun x y H => ∃ b dy gs, y = .ref b ∧ H b = some (.ins C dy gs) ∧ ((∃ a xs, x = .ref a ∧ a ≠ b ∧ SqT K H a xs) ∨ ∃ z, x = .str z) ∧ R y x H
/-- what the own == must promise of the two -/
def SaysF (K : PySem.W.Frag) (sp : Sp) (E : XK) (R : V → V → Hp → Prop) : Prop := ∀ x y H, R x y H → sp [x, y] H (fun v H' => ∃ k, v = .bl k ∧ k = false ∧ Ext H H') E
theorem eqF_ins {R : V → V → Hp → Prop} (F : FnOk X.prog X.w X.K X.mg X.base CX n f fd ps sp) (hs : PySem.W.findIn X.K (.ref C) "__eq__" = some (some (.ref f))) (hf : PySem.W.isFn X.K (.ref f) = true) (hb : Binds X.K fd ps []) (hx : Passes CX X E)
    (hR : SaysF X.K sp E R) : EqF X n (DInsF X.K C R) := by
  intro A pins s σ H x y u v sb I rx ry d
  obtain ⟨a, b, dx, dy, fs, gs, rfl, rfl, hab, ha, hb', r⟩ := d
  cases rx
  cases ry
  obtain ⟨mA, J, _⟩ := ins_get I.hok ha
  obtain ⟨mB, J', _⟩ := ins_get I.hok hb'
  obtain ⟨od, J, _⟩ := J.look
  obtain ⟨od', J', _⟩ := J'.look
  obtain ⟨m, hF⟩ := I.fr
  refine GQ.eqBool_refG hab (PySem.W.cmp_K (op := .Eq) (tb := .ref C) sb.room.units0 hF I.ok.mod.kin J J'.type (by simp [PySem.W.notFirst]) hs hf ?_)
  refine wpAny_mono (own_run F hb hx sb I (show RelV (.ref b) (.ref b) from rfl) (R := fun k H' => k = false ∧ Ext H H') (hR _ _ _ r)) (fun r s' z => ?_) fun _ _ x => x
  obtain ⟨k, rfl, H', I', rfl, q⟩ := z
  exact ⟨false, rfl, rfl, H', I', q⟩
theorem eqF_oth {R : V → V → Hp → Prop} (F : FnOk X.prog X.w X.K X.mg X.base CX n f fd ps sp) (hs : PySem.W.findIn X.K (.ref C) "__eq__" = some (some (.ref f))) (hf : PySem.W.isFn X.K (.ref f) = true) (hb : Binds X.K fd ps []) (hx : Passes CX X E)
    (ht : PySem.W.subIn X.K (.ref C) (.type "tuple") = some false) (hst : PySem.W.subIn X.K (.ref C) (.type "str") = some false) (hR : SaysF X.K sp E R) : EqF X n (DOthF X.K C R) := by
  intro A pins s σ H x y u v sb I rx ry d
  obtain ⟨b, dy, gs, rfl, hb', ho, r⟩ := d
  cases ry
  obtain ⟨mB, J', _⟩ := ins_get I.hok hb'
  obtain ⟨od', J', _⟩ := J'.look
  have hu := sb.room.units0
  have own : wpAny (model X.prog X.w) A (call (.ref f) [.ref b, u]) (PySem.W.CmpBack fun v s' => ∃ k, v = .bool k ∧ k = false ∧ ∃ H', Inv X pins σ H' s' ∧ Ext H H') X.xe s := by
    refine wpAny_mono (own_run F hb hx sb I rx (R := fun k H' => k = false ∧ Ext H H') (hR _ _ _ r)) (fun r s' z => ?_) fun _ _ x => x
    obtain ⟨k, rfl, H', I', rfl, q⟩ := z
    exact ⟨false, rfl, rfl, H', I', q⟩
  rcases ho with ⟨a, xs, rfl, hab, hq⟩ | ⟨z, rfl⟩
  · cases rx
    obtain ⟨its, r', pl, hz⟩ := I.tuple hq
    obtain ⟨o, ho, hc, _⟩ := id pl
    exact GQ.eqBool_refG hab (cmpR_K hu rfl ⟨o, ho, hc⟩ PySem.F.slot_tuple_eq I.kIn J' ht (fun q => tup_declines pl I.kIn J' ht q) hs hf own)
  · obtain ⟨t, rfl⟩ := rx
    exact eqBool_neG rfl (fun _ _ e => by cases e) (cmpR_K hu rfl (typeIs_str s z t) PySem.F.slot_str_eq I.kIn J' hst (fun q => str_declines J' q) hs hf own)
end
/-! making an object where its __init__ may raise -/
section
variable {X : Cx} {CX : CXT} {k : Nat} {f C : Addr} {fd : FuncData} {ps : List Str} {sp : Sp} {E : St → XK} {x : Str} {p pos : Pos} {e : Expr} {es : List Expr} {t : TA}
theorem run_makeS {pins : List (Addr × Obj)} {σ : St} {H : Hp} {s : Shared} {Q : VK} {us : List Value} {vs : List V} (M : Mk X.K C f) (F : FnOk X.prog X.w X.K X.mg X.base CX k f fd ps sp) (hr : Room (k + 1) X.A) (hb : Binds X.K fd ps [])
    (hx : PassesAt CX X σ (E σ)) (I : Inv X pins σ H s) (r : Vals vs us)
    (h : ∀ x dx, H x = none → H dx = none → dx ≠ x → sp (.ref x :: vs) (upd (upd H dx (.own x)) x (.ins C dx [])) (fun v H2 => v = .non ∧ Q (.ref x) H2) (E σ)) :
    wpAny (model X.prog X.w) X.A (call (.ref C) us) (EP X pins σ Q) X.xe s := by
  have hq := h (s.heap.objs.size + 1) s.heap.objs.size (I.hok.fresh (Nat.le_succ _)) (I.hok.fresh (Nat.le_refl _)) (Nat.ne_of_lt (Nat.lt_succ_self _))
  have I2 := Inv.made (C := C) I
  have r2 : Vals (V.ref (s.heap.objs.size + 1) :: vs) (Value.ref (s.heap.objs.size + 1) :: us) := .cons rfl r
  have hl : (Value.ref (s.heap.objs.size + 1) :: us).length = ps.length := by
    have e := r2.length
    rw [F.len _ _ _ _ hq] at e
    exact e.symm
  have b := hb _ (Value.ref (s.heap.objs.size + 1) :: us) I2.kIn (by rw [List.append_nil]; exact hl)
  rw [List.append_nil] at b
  refine wpAny_call (make_map (f := f) I.kIn M.makes M.init (beq_iff_eq.mp M.fn) (codeAny_mono (F.run _ X.stack _ _ ⟨Value.ref (s.heap.objs.size + 1) :: us, []⟩ (Value.ref (s.heap.objs.size + 1) :: us) _ _ (E σ) (hr.make C us [])
    (I2.env0.make C us []) b r2 hq) fun r s' hq' => ?_))
  cases r with
  | error e => exact hx pins _ _ e s' I2 hq'
  | ok fl =>
    cases fl with
    | ret u =>
      obtain ⟨v, H', I3, rv, ev, q3⟩ := I2.after hq'
      subst ev
      exact ⟨rv, ⟨V.ref (s.heap.objs.size + 1), H', I3, rfl, q3⟩⟩
    | next => exact False.elim hq'
    | brk => exact False.elim hq'
    | cont => exact False.elim hq'
def tMakeS (C : Addr) (sp : Sp) (E : St → XK) (t : TA) : TE := fun σ H Q => t σ H fun vs H1 => ∀ x dx, H1 x = none → H1 dx = none → dx ≠ x → sp (.ref x :: vs) (upd (upd H1 dx (.own x)) x (.ins C dx [])) (fun v H2 => v = .non ∧ Q (.ref x) H2) (E σ)
theorem pe_makeS (M : Mk X.K C f) (F : FnOk X.prog X.w X.K X.mg X.base CX k f fd ps sp) (hr : Room (k + 1) X.A) (hg : Gl X x) (hm : X.mg x = some (.ref C)) (hb : Binds X.K fd ps []) (hx : ∀ σ, PassesAt CX X σ (E σ))
    (ha : PA X (e :: es) t) (hdb : (x == ("__debug__" : Str)) = false := by decide) (he : starEach (e :: es) X.env = (false, eval e X.env) :: starEach es X.env := by rfl) (hpl : (backTo pos (starEach es X.env)).any (·.1) = false := by rfl) :
    PE X (.Call (.Name x p) (e :: es) [] pos) (tMakeS C sp E t) := by
  refine ⟨fun pins s σ H Q I h => ?_⟩
  refine wpAny_Call_Name_kw (ld_glob I hg hm ?_ hdb)
  refine PySem.W.callWith_K (h₀ := X.base) I.ok.mod.kin M.kp (thn (ha.run pos pins s σ H _ I h) fun us s1 ⟨vs, H1, I1, r, q⟩ => ⟨I1.kIn, ?_⟩) he hpl
  exact run_makeS M F hr hb (hx σ) I1 r q
end
end NG

set_option maxRecDepth 100000
set_option maxHeartbeats 4000000
/-! == and != of tuples and lists whose items are compared by own defs: the state moves, an invariant of it stays -/
namespace NG
open PySem PySem.SeqAt
open AutoSeq1 (wpAny_loadPart')
open MeetsSeq MeetsSeq2 MeetsSeq3 SeqRoads2 GQ
/-- all of the first n -/
def allTo (e : Nat → Bool) (n : Nat) : Bool := (List.range n).all e
theorem allTo_true {e : Nat → Bool} {n : Nat} (h : ∀ j, j < n → e j = true) : allTo e n = true := List.all_eq_true.mpr fun j hj => h j (List.mem_range.mp hj)
theorem allTo_false {e : Nat → Bool} {n i : Nat} (hi : i < n) (h : e i = false) : allTo e n = false := by
  cases q : allTo e n with
  | false => rfl
  | true =>
    have := List.all_eq_true.mp q i (List.mem_range.mpr hi)
    rw [h] at this
    cases this
section
variable {prog : Program} {w : World} {A : Around} {R : Result → Shared → Prop} {s : Shared}
/-- the i-th items compare to e i, wherever I holds, and I holds again -/
def Steps (prog : Program) (w : World) (A : Around) (E : Value → Shared → Prop) (I : Shared → Prop) (xs ys : Array Value) (e : Nat → Bool) : Prop :=
  ∀ (i : Nat) (a : i < xs.size) (b : i < ys.size) (s : Shared), I s → wpAny (model prog w) A (eqBool xs[i] ys[i]) (fun r s' => r = e i ∧ I s') E s
theorem zip_at {xs ys : Array Value} {i : Nat} {y x : Value} {rest : List (Value × Value)} (hz : (y, x) :: rest = (xs.toList.zip ys.toList).drop i) : ∃ (a : i < xs.size) (b : i < ys.size), y = xs[i] ∧ x = ys[i] ∧ rest = (xs.toList.zip ys.toList).drop (i + 1) := by
  have hl : i < (xs.toList.zip ys.toList).length := by
    have := congrArg List.length hz
    rw [List.length_drop, List.length_cons] at this
    omega
  have hm := hl
  rw [List.length_zip] at hm
  have a : i < xs.size := by simpa using Nat.lt_of_lt_of_le hm (Nat.min_le_left _ _)
  have b : i < ys.size := by simpa using Nat.lt_of_lt_of_le hm (Nat.min_le_right _ _)
  rw [List.drop_eq_getElem_cons hl] at hz
  obtain ⟨p, q⟩ := List.cons.inj hz
  refine ⟨a, b, ?_, ?_, q⟩
  · have := congrArg Prod.fst p
    simpa using this
  · have := congrArg Prod.snd p
    simpa using this
theorem zip_end {xs ys : Array Value} {i : Nat} (hz : [] = (xs.toList.zip ys.toList).drop i) : min xs.size ys.size ≤ i := by
  have := congrArg List.length hz
  rw [List.length_drop, List.length_zip, List.length_nil] at this
  have h2 : min xs.toList.length ys.toList.length ≤ i := by omega
  simpa using h2
theorem tup_eqV {l b : Addr} {xs ys : Array Value} {n m : Nat} {dd dd2 : Option Addr} {sl sl2 : Array (Option Value)} (I : Shared → Prop) (e : Nat → Bool)
    (hl : s.heap.get? l = some { cls := .type "tuple", dict := dd, data := .seq xs n, slots := sl }) (hb : s.heap.get? b = some { cls := .type "tuple", dict := dd2, data := .seq ys m, slots := sl2 }) (h0 : I s)
    (he : Steps prog w A.in1 (fun e s' => R (.error e) s') I xs ys e) (fin : ∀ s', I s' → R (.ok (.ret (.bool (allTo e (min xs.size ys.size) && xs.size == ys.size)))) s') :
    wpAny (model prog w) A.in1 (Builtin.«tuple.__eq__» ⟨[.ref l, .ref b], []⟩) (FinOf prog w A R) (fun e s' => R (.error e) s') s := by
  obtain ⟨hp, g, d, tk, os⟩ := s
  have f2 := AutoSeq1.sub_tuple_tuple
  wp_walk using wpAny_loadPart' hl, wpAny_loadPart' hb, wpAny_forIn_list _ (fun rest b s' => b.1 = none ∧ I s' ∧ ∃ i, rest = (xs.toList.zip ys.toList).drop i ∧ ∀ j, j < i → e j = true) _
  case turn =>
    rintro ⟨y, x⟩ rest b s' ⟨nb, hI, i, hz, ht⟩
    obtain ⟨a1, a2, rfl, rfl, hr⟩ := zip_at hz
    refine wpAny_bind (wpAny_mono (he i a1 a2 s' hI) (fun r s2 q => ?_) fun _ _ x => x)
    obtain ⟨rfl, hI2⟩ := q
    have hf := fin s2 hI2
    obtain ⟨hp2, g2, d2, tk2, os2⟩ := s2
    cases k : e i with
    | true =>
      wp_walk
      refine ⟨rfl, hI2, i + 1, hr, fun j hj => ?_⟩
      by_cases q : j = i
      · rw [q]; exact k
      · exact ht j (by omega)
    | false =>
      wp_walk
      rw [allTo_false (by omega : i < min xs.size ys.size) k, Bool.false_and] at hf
      exact hf
  case fin =>
    rintro ⟨b1, b2⟩ s' ⟨nb, hI, i, hz, ht⟩
    simp only at nb
    subst nb
    have hf := fin s' hI
    rw [allTo_true (fun j hj => ht j (by have := zip_end hz; omega)), Bool.true_and] at hf
    obtain ⟨hp2, g2, d2, tk2, os2⟩ := s'
    wp_walk
    simpa [Builtin.Tuple.tupleCompareSizes] using hf
  case h =>
    exact ⟨rfl, h0, 0, rfl, fun j hj => absurd hj (Nat.not_lt_zero _)⟩
theorem tup_neV {l b : Addr} {xs ys : Array Value} {n m : Nat} {dd dd2 : Option Addr} {sl sl2 : Array (Option Value)} (I : Shared → Prop) (e : Nat → Bool)
    (hl : s.heap.get? l = some { cls := .type "tuple", dict := dd, data := .seq xs n, slots := sl }) (hb : s.heap.get? b = some { cls := .type "tuple", dict := dd2, data := .seq ys m, slots := sl2 }) (h0 : I s)
    (he : Steps prog w A.in1 (fun e s' => R (.error e) s') I xs ys e) (fin : ∀ s', I s' → R (.ok (.ret (.bool (!(allTo e (min xs.size ys.size) && xs.size == ys.size))))) s') :
    wpAny (model prog w) A.in1 (Builtin.«tuple.__ne__» ⟨[.ref l, .ref b], []⟩) (FinOf prog w A R) (fun e s' => R (.error e) s') s := by
  obtain ⟨hp, g, d, tk, os⟩ := s
  have f2 := AutoSeq1.sub_tuple_tuple
  wp_walk using wpAny_loadPart' hl, wpAny_loadPart' hb, wpAny_forIn_list _ (fun rest b s' => b.1 = none ∧ I s' ∧ ∃ i, rest = (xs.toList.zip ys.toList).drop i ∧ ∀ j, j < i → e j = true) _
  case turn =>
    rintro ⟨y, x⟩ rest b s' ⟨nb, hI, i, hz, ht⟩
    obtain ⟨a1, a2, rfl, rfl, hr⟩ := zip_at hz
    refine wpAny_bind (wpAny_mono (he i a1 a2 s' hI) (fun r s2 q => ?_) fun _ _ x => x)
    obtain ⟨rfl, hI2⟩ := q
    have hf := fin s2 hI2
    obtain ⟨hp2, g2, d2, tk2, os2⟩ := s2
    cases k : e i with
    | true =>
      wp_walk
      refine ⟨rfl, hI2, i + 1, hr, fun j hj => ?_⟩
      by_cases q : j = i
      · rw [q]; exact k
      · exact ht j (by omega)
    | false =>
      wp_walk
      rw [allTo_false (by omega : i < min xs.size ys.size) k, Bool.false_and] at hf
      exact hf
  case fin =>
    rintro ⟨b1, b2⟩ s' ⟨nb, hI, i, hz, ht⟩
    simp only at nb
    subst nb
    have hf := fin s' hI
    rw [allTo_true (fun j hj => ht j (by have := zip_end hz; omega)), Bool.true_and] at hf
    obtain ⟨hp2, g2, d2, tk2, os2⟩ := s'
    wp_walk
    have : (!(xs.size == ys.size)) = (xs.size != ys.size) := rfl
    rw [this] at hf
    simpa [Builtin.Tuple.tupleCompareSizes] using hf
  case h =>
    exact ⟨rfl, h0, 0, rfl, fun j hj => absurd hj (Nat.not_lt_zero _)⟩
/-- wherever I holds both lists are there, of the size N, and the i-th items compare to e i -/
def Turns (prog : Program) (w : World) (A : Around) (E : Value → Shared → Prop) (l b : Addr) (N : Nat) (I : Shared → Prop) (e : Nat → Bool) : Prop :=
  ∀ s, I s → ∃ (xs ys : Array Value) (n m : Nat), s.heap.get? l = some { cls := .type "list", data := .seq xs n } ∧ s.heap.get? b = some { cls := .type "list", data := .seq ys m } ∧ xs.size = N ∧ ys.size = N ∧
    ∀ (i : Nat) (h1 : i < xs.size) (h2 : i < ys.size), wpAny (model prog w) A (eqBool xs[i] ys[i]) (fun r s' => r = e i ∧ I s') E s
theorem lst_loopE {l b : Addr} {N : Nat} (I : Shared → Prop) (e : Nat → Bool) (ht : Turns prog w A.in1 (fun e s' => R (.error e) s') l b N I e)
    (fin : ∀ s', I s' → R (.ok (.ret (.bool (allTo e N)))) s') (k : Nat) :
    ∀ i : Nat, N - i = k → i ≤ N → (∀ j, j < i → e j = true) → ∀ s, I s →
      wpAny (model prog w) A.in1 (Builtin.«list.__eq__.loop» ⟨[.ref l, .ref b, rawInt i, rawInt 2], []⟩) (FinOf prog w A R) (fun e s' => R (.error e) s') s := by
  induction k with
  | zero =>
    intro i hk hi hj s h
    obtain ⟨xs, ys, n, m, hl, hb, z1, z2, _⟩ := ht _ h
    have hf := fin s h
    rw [allTo_true (fun j q => hj j (by omega))] at hf
    obtain ⟨hp, g, d, tk, os⟩ := s
    have n1 : xs[((i : Nat) : Int).toNat]? = none := by simp; omega
    have n2 : ys[((i : Nat) : Int).toNat]? = none := by simp; omega
    wp_walk using wpAny_loadPart' hl, wpAny_loadPart' hb
    rw [n1, n2]
    wp_walk using wpAny_loadPart' hl, wpAny_loadPart' hb
    show R (.ok (.ret (.bool (xs.size == ys.size)))) _
    rw [z1, z2]
    simpa using hf
  | succ k ih =>
    intro i hk hi hj s h
    obtain ⟨xs, ys, n, m, hl, hb, z1, z2, turn⟩ := ht _ h
    have l1 : i < xs.size := by omega
    have l2 : i < ys.size := by omega
    have hc := turn i l1 l2
    obtain ⟨hp, g, d, tk, os⟩ := s
    have g1 : xs[((i : Nat) : Int).toNat]? = some xs[i] := by simp [l1]
    have g2 : ys[((i : Nat) : Int).toNat]? = some ys[i] := by simp [l2]
    have c1 : ((i : Int) + 1) = ((i + 1 : Nat) : Int) := by omega
    wp_walk using wpAny_loadPart' hl, wpAny_loadPart' hb
    rw [g1, g2]
    refine wpAny_bind (wpAny_mono hc (fun r s2 q => ?_) fun _ _ x => x)
    obtain ⟨rfl, hI⟩ := q
    cases ke : e i with
    | true =>
      have hrec := ih (i + 1) (by omega) (by omega) (fun j q => by
        by_cases q2 : j = i
        · rw [q2]; exact ke
        · exact hj j (by omega)) s2 hI
      obtain ⟨hp2, g2', d2, tk2, os2⟩ := s2
      wp_walk
      rw [c1]
      exact ⟨plainId_quiet plain_eq_loop _, codeAny_builtin entry_eq_loop (by
        rw [Around.under_plainId plain_eq_loop _]
        exact hrec)⟩
    | false =>
      obtain ⟨xs2, ys2, n2, m2, hl2, hb2, z3, z4, _⟩ := ht _ hI
      have hf := fin s2 hI
      rw [allTo_false (by omega : i < N) ke] at hf
      obtain ⟨hp2, g2', d2, tk2, os2⟩ := s2
      have l3 : i < xs2.size := by omega
      have l4 : i < ys2.size := by omega
      have g3 : xs2[((i : Nat) : Int).toNat]? = some xs2[i] := by simp [l3]
      have g4 : ys2[((i : Nat) : Int).toNat]? = some ys2[i] := by simp [l4]
      wp_walk using wpAny_loadPart' hl2, wpAny_loadPart' hb2
      rw [g3, g4]
      wp_walk
      exact hf
theorem lst_loopN {l b : Addr} {N : Nat} (I : Shared → Prop) (e : Nat → Bool) (ht : Turns prog w A.in1 (fun e s' => R (.error e) s') l b N I e)
    (fin : ∀ s', I s' → R (.ok (.ret (.bool (!allTo e N)))) s') (k : Nat) :
    ∀ i : Nat, N - i = k → i ≤ N → (∀ j, j < i → e j = true) → ∀ s, I s →
      wpAny (model prog w) A.in1 (Builtin.«list.__eq__.loop» ⟨[.ref l, .ref b, rawInt i, rawInt 3], []⟩) (FinOf prog w A R) (fun e s' => R (.error e) s') s := by
  induction k with
  | zero =>
    intro i hk hi hj s h
    obtain ⟨xs, ys, n, m, hl, hb, z1, z2, _⟩ := ht _ h
    have hf := fin s h
    rw [allTo_true (fun j q => hj j (by omega))] at hf
    obtain ⟨hp, g, d, tk, os⟩ := s
    have n1 : xs[((i : Nat) : Int).toNat]? = none := by simp; omega
    have n2 : ys[((i : Nat) : Int).toNat]? = none := by simp; omega
    wp_walk using wpAny_loadPart' hl, wpAny_loadPart' hb
    rw [n1, n2]
    wp_walk using wpAny_loadPart' hl, wpAny_loadPart' hb
    show R (.ok (.ret (.bool (xs.size != ys.size)))) _
    rw [z1, z2]
    simpa using hf
  | succ k ih =>
    intro i hk hi hj s h
    obtain ⟨xs, ys, n, m, hl, hb, z1, z2, turn⟩ := ht _ h
    have l1 : i < xs.size := by omega
    have l2 : i < ys.size := by omega
    have hc := turn i l1 l2
    obtain ⟨hp, g, d, tk, os⟩ := s
    have g1 : xs[((i : Nat) : Int).toNat]? = some xs[i] := by simp [l1]
    have g2 : ys[((i : Nat) : Int).toNat]? = some ys[i] := by simp [l2]
    have c1 : ((i : Int) + 1) = ((i + 1 : Nat) : Int) := by omega
    wp_walk using wpAny_loadPart' hl, wpAny_loadPart' hb
    rw [g1, g2]
    refine wpAny_bind (wpAny_mono hc (fun r s2 q => ?_) fun _ _ x => x)
    obtain ⟨rfl, hI⟩ := q
    cases ke : e i with
    | true =>
      have hrec := ih (i + 1) (by omega) (by omega) (fun j q => by
        by_cases q2 : j = i
        · rw [q2]; exact ke
        · exact hj j (by omega)) s2 hI
      obtain ⟨hp2, g2', d2, tk2, os2⟩ := s2
      wp_walk
      rw [c1]
      exact ⟨plainId_quiet plain_eq_loop _, codeAny_builtin entry_eq_loop (by
        rw [Around.under_plainId plain_eq_loop _]
        exact hrec)⟩
    | false =>
      obtain ⟨xs2, ys2, n2, m2, hl2, hb2, z3, z4, _⟩ := ht _ hI
      have hf := fin s2 hI
      rw [allTo_false (by omega : i < N) ke] at hf
      obtain ⟨hp2, g2', d2, tk2, os2⟩ := s2
      have l3 : i < xs2.size := by omega
      have l4 : i < ys2.size := by omega
      have g3 : xs2[((i : Nat) : Int).toNat]? = some xs2[i] := by simp [l3]
      have g4 : ys2[((i : Nat) : Int).toNat]? = some ys2[i] := by simp [l4]
      wp_walk using wpAny_loadPart' hl2, wpAny_loadPart' hb2
      rw [g3, g4]
      wp_walk
      exact hf
theorem lst_eqV {l b : Addr} {N : Nat} (I : Shared → Prop) (e : Nat → Bool) (ht : Turns prog w A.in1 (fun e s' => R (.error e) s') l b N I e) (h0 : I s)
    (fin : ∀ s', I s' → R (.ok (.ret (.bool (allTo e N)))) s') : wpAny (model prog w) A.in1 (Builtin.«list.__eq__» ⟨[.ref l, .ref b], []⟩) (FinOf prog w A R) (fun e s' => R (.error e) s') s := by
  obtain ⟨xs, ys, n, m, hl, hb, z1, z2, _⟩ := ht _ h0
  have hrec := lst_loopE (A := A) (R := R) I e ht fin _ 0 rfl (Nat.zero_le _) (fun j q => absurd q (Nat.not_lt_zero _)) s h0
  obtain ⟨hp, g, d, tk, os⟩ := s
  have f3 := AutoSeq1.sub_list_list
  have zz : ¬ (xs.size != ys.size) = true := by simp [z1, z2]
  wp_walk using wpAny_loadPart' hl, wpAny_loadPart' hb
  exact ⟨plainId_quiet plain_eq_loop _, codeAny_builtin entry_eq_loop (by
    rw [Around.under_plainId plain_eq_loop _]
    exact hrec)⟩
theorem lst_neV {l b : Addr} {N : Nat} (I : Shared → Prop) (e : Nat → Bool) (ht : Turns prog w A.in1 (fun e s' => R (.error e) s') l b N I e) (h0 : I s)
    (fin : ∀ s', I s' → R (.ok (.ret (.bool (!allTo e N)))) s') : wpAny (model prog w) A.in1 (Builtin.«list.__ne__» ⟨[.ref l, .ref b], []⟩) (FinOf prog w A R) (fun e s' => R (.error e) s') s := by
  obtain ⟨xs, ys, n, m, hl, hb, z1, z2, _⟩ := ht _ h0
  have hrec := lst_loopN (A := A) (R := R) I e ht fin _ 0 rfl (Nat.zero_le _) (fun j q => absurd q (Nat.not_lt_zero _)) s h0
  obtain ⟨hp, g, d, tk, os⟩ := s
  have f3 := AutoSeq1.sub_list_list
  have zz : ¬ (xs.size != ys.size) = true := by simp [z1, z2]
  wp_walk using wpAny_loadPart' hl, wpAny_loadPart' hb
  exact ⟨plainId_quiet plain_eq_loop _, codeAny_builtin entry_eq_loop (by
    rw [Around.under_plainId plain_eq_loop _]
    exact hrec)⟩
end
end NG

set_option maxRecDepth 100000
set_option maxHeartbeats 1000000
namespace NG
open PySem L2
/-- == answers k for what D says of the two, and moves nothing that is known -/
def EqB (X : Cx) (n : Nat) (D : V → V → Bool → Hp → Prop) : Prop :=
  ∀ (A : Around) (pins : List (Addr × Obj)) (s : Shared) (σ : St) (H : Hp) (x y : V) (u v : Value) (k : Bool), Sub X n A → Inv X pins σ H s → RelV x u → RelV y v → D x y k H →
    wpAny (model X.prog X.w) A (eqBool u v) (fun r s' => r = k ∧ Inv X pins σ H s') X.xe s
/-- two tuples whose items are told of by D -/
def rTupV (K : PySem.W.Frag) (D : V → V → Bool → Hp → Prop) (g : Bool → Bool) : R2 := fun x y H Q => ∃ (a b : Addr) (xs ys : List V) (e : Nat → Bool), x = .ref a ∧ y = .ref b ∧ SqT K H a xs ∧ SqT K H b ys ∧
  (∀ (i : Nat) (p q : V), xs[i]? = some p → ys[i]? = some q → D p q (e i) H) ∧ Q (.bl (g (allTo e (min xs.length ys.length) && xs.length == ys.length))) H
/-- two lists of one length -/
def rLstV (D : V → V → Bool → Hp → Prop) (g : Bool → Bool) : R2 := fun x y H Q => ∃ (a b : Addr) (xs ys : List V) (e : Nat → Bool), x = .ref a ∧ y = .ref b ∧ H a = some (.lst xs) ∧ H b = some (.lst ys) ∧ xs.length = ys.length ∧
  (∀ (i : Nat) (p q : V), xs[i]? = some p → ys[i]? = some q → D p q (e i) H) ∧ Q (.bl (g (allTo e xs.length))) H
section
variable {X : Cx} {n : Nat} {D : V → V → Bool → Hp → Prop}
theorem vals_at {xs : List V} {its : List Value} (r : Vals xs its) {i : Nat} (h : i < its.toArray.size) : ∃ p, xs[i]? = some p ∧ RelV p its.toArray[i] := by
  have h1 : i < its.length := by simpa using h
  have h2 : i < xs.length := by rw [r.length]; exact h1
  obtain ⟨u, e, ru⟩ := r.get (List.getElem?_eq_getElem h2)
  have : its[i]? = some its.toArray[i] := by rw [List.getElem?_eq_getElem h1] <;> simp
  rw [this] at e
  exact ⟨_, List.getElem?_eq_getElem h2, (Option.some.inj e) ▸ ru⟩
theorem op_eqTV (h : EqB X n D) (hr : Room (n + 1) X.A) : OpR X (compareOp .Eq) (rTupV X.K D fun k => k) := by
  intro pins s σ H x y v u Q I rx ry q
  obtain ⟨a, b, xs, ys, e, rfl, rfl, ha, hb, hd, k⟩ := q
  cases rx
  cases ry
  obtain ⟨its, r1, pl1, _⟩ := I.tuple ha
  obtain ⟨its2, r2, pl2, _⟩ := I.tuple hb
  obtain ⟨⟨c1, d1, t1, s1⟩, e1, hc1, n1, hd1⟩ := id pl1
  obtain ⟨⟨c2, d2, t2, s2⟩, e2, hc2, n2, hd2⟩ := id pl2
  simp only at hc1 hd1 hc2 hd2
  subst hc1 hd1 hc2 hd2
  show wpAny (model X.prog X.w) X.A (richCompare .Eq (.ref a) (.ref b)) (EP X pins σ Q) X.xe s
  refine wpAny_richCompare_same_room (op := .Eq) ⟨_, e1, rfl⟩ ⟨_, e2, rfl⟩ PySem.F.slot_tuple_eq (GQ.call_here PySem.F.slot_tuple_eq ⟨_, e1, rfl⟩ PySem.F.entry_tuple_eq (PySem.F.args_tuple_eq_2 _ _) ?_) hr.units0
  refine tup_eqV (fun s' => Inv X pins σ H s') e e1 e2 I (fun i h1 h2 s' I' => ?_) (fun s' I' => ?_)
  · obtain ⟨p, g1, rp⟩ := vals_at r1 h1
    obtain ⟨q, g2, rq⟩ := vals_at r2 h2
    exact h X.A.in1 pins s' σ H p q _ _ _ ⟨hr.in1, rfl⟩ I' rp rq (hd i p q g1 g2)
  · refine ⟨(fun z => by cases z), .bl _, H, I', rfl, ?_⟩
    simpa [← r1.length, ← r2.length] using k
theorem op_neTV (h : EqB X n D) (hr : Room (n + 1) X.A) : OpR X (compareOp .NotEq) (rTupV X.K D fun k => !k) := by
  intro pins s σ H x y v u Q I rx ry q
  obtain ⟨a, b, xs, ys, e, rfl, rfl, ha, hb, hd, k⟩ := q
  cases rx
  cases ry
  obtain ⟨its, r1, pl1, _⟩ := I.tuple ha
  obtain ⟨its2, r2, pl2, _⟩ := I.tuple hb
  obtain ⟨⟨c1, d1, t1, s1⟩, e1, hc1, n1, hd1⟩ := id pl1
  obtain ⟨⟨c2, d2, t2, s2⟩, e2, hc2, n2, hd2⟩ := id pl2
  simp only at hc1 hd1 hc2 hd2
  subst hc1 hd1 hc2 hd2
  show wpAny (model X.prog X.w) X.A (richCompare .NotEq (.ref a) (.ref b)) (EP X pins σ Q) X.xe s
  refine wpAny_richCompare_same_room (op := .NotEq) ⟨_, e1, rfl⟩ ⟨_, e2, rfl⟩ PySem.F.slot_tuple_ne (GQ.call_here PySem.F.slot_tuple_ne ⟨_, e1, rfl⟩ PySem.F.entry_tuple_ne (PySem.F.args_tuple_ne_2 _ _) ?_) hr.units0
  refine tup_neV (fun s' => Inv X pins σ H s') e e1 e2 I (fun i h1 h2 s' I' => ?_) (fun s' I' => ?_)
  · obtain ⟨p, g1, rp⟩ := vals_at r1 h1
    obtain ⟨q, g2, rq⟩ := vals_at r2 h2
    exact h X.A.in1 pins s' σ H p q _ _ _ ⟨hr.in1, rfl⟩ I' rp rq (hd i p q g1 g2)
  · refine ⟨(fun z => by cases z), .bl _, H, I', rfl, ?_⟩
    simpa [← r1.length, ← r2.length] using k
theorem turns_of (h : EqB X n D) (hr : Room (n + 1) X.A) {pins : List (Addr × Obj)} {σ : St} {H : Hp} {a b : Addr} {xs ys : List V} {e : Nat → Bool} (ha : H a = some (.lst xs)) (hb : H b = some (.lst ys)) (hl : xs.length = ys.length)
    (hd : ∀ (i : Nat) (p q : V), xs[i]? = some p → ys[i]? = some q → D p q (e i) H) : Turns X.prog X.w X.A.in1 X.xe a b xs.length (fun s' => Inv X pins σ H s') e := by
  intro s I
  obtain ⟨z1, its, j1, r1, e1⟩ := I.hok a _ ha
  obtain ⟨z2, its2, j2, r2, e2⟩ := I.hok b _ hb
  refine ⟨its.toArray, its2.toArray, j1, j2, e1, e2, by rw [List.size_toArray, ← r1.length], by rw [List.size_toArray, ← r2.length, hl], fun i h1 h2 => ?_⟩
  obtain ⟨p, g1, rp⟩ := vals_at r1 h1
  obtain ⟨q, g2, rq⟩ := vals_at r2 h2
  exact h X.A.in1 pins s σ H p q _ _ _ ⟨hr.in1, rfl⟩ I rp rq (hd i p q g1 g2)
theorem op_eqLV (h : EqB X n D) (hr : Room (n + 1) X.A) : OpR X (compareOp .Eq) (rLstV D fun k => k) := by
  intro pins s σ H x y v u Q I rx ry q
  obtain ⟨a, b, xs, ys, e, rfl, rfl, ha, hb, hl, hd, k⟩ := q
  cases rx
  cases ry
  have T := turns_of (pins := pins) (σ := σ) h hr ha hb hl hd
  obtain ⟨xs1, ys1, n1, m1, e1, e2, _⟩ := T s I
  show wpAny (model X.prog X.w) X.A (richCompare .Eq (.ref a) (.ref b)) (EP X pins σ Q) X.xe s
  refine wpAny_richCompare_same_room (op := .Eq) ⟨_, e1, rfl⟩ ⟨_, e2, rfl⟩ PySem.F.slot_list_eq (GQ.call_here PySem.F.slot_list_eq ⟨_, e1, rfl⟩ PySem.F.entry_list_eq (PySem.F.args_list_eq_2 _ _) ?_) hr.units0
  exact lst_eqV _ e T I fun s' I' => ⟨(fun z => by cases z), .bl _, H, I', rfl, k⟩
theorem op_neLV (h : EqB X n D) (hr : Room (n + 1) X.A) : OpR X (compareOp .NotEq) (rLstV D fun k => !k) := by
  intro pins s σ H x y v u Q I rx ry q
  obtain ⟨a, b, xs, ys, e, rfl, rfl, ha, hb, hl, hd, k⟩ := q
  cases rx
  cases ry
  have T := turns_of (pins := pins) (σ := σ) h hr ha hb hl hd
  obtain ⟨xs1, ys1, n1, m1, e1, e2, _⟩ := T s I
  show wpAny (model X.prog X.w) X.A (richCompare .NotEq (.ref a) (.ref b)) (EP X pins σ Q) X.xe s
  refine wpAny_richCompare_same_room (op := .NotEq) ⟨_, e1, rfl⟩ ⟨_, e2, rfl⟩ PySem.F.slot_list_ne (GQ.call_here PySem.F.slot_list_ne ⟨_, e1, rfl⟩ PySem.F.entry_list_ne (PySem.F.args_list_ne_2 _ _) ?_) hr.units0
  exact lst_neV _ e T I fun s' I' => ⟨(fun z => by cases z), .bl _, H, I', rfl, k⟩
end
end NG

set_option maxRecDepth 100000
set_option maxHeartbeats 1000000
/-! nodes and trees compared -/
namespace NW
open PySem L2 NG TR LamX
def nns : Nat → List Str
  | 0 => ["owner", "entries"]
  | 1 => ["owner"]
  | 2 => ["owner", "text"]
  | _ => ["owner", "above"]
def entD (e : Str × Nat) : PyData := .tuple [.str e.1, .int (e.2 : Nat)]
def ndDs : Nd → List PyData
  | .fol o es => [.int o, .tuple (es.map entD)]
  | .fil o => [.int o]
  | .lnk o t => [.int o, .str t]
  | .gon o ab => [.int o, .int (ab : Nat)]
/-- all texts of a node can be laid -/
def NdOk : Nd → Prop
  | .fol _ es => ∀ e ∈ es, PyData.strOk e.1 = true
  | .lnk _ t => PyData.strOk t = true
  | _ => True
theorem pool_ok : ∀ z ∈ pool, PyData.strOk z = true := by decide +kernel
theorem strOk_of {z : Str} (h : ∀ c ∈ z.cps.toList, c < 0x110000) : PyData.strOk z = true := by
  unfold PyData.strOk
  rw [← Array.all_toList, List.all_eq_true]
  exact fun c hc => decide_eq_true (h c hc)
theorem link_ok {z : Str} (h : LinkText z) : PyData.strOk z = true := by
  obtain ⟨qs, _, hq, _, rfl, _⟩ := h
  refine strOk_of fun c hc => ?_
  rcases mem_join hc with h | ⟨p, hp, h⟩
  · have : ∀ c ∈ ("/" : Str).cps.toList, c < 0x110000 := by decide +kernel
    exact this c h
  · have := (hq p hp).1
    unfold compB at this
    rw [Bool.and_eq_true] at this
    have := List.all_eq_true.mp this.2 c h
    simp only [Bool.and_eq_true, decide_eq_true_eq] at this
    omega
theorem nd_ok {nds : List Nd} (W : WF LinkText PL nds) {i : Nat} {nd : Nd} (h : nds[i]? = some nd) : NdOk nd := by
  cases nd with
  | fol o es => exact fun e he => pool_ok _ (W.base.ent i _ h e he).1
  | fil o => exact True.intro
  | lnk o t => exact link_ok (W.base.lnk i o t h)
  | gon o ab => exact True.intro
theorem canAll (es : List (Str × Nat)) (h : ∀ e ∈ es, PyData.strOk e.1 = true) : PyData.canLayAll0 (es.map entD) = true ∧ PyData.depthAll (es.map entD) ≤ 2 := by
  induction es with
  | nil => exact ⟨rfl, by simp [PyData.depthAll]⟩
  | cons e r ih =>
    obtain ⟨h1, h2⟩ := ih fun x hx => h x (List.mem_cons_of_mem _ hx)
    have he := h e List.mem_cons_self
    refine ⟨?_, ?_⟩
    · rw [List.map_cons]
      simp [PyData.canLayAll0, entD, PyData.canLay0, he, h1]
    · rw [List.map_cons]
      simp only [PyData.depthAll, entD, PyData.depth]
      simp only [Nat.max_le]
      exact ⟨by simp, h2⟩
theorem sh_int (i : Int) : SeqAt.shaped (.int i) = true := by
  unfold SeqAt.shaped
  simp [PyData.canLay0, PyData.depth]
theorem sh_str {z : Str} (h : PyData.strOk z = true) : SeqAt.shaped (.str z) = true := by
  unfold SeqAt.shaped
  simp [PyData.canLay0, PyData.depth, h]
theorem sh_ents {es : List (Str × Nat)} (h : ∀ e ∈ es, PyData.strOk e.1 = true) : SeqAt.shaped (.tuple (es.map entD)) = true := by
  obtain ⟨h1, h2⟩ := canAll es h
  unfold SeqAt.shaped
  rw [Bool.and_eq_true]
  refine ⟨by simpa [PyData.canLay0] using h1, decide_eq_true ?_⟩
  simp only [PyData.depth]
  omega
theorem sh_nd {nd : Nd} (h : NdOk nd) : shAll (ndDs nd) := by
  cases nd with
  | fol o es => exact ⟨sh_int _, sh_ents h, True.intro⟩
  | fil o => exact ⟨sh_int _, True.intro⟩
  | lnk o t => exact ⟨sh_int _, sh_str h, True.intro⟩
  | gon o ab => exact ⟨sh_int _, sh_int _, True.intro⟩
theorem ents_eqv : ∀ (es fs : List (Str × Nat)), PyData.eqvAll (es.map entD) (fs.map entD) = decide (es = fs)
  | [], [] => rfl
  | [], _ :: _ => by simp [PyData.eqvAll]
  | _ :: _, [] => by simp [PyData.eqvAll]
  | e :: r, f :: q => by
    rw [List.map_cons, List.map_cons, PyData.eqvAll, ents_eqv r q]
    have : PyData.eqv (entD e) (entD f) = decide (e = f) := by
      unfold entD
      simp only [PyData.eqv, PyData.eqvAll, Bool.and_true]
      obtain ⟨a, i⟩ := e
      obtain ⟨b, j⟩ := f
      by_cases h1 : a = b
      · by_cases h2 : i = j
        · simp [h1, h2]
        · have hij : ¬ (i : Int) = (j : Int) := by omega
          simp [h1, h2, hij]
      · simp [h1]
    rw [this]
    by_cases h1 : e = f <;> by_cases h2 : r = q <;> simp [h1, h2]
instance : DecidableEq Nd
  | .fol o es, .fol o2 es2 => @decidable_of_decidable_of_iff (o = o2 ∧ es = es2) _ _ (by simp)
  | .fol _ _, .fil _ => isFalse (by simp)
  | .fol _ _, .lnk _ _ => isFalse (by simp)
  | .fol _ _, .gon _ _ => isFalse (by simp)
  | .fil _, .fol _ _ => isFalse (by simp)
  | .fil o, .fil o2 => @decidable_of_decidable_of_iff (o = o2) _ _ (by simp)
  | .fil _, .lnk _ _ => isFalse (by simp)
  | .fil _, .gon _ _ => isFalse (by simp)
  | .lnk _ _, .fol _ _ => isFalse (by simp)
  | .lnk _ _, .fil _ => isFalse (by simp)
  | .lnk o t, .lnk o2 t2 => @decidable_of_decidable_of_iff (o = o2 ∧ t = t2) _ _ (by simp)
  | .lnk _ _, .gon _ _ => isFalse (by simp)
  | .gon _ _, .fol _ _ => isFalse (by simp)
  | .gon _ _, .fil _ => isFalse (by simp)
  | .gon _ _, .lnk _ _ => isFalse (by simp)
  | .gon o t, .gon o2 t2 => @decidable_of_decidable_of_iff (o = o2 ∧ t = t2) _ _ (by simp)
theorem nd_eqv : ∀ {a b : Nd}, clsI a = clsI b → eqAll (ndDs a) (ndDs b) = decide (a = b)
  | .fol o es, .fol o2 es2, _ => by
    show (PyData.eqv (.int o) (.int o2) && (PyData.eqv (.tuple (es.map entD)) (.tuple (es2.map entD)) && true)) = _
    simp only [PyData.eqv, ents_eqv, Bool.and_true]
    by_cases h1 : o = o2 <;> by_cases h2 : es = es2 <;> simp [h1, h2]
  | .fil o, .fil o2, _ => by
    show (PyData.eqv (.int o) (.int o2) && true) = _
    simp only [PyData.eqv, Bool.and_true]
    by_cases h1 : o = o2 <;> simp [h1]
  | .lnk o t, .lnk o2 t2, _ => by
    show (PyData.eqv (.int o) (.int o2) && (PyData.eqv (.str t) (.str t2) && true)) = _
    simp only [PyData.eqv, Bool.and_true]
    by_cases h1 : o = o2 <;> by_cases h2 : t = t2 <;> simp [h1, h2]
  | .gon o t, .gon o2 t2, _ => by
    show (PyData.eqv (.int o) (.int o2) && (PyData.eqv (.int (t : Nat)) (.int (t2 : Nat)) && true)) = _
    simp only [PyData.eqv, Bool.and_true]
    by_cases h1 : o = o2
    · by_cases h2 : t = t2
      · simp [h1, h2]
      · have hij : ¬ (t : Int) = (t2 : Int) := by omega
        simp [h1, h2, hij]
    · simp [h1]
  | .fol _ _, .fil _, h => by cases h
  | .fol _ _, .lnk _ _, h => by cases h
  | .fol _ _, .gon _ _, h => by cases h
  | .fil _, .fol _ _, h => by cases h
  | .fil _, .lnk _ _, h => by cases h
  | .fil _, .gon _ _, h => by cases h
  | .lnk _ _, .fol _ _, h => by cases h
  | .lnk _ _, .fil _, h => by cases h
  | .lnk _ _, .gon _ _, h => by cases h
  | .gon _ _, .fol _ _, h => by cases h
  | .gon _ _, .fil _, h => by cases h
  | .gon _ _, .lnk _ _, h => by cases h
theorem dps_ents {K : PySem.W.Frag} {H : Hp} : ∀ {ps : List V} {es : List (Str × Nat)}, ps.length = es.length → (∀ (k : Nat) (p : V) (e : Str × Nat), ps[k]? = some p → es[k]? = some e → EntO K H p e) → DpAll K H ps (es.map entD)
  | [], [], _, _ => .nil
  | [], _ :: _, h, _ => absurd h (by simp)
  | _ :: _, [], h, _ => absurd h (by simp)
  | p :: ps, e :: es, h, k => by
    obtain ⟨a, rfl, ha⟩ := k 0 p e rfl rfl
    exact .cons (.tup ha (.cons (.str _) (.cons (.int _) .nil))) (dps_ents (by simpa using h) fun j q en x y => k (j + 1) q en x y)
/-- the fields of a node, as data -/
theorem obj_has {K : PySem.W.Frag} {cs : Nat → Addr} {H : Hp} {q : Addr} {nd : Nd} (h : ObjAt K cs H q nd) : ∃ xs, HasF H (cs (clsI nd)) q (nns (clsI nd)) xs ∧ DpAll K H xs (ndDs nd) := by
  have no : ("owner" : Str) ≠ "entries" := by decide +kernel
  have nt : ("owner" : Str) ≠ "text" := by decide +kernel
  have na : ("owner" : Str) ≠ "above" := by decide +kernel
  cases nd with
  | fol o es =>
    obtain ⟨dx, E, ps, h1, h2, h3, h4⟩ := h
    exact ⟨[.int o, .ref E], ⟨dx, _, h1, by unfold ffl; rw [lookup_putF, if_neg no, lookup_putF, if_pos rfl], by unfold ffl; rw [lookup_putF, if_pos rfl], True.intro⟩, .cons (.int _) (.cons (.tup h2.sqT (dps_ents h3 h4)) .nil)⟩
  | fil o =>
    obtain ⟨dx, h1⟩ := h
    exact ⟨[.int o], ⟨dx, _, h1, by unfold fl1; rw [lookup_putF, if_pos rfl], True.intro⟩, .cons (.int _) .nil⟩
  | lnk o t =>
    obtain ⟨dx, h1⟩ := h
    exact ⟨[.int o, .str t], ⟨dx, _, h1, by unfold fl2; rw [lookup_putF, if_neg nt, lookup_putF, if_pos rfl], by unfold fl2; rw [lookup_putF, if_pos rfl], True.intro⟩, .cons (.int _) (.cons (.str _) .nil)⟩
  | gon o ab =>
    obtain ⟨dx, h1⟩ := h
    exact ⟨[.int o, .int (ab : Nat)], ⟨dx, _, h1, by unfold fl2; rw [lookup_putF, if_neg na, lookup_putF, if_pos rfl], by unfold fl2; rw [lookup_putF, if_pos rfl], True.intro⟩, .cons (.int _) (.cons (.int _) .nil)⟩
structure TxtE4 (K : PySem.W.Frag) (cs fe : Nat → Addr) : Prop where
  eq : ∀ i, i < 4 → EqC K (cs i) (fe i)
  nf : ∀ i j, i < 4 → j < 4 → PySem.W.notFirst K (cs i) (.ref (cs j)) = true
/-- the == of the four classes -/
def EqF4 (P : Program) (w : World) (K : PySem.W.Frag) (mg : Str → Option Value) (base : Heap) (cs fe : Nat → Addr) : Prop := ∀ i, i < 4 → ∃ fd, FnOk P w K mg base CX0 1 (fe i) fd ["self", "other"] (spEqD K (cs i) (nns i)) ∧ Binds K fd ["self", "other"] []
/-- two nodes, the same object or two -/
def DNd (K : PySem.W.Frag) (cs : Nat → Addr) : V → V → Bool → Hp → Prop := fun x y k H => ∃ p q, x = .ref p ∧ y = .ref q ∧ ((p = q ∧ k = true) ∨ (p ≠ q ∧ ∃ a b, ObjAt K cs H p a ∧ ObjAt K cs H q b ∧ NdOk a ∧ NdOk b ∧ k = decide (a = b)))
/-- what the own == of the classes says of two nodes -/
theorem nd_says {K : PySem.W.Frag} {mg : Str → Option Value} {cs : Nat → Addr} {H : Hp} {p q : Addr} {a b : Nd} {Q : VK} {E : XK} (TG : TxtG K mg cs) (ha : ObjAt K cs H p a) (hb : ObjAt K cs H q b) (oa : NdOk a) (ob : NdOk b) (k : Q (.bl (decide (a = b))) H) :
    spEqD K (cs (clsI a)) (nns (clsI a)) [.ref p, .ref q] H Q E := by
  obtain ⟨xs, h1, h2⟩ := obj_has ha
  obtain ⟨ys, g1, g2⟩ := obj_has hb
  obtain ⟨dy, gs, e2, l2⟩ := id g1
  have ca := clsI_lt a
  have cb := clsI_lt b
  have ty := TG.ty _ cb
  refine ⟨p, .ref q, xs, ndDs a, rfl, h1, h2, sh_nd oa, ?_⟩
  by_cases e : clsI a = clsI b
  · refine .inr ⟨q, ys, ndDs b, rfl, by rw [e]; exact g1, g2, sh_nd ob, ?_⟩
    rw [nd_eqv e]
    exact k
  · refine .inl ⟨.ref (cs (clsI b)), .base (.ins e2 (TG.cl _ cb) ty.c1 ty.c2 ty.c3 ty.c4), ?_, ?_⟩
    · rw [TG.kit _ _ cb ca, decide_eq_false (fun q => e q.symm)]
    · rw [decide_eq_false (fun q : a = b => e (by rw [q]))] at k
      exact k
section
variable {X : Cx} {cs fe : Nat → Addr}
theorem eqB_nd (TG : TxtG X.K X.mg cs) (TE : TxtE4 X.K cs fe) (hE : EqF4 X.prog X.w X.K X.mg X.base cs fe) : EqB X 1 (DNd X.K cs) := by
  intro A pins s σ H x y u v k sb I rx ry d
  obtain ⟨p, q, rfl, rfl, d⟩ := d
  cases rx
  cases ry
  rcases d with ⟨rfl, rfl⟩ | ⟨hpq, a, b, ha, hb, oa, ob, rfl⟩
  · exact (SeqAt.EqAt.same _).eqP _ _ ⟨rfl, I⟩
  · have ca := clsI_lt a
    have cb := clsI_lt b
    obtain ⟨dx, fs, e1, _⟩ := obj_ins ha
    obtain ⟨dy, gs, e2, _⟩ := obj_ins hb
    obtain ⟨fd, F, bd⟩ := hE _ ca
    obtain ⟨mA, J, _⟩ := ins_get I.hok e1
    obtain ⟨mB, J', _⟩ := ins_get I.hok e2
    obtain ⟨od, J, _⟩ := J.look
    obtain ⟨od', J', _⟩ := J'.look
    obtain ⟨m, hF⟩ := I.fr
    refine GQ.eqBool_refG hpq (PySem.W.cmp_K (op := .Eq) (tb := .ref (cs (clsI b))) sb.room.units0 hF I.ok.mod.kin J J'.type (TE.nf _ _ ca cb) (TE.eq _ ca).e1 (TE.eq _ ca).e2 ?_)
    refine wpAny_mono (own_run F bd pass0 sb I (show RelV (.ref q) (.ref q) from rfl) (R := fun k H' => k = decide (a = b) ∧ H' = H) (nd_says TG ha hb oa ob ⟨_, rfl, rfl, rfl⟩)) (fun r s' z => ?_) fun _ _ x => x
    obtain ⟨k, rfl, H', I', rfl, rfl⟩ := z
    exact ⟨_, rfl, rfl, I'⟩
end
end NW

set_option maxRecDepth 100000
set_option maxHeartbeats 1000000
namespace NW
open PySem L2 NG TR LamX
abbrev sTreeE : Stmt := inClass (top 18) 1
/-- whether the i-th nodes are equal -/
def ndE (a b : List Nd) (i : Nat) : Bool := decide (a[i]? = b[i]?)
theorem all_ndE (a b : List Nd) : (allTo (ndE a b) (min a.length b.length) && a.length == b.length) = decide (a = b) := by
  by_cases h : a = b
  · subst h
    rw [decide_eq_true rfl, allTo_true (e := ndE a a) (fun j _ => decide_eq_true rfl)]
    simp
  · rw [decide_eq_false h]
    by_cases hl : a.length = b.length
    · have : ∃ i, i < a.length ∧ a[i]? ≠ b[i]? := by
        refine Classical.byContradiction fun q => h (List.ext_getElem? fun i => ?_)
        by_cases hi : i < a.length
        · exact Classical.byContradiction fun r => q ⟨i, hi, r⟩
        · rw [List.getElem?_eq_none (by omega), List.getElem?_eq_none (by omega)]
      obtain ⟨i, hi, hn⟩ := this
      rw [allTo_false (by omega : i < min a.length b.length) (decide_eq_false hn), Bool.false_and]
    · have : (a.length == b.length) = false := by simpa using hl
      rw [this, Bool.and_false]
/-- where the i-th object is the same, so is what it holds -/
def ShareOk (qs rs : List Addr) (a b : List Nd) : Prop := ∀ (i : Nat) (x : Addr), qs[i]? = some x → rs[i]? = some x → a[i]? = b[i]?
def spTreeE (K : PySem.W.Frag) (cs : Nat → Addr) (CT : Addr) : Sp := fun vs H Q _ => ∃ (t : Addr) (y : V) (qs : List Addr) (nds : List Nd), vs = [.ref t, y] ∧ TreeAt K cs CT H t qs nds ∧
  ((∃ ty, TyX K H y ty ∧ PySem.W.kitOne K ty (.ref CT) = some false ∧ Q (.bl false) H) ∨ ∃ (u : Addr) (qs2 : List Addr) (nds2 : List Nd), y = .ref u ∧ TreeAt K cs CT H u qs2 nds2 ∧ ShareOk qs qs2 nds nds2 ∧ Q (.bl (decide (nds = nds2))) H)
section
variable {P : Program} {w : World} {K : PySem.W.Frag} {mg : Str → Option Value} {base : Heap} {f CT : Addr} {cs fe : Nat → Addr}
theorem nodes_d {H : Hp} {T U : Addr} {qs rs : List Addr} {a b : List Nd} (A : Trees K cs H T qs a) (B : Trees K cs H U rs b) (sh : ShareOk qs rs a b) : ∀ (i : Nat) (p q : V), (qs.map V.ref)[i]? = some p → (rs.map V.ref)[i]? = some q → DNd K cs p q (ndE a b i) H := by
  intro i p q hp hq
  rw [List.getElem?_map] at hp hq
  cases e1 : qs[i]? with
  | none => rw [e1] at hp; cases hp
  | some x =>
    cases e2 : rs[i]? with
    | none => rw [e2] at hq; cases hq
    | some y =>
      rw [e1] at hp
      rw [e2] at hq
      cases Option.some.inj hp
      cases Option.some.inj hq
      have l1 : i < a.length := by rw [← A.ob.len]; exact (List.getElem?_eq_some_iff.mp e1).1
      have l2 : i < b.length := by rw [← B.ob.len]; exact (List.getElem?_eq_some_iff.mp e2).1
      have n1 := List.getElem?_eq_getElem l1
      have n2 := List.getElem?_eq_getElem l2
      have o1 := A.ob.nds i x _ e1 n1
      have o2 := B.ob.nds i y _ e2 n2
      refine ⟨x, y, rfl, rfl, ?_⟩
      have ek : ndE a b i = decide (a[i] = b[i]) := by
        unfold ndE
        rw [n1, n2]
        by_cases h : a[i] = b[i] <;> simp [h]
      by_cases h : x = y
      · subst h
        refine .inl ⟨rfl, ?_⟩
        exact decide_eq_true (sh i x e1 e2)
      · exact .inr ⟨h, _, _, o1, o2, nd_ok A.wf n1, nd_ok B.wf n2, ek⟩
theorem scTreeE : FnScope ["self", "other"] ["self", "other"] (defScope sTreeE) := ⟨rfl, rfl, rfl, by decide +kernel, rfl, by decide +kernel, by decide +kernel⟩
theorem ok_treeE {fd : FuncData} (F : Fun K "__eq__" "Tree.__eq__" sTreeE f fd) (mi : mg "isinstance" = none) (gT : mg "Tree" = some (.ref CT)) (cl : Cls K CT) (TC : TyC K CT) (h1 : NoAttr K CT "nodes") (TG : TxtG K mg cs) (TE : TxtE4 K cs fe) (hE : EqF4 P w K mg base cs fe) : FnOk P w K mg base CX0 3 f fd ["self", "other"] (spTreeE K cs CT) := by
  refine F.ok scTreeE (fun vs H Q E h => ?_) (fun cdv A outer s H vs Q E hr h => ?_)
  · obtain ⟨t, y, qs, nds, rfl, _⟩ := h
    rfl
  · obtain ⟨t, y, qs, nds, rfl, ⟨dx, N, ht, TR⟩, k⟩ := h
    have hr2 : Room 2 _ := hr
    have fl : ∀ N, (fl1 "nodes" (V.ref N)).lookup ("nodes" : Str) = some (.ref N) := fun N => by unfold fl1; rw [lookup_putF, if_pos rfl]
    refine ⟨_, pss_one (ps_ret (pe_and (pe_callB call_isi (by rfl) mi (by decide +kernel) (pa_cons (pv 1) (pa_cons (pe_glob (v := .ref CT) (by rfl) gT rfl) pa_nil))) (pe_one (pe_cmpR (op_eqTV (eqB_nd (fe := fe) TG TE hE) hr2) (pe_fld (pv 0) rfl) (pe_fld (pv 1) rfl) (nomark _))))), ?_⟩
    rcases k with ⟨ty, tx, kt, k⟩ | ⟨u, rs, nds2, rfl, ⟨dy, M, hu, UR⟩, sh, k⟩
    · exact ⟨_, rfl, y, _, ty, _, false, rfl, .own CT, tx, kt, _, rfl, iteF k⟩
    · refine ⟨_, rfl, _, _, _, _, true, rfl, .own CT, .base (.ins hu cl TC.c1 TC.c2 TC.c3 TC.c4), kit_self, _, rfl, iteT ?_⟩
      refine ⟨_, rfl, t, CT, dx, _, _, rfl, ht, cl, h1, fl N, _, rfl, u, CT, dy, _, _, rfl, hu, cl, h1, fl M, ?_⟩
      refine ⟨N, M, _, _, ndE nds nds2, rfl, rfl, TR.ob.ls, UR.ob.ls, nodes_d TR UR sh, ?_⟩
      rw [List.length_map, List.length_map, TR.ob.len, UR.ob.len, all_ndE]
      exact k
end
end NW

set_option maxRecDepth 100000
set_option maxHeartbeats 1000000
/-! the law's own defs: entries turned, fields told -/
namespace NW
open PySem L2 NG TR LamX
abbrev sTurn : Stmt := top 39
abbrev sFlds : Stmt := top 40
/-- entries in the heap, in any order of es -/
def EntL (H : Hp) (qs : List V) (es : List (Str × Nat)) : Prop := qs.length = es.length ∧ ∀ (k : Nat) (q : V) (e : Str × Nat), qs[k]? = some q → es[k]? = some e → EntAt H q e
theorem EntL.same {H H' : Hp} {qs : List V} {es : List (Str × Nat)} (h : EntL H qs es) (s : ∀ a xs, H a = some (.tup xs) → H' a = some (.tup xs)) : EntL H' qs es := ⟨h.1, fun k q e a b => (h.2 k q e a b).mono s⟩
def spTurn : Sp := fun vs H Q _ => ∃ (p L : Addr) (qs : List V) (es : List (Str × Nat)), vs = [.ref p, .ref L] ∧ (∃ o, H p = some o ∧ DSo o) ∧ H L = some (.lst qs) ∧ EntL H qs es ∧ (∀ e ∈ es, PyData.strOk e.1 = true) ∧ es.length ≤ 100 ∧
  ∀ H' r qs' es', Dr p H H' → H r = none → H' r = some (.lst qs') → EntL H' qs' es' → es'.Perm es → Q (.ref r) H'
theorem dps_entL {K : PySem.W.Frag} {H : Hp} {qs : List V} {es : List (Str × Nat)} (h : EntL H qs es) : DpAll K H qs (es.map entD) := dps_ents h.1 fun k p e a b => let ⟨x, y, z⟩ := h.2 k p e a b; ⟨x, y, SqT.of z⟩
theorem EntL.erase {H : Hp} {qs : List V} {es : List (Str × Nat)} (h : EntL H qs es) (i : Nat) : EntL H (qs.eraseIdx i) (es.eraseIdx i) := by
  refine ⟨by rw [List.length_eraseIdx, List.length_eraseIdx, h.1], fun k q e a b => ?_⟩
  rw [List.getElem?_eraseIdx] at a b
  by_cases hk : k < i
  · rw [if_pos hk] at a b; exact h.2 k q e a b
  · rw [if_neg hk] at a b; exact h.2 (k + 1) q e a b
theorem EntL.snoc {H : Hp} {qs : List V} {es : List (Str × Nat)} {q : V} {e : Str × Nat} (h : EntL H qs es) (g : EntAt H q e) : EntL H (qs ++ [q]) (es ++ [e]) := by
  refine ⟨by rw [List.length_append, List.length_append, h.1]; rfl, fun k x y a b => ?_⟩
  by_cases hk : k < qs.length
  · rw [List.getElem?_append_left hk] at a
    rw [List.getElem?_append_left (by rw [← h.1]; exact hk)] at b
    exact h.2 k x y a b
  · have hke : k = qs.length := by
      have := (List.getElem?_eq_some_iff.mp a).1
      rw [List.length_append, List.length_singleton] at this
      omega
    subst hke
    rw [List.getElem?_append_right (Nat.le_refl _), Nat.sub_self] at a
    rw [h.1, List.getElem?_append_right (Nat.le_refl _), Nat.sub_self] at b
    cases Option.some.inj a
    cases Option.some.inj b
    exact g
theorem perm_erase {α : Type} {l : List α} {i : Nat} {x : α} (h : l[i]? = some x) : (x :: l.eraseIdx i).Perm l := by
  induction l generalizing i with
  | nil => cases h
  | cons y r ih =>
    cases i with
    | zero => cases Option.some.inj h; exact List.Perm.refl _
    | succ i =>
      have := ih (i := i) h
      show (x :: y :: r.eraseIdx i).Perm (y :: r)
      exact (List.Perm.swap y x _).trans (this.cons y)
/-- what is left of a list -/
def leftLen (D : Addr) (H : Hp) : Nat := match H D with
  | some (.lst xs) => xs.length
  | _ => 0
def fldD (nd : Nd) : PyData := .tuple (.str (kindS nd) :: ndDs nd)
def spFlds (K : PySem.W.Frag) (cs : Nat → Addr) : Sp := fun vs H Q _ => ∃ (q : Addr) (nd : Nd), vs = [.ref q] ∧ ObjAt K cs H q nd ∧ ∀ H' T, Same H H' → Dp K H' (.ref T) (fldD nd) → Q (.ref T) H'
section
variable {P : Program} {w : World} {K : PySem.W.Frag} {mg : Str → Option Value} {base : Heap} {f fNum fAt fDigit fPool : Addr} {cs : Nat → Addr}
theorem scTurn : FnScope ["_law_s", "_law_items", "_law_left", "_law_found"] ["_law_s", "_law_items"] (defScope sTurn) := ⟨rfl, rfl, rfl, by decide +kernel, rfl, by decide +kernel, by decide +kernel⟩
theorem ok_turn {fd fdD : FuncData} (F : Fun K "_law_turned" "_law_turned" sTurn f fd) (T : TxtK K mg fNum fAt fDigit fPool) (ml : mg "list" = none) (GD : FnOk P w K mg base CX0 1 fDigit fdD ["_law_state_here", "_law_base"] spDigit) (bD : Binds K fdD ["_law_state_here", "_law_base"] []) :
    FnOk P w K mg base CX0 2 f fd ["_law_s", "_law_items"] spTurn := by
  have nd := scTurn.nd
  refine F.ok scTurn (fun vs H Q E h => ?_) (fun cdv A outer s H vs Q E hr h => ?_)
  · obtain ⟨p, L, qs, es, rfl, _⟩ := h
    rfl
  · obtain ⟨p, L, qs, es, rfl, hp, hL, hE, hok, hl, k⟩ := h
    have hr1 : Room 1 _ := hr
    have hu := hu64 hr
    have hs : sizeLine = 16777216 := sizeLine_eq
    refine ⟨_, (pss_cons (ps_set (i := 2) nd rfl (Or.inl rfl) (pe_callTy call_list_of (by rfl) ml (by decide +kernel) (pa_cons (pv 1) pa_nil)))
  (pss_cons (ps_set (i := 3) nd rfl (Or.inl rfl) (pe_lst pa_nil))
  (pss_cons (ps_while PassesOwn.never (pt_cmpR (op_neD hu) (pv 2) (pe_lst pa_nil) (nomark _))
 (pss_one (ps_expr (pe_bm PySem.F.plainAttrs_list PySem.F.slot_list_append PySem.F.type_list_append mt_append (pv 3) (pa_cons (pe_bm PySem.F.plainAttrs_list PySem.F.slot_list_pop PySem.F.type_list_pop mt_popAt (pv 2) (pa_cons (pe_call GD hr1 (by rfl) T.g_digit T.kp_digit bD .nil pass0 (pa_cons (pv 0) (pa_cons (pe_callB call_len_seq (by rfl) T.m_len (by decide +kernel) (pa_cons (pv 2) pa_nil)) pa_nil))) pa_nil)) pa_nil)))))
  (pss_one (ps_ret (pv 3)))))), ?_⟩
    refine ⟨_, rfl, L, qs, rfl, .inl (SqL.of hL), fun l1 hl1 => ?_⟩
    have s1 := NG.Same.upd (o := HO.lst qs) hl1
    have e1 : (upd H l1 (HO.lst qs)) l1 = some (.lst qs) := upd_same
    generalize upd H l1 (HO.lst qs) = H1 at s1 e1 ⊢
    refine ⟨(by show 0 ≤ sizeLine; omega), fun r hr0 => ?_⟩
    have s2 := s1.trans (NG.Same.upd (o := HO.lst []) hr0)
    have e2 : (upd H1 r (HO.lst [])) r = some (.lst []) := upd_same
    have e1' := (NG.Same.upd (o := HO.lst []) hr0) _ _ e1
    have hrH : H r = none := by
      cases e : H r with
      | none => rfl
      | some u => have := s1 _ _ e; rw [hr0] at this; cases this
    have nlr : l1 ≠ r := ne_of_none e1 hr0
    generalize upd H1 r (HO.lst []) = H2 at s2 e2 e1' ⊢
    obtain ⟨o0, hp0, d0⟩ := hp
    have npl : p ≠ l1 := ne_of_none hp0 hl1
    have npr : p ≠ r := ne_of_none hp0 hrH
    refine while_by (fun σ H' => ∃ (ls fs : List V) (el ef : List (Str × Nat)), σ = [some (.ref p), some (.ref L), some (.ref l1), some (.ref r)] ∧ Dr p H H' ∧ H' l1 = some (.lst ls) ∧ H' r = some (.lst fs) ∧ EntL H' ls el ∧ EntL H' fs ef ∧ (ef ++ el).Perm es) (fun _ H' => leftLen l1 H')
      ⟨qs, [], es, [], rfl, (Dr.refl hp0 d0).same s2, e1', e2, hE.same fun a xs h => s2 _ _ h, ⟨rfl, fun k q e a => by cases a⟩, List.Perm.refl _⟩ ?_ ?_
    · rintro σ H3 ⟨ls, fs, el, ef, rfl, dr, h1, h2, E1, E2, pm⟩
      have okl : ∀ e ∈ el, PyData.strOk e.1 = true := fun e he => hok e (pm.mem_iff.mp (List.mem_append.mpr (.inr he)))
      have ll : (ef ++ el).length = es.length := pm.length_eq
      rw [List.length_append] at ll
      refine ⟨_, rfl, (by show 0 ≤ sizeLine; omega), fun z hz => ?_⟩
      have sz := NG.Same.upd (o := HO.lst []) hz
      have ez : (upd H3 z (HO.lst [])) z = some (.lst []) := upd_same
      have h1' := sz _ _ h1
      have h2' := sz _ _ h2
      have dr4 := dr.same sz
      have E1' := E1.same fun a xs h => sz _ _ h
      have E2' := E2.same fun a xs h => sz _ _ h
      generalize upd H3 z (HO.lst []) = H4 at ez h1' h2' dr4 E1' E2' ⊢
      obtain ⟨c1, c2⟩ := canAll el okl
      have shL : SeqAt.shaped (.list (el.map entD)) = true := by
        unfold SeqAt.shaped
        rw [Bool.and_eq_true]
        refine ⟨by simpa [PyData.canLay0] using c1, decide_eq_true ?_⟩
        simp only [PyData.depth]
        omega
      refine ⟨.list (el.map entD), .list [], .lst (SqL.of h1') (dps_entL E1'), .lst (SqL.of ez) .nil, shL, by decide +kernel, _, rfl, ?_⟩
      cases el with
      | nil =>
        rw [show PyData.eqv (.list (([] : List (Str × Nat)).map entD)) (.list []) = true from rfl]
        refine iteF ⟨_, rfl, ?_⟩
        rw [List.append_nil] at pm
        exact k H4 r fs ef dr4 hrH h2' E2' pm
      | cons e0 er =>
        rw [show PyData.eqv (.list ((e0 :: er).map entD)) (.list []) = false from rfl]
        refine iteT ?_
        obtain ⟨oD, hD, dD⟩ := dr4.st
        have lls : ls.length = (e0 :: er).length := E1'.1
        refine ⟨_, rfl, .inl ⟨rfl, _, SqL.of h2'⟩, _, rfl, .inl ⟨rfl, _, SqL.of h1'⟩, _, rfl, _, rfl, l1, ls, rfl, .inl (SqL.of h1'), p, _, oD, rfl, by rw [lls, List.length_cons]; omega, by rw [lls]; omega, hD, dD, fun dg oN d0 d1 hoN => ?_⟩
        have dr5 := dr4.next hoN
        have h1'' : (upd H4 p oN) l1 = some (.lst ls) := by rw [upd_ne npl.symm]; exact h1'
        have h2'' : (upd H4 p oN) r = some (.lst fs) := by rw [upd_ne npr.symm]; exact h2'
        have E1'' : EntL (upd H4 p oN) ls (e0 :: er) := E1'.same fun a xs h => by
          rw [upd_ne (fun q => by rw [q, hD] at h; obtain ⟨_, _, _, z, _⟩ := dD; rw [z] at h; cases h)]; exact h
        have E2'' : EntL (upd H4 p oN) fs ef := E2'.same fun a xs h => by
          rw [upd_ne (fun q => by rw [q, hD] at h; obtain ⟨_, _, _, z, _⟩ := dD; rw [z] at h; cases h)]; exact h
        generalize upd H4 p oN = H5 at dr5 h1'' h2'' E1'' E2'' ⊢
        obtain ⟨i, rfl⟩ : ∃ i : Nat, dg = (i : Int) := ⟨dg.toNat, by omega⟩
        have hi : i < ls.length := by omega
        have gy : ls[i]? = some ls[i] := List.getElem?_eq_getElem hi
        have hie : i < (e0 :: er).length := by rw [← lls]; exact hi
        have ge : (e0 :: er)[i]? = some (e0 :: er)[i] := List.getElem?_eq_getElem hie
        generalize ls[i] = y at gy
        generalize (e0 :: er)[i] = en at ge
        have hen := E1''.2 i y en gy ge
        refine ⟨l1, ls, (i : Int), i, y, rfl, rfl, h1'', by omega, by omega, ?_, gy, ?_⟩
        · have h0 : ¬ ((i : Int) < 0) := by omega
          unfold seqIndex?
          simp only [h0, if_false]
          simp [hi]
        have lt1 : (upd H5 l1 (HO.lst (ls.eraseIdx i))) l1 = some (.lst (ls.eraseIdx i)) := upd_same
        have keepT : ∀ a xs, H5 a = some (.tup xs) → (upd H5 l1 (HO.lst (ls.eraseIdx i))) a = some (.tup xs) := fun a xs h => by
          rw [upd_ne (ne_of h h1'' (fun z => by cases z))]; exact h
        have fr : (upd H5 l1 (HO.lst (ls.eraseIdx i))) r = some (.lst fs) := by rw [upd_ne nlr.symm]; exact h2''
        have E3 := (E1''.erase i).same keepT
        have E4 := E2''.same keepT
        have hen2 := hen.mono keepT
        have dr6 : Dr p H (upd H5 l1 (HO.lst (ls.eraseIdx i))) := by
          refine ⟨fun b u e n => ?_, ?_⟩
          · have nb : b ≠ l1 := ne_of_none e hl1
            rw [upd_ne nb]; exact dr5.but b u e n
          · obtain ⟨o, e, d⟩ := dr5.st
            exact ⟨o, by rw [upd_ne npl]; exact e, d⟩
        generalize upd H5 l1 (HO.lst (ls.eraseIdx i)) = H6 at lt1 fr E3 E4 hen2 dr6 ⊢
        have lf : fs.length ≤ 100 := by rw [E4.1]; omega
        refine ⟨r, fs, y, rfl, rfl, fr, by omega, ?_⟩
        have keepT2 : ∀ a xs, H6 a = some (.tup xs) → (upd H6 r (HO.lst (fs ++ [y]))) a = some (.tup xs) := fun a xs h => by
          rw [upd_ne (ne_of h fr (fun z => by cases z))]; exact h
        refine ⟨⟨ls.eraseIdx i, fs ++ [y], (e0 :: er).eraseIdx i, ef ++ [en], rfl, ?_, ?_, upd_same, E3.same keepT2, (E4.snoc hen2).same keepT2, ?_⟩, ?_⟩
        · refine ⟨fun b u e n => ?_, ?_⟩
          · have nb : b ≠ r := ne_of_none e hrH
            rw [upd_ne nb]; exact dr6.but b u e n
          · obtain ⟨o, e, d⟩ := dr6.st
            exact ⟨o, by rw [upd_ne npr]; exact e, d⟩
        · rw [upd_ne nlr]; exact lt1
        · rw [List.append_assoc]
          exact ((perm_erase ge).append_left ef).trans pm
        · show leftLen l1 _ < leftLen l1 H3
          have a1 : leftLen l1 H3 = ls.length := by unfold leftLen; rw [h1]
          have a2 : leftLen l1 (upd H6 r (HO.lst (fs ++ [y]))) = (ls.eraseIdx i).length := by unfold leftLen; rw [upd_ne nlr, lt1]
          rw [a1, a2, List.length_eraseIdx, if_pos hi]
          omega
    · rintro σ H Q Q' h ⟨x, hx, sz, g⟩
      exact ⟨x, hx, sz, fun z hz => let ⟨d, e, a, b, c, f, b', e2, q⟩ := g z hz; ⟨d, e, a, b, c, f, b', e2, h _ _ q⟩⟩
theorem scFlds : FnScope ["_law_node"] ["_law_node"] (defScope sFlds) := ⟨rfl, rfl, rfl, by decide +kernel, rfl, by decide +kernel, by decide +kernel⟩
theorem ok_flds {fd : FuncData} (F : Fun K "_law_fields" "_law_fields" sFlds f fd) (T : TxtK K mg fNum fAt fDigit fPool) (TG : TxtG K mg cs) : FnOk P w K mg base CX0 1 f fd ["_law_node"] (spFlds K cs) := by
  refine F.ok scFlds (fun vs H Q E h => ?_) (fun cdv A outer s H vs Q E hr h => ?_)
  · obtain ⟨q, nd, rfl, _⟩ := h
    rfl
  · obtain ⟨q, nd, rfl, hO, k⟩ := h
    have hs : sizeLine = 16777216 := sizeLine_eq
    refine ⟨_, (pss_cons (ps_if (pt_val (pe_callB call_isi (by rfl) T.m_isinstance (by decide +kernel) (pa_cons (pv 0) (pa_cons (pe_glob (v := .ref (cs 0)) (by rfl) TG.m_Folder rfl) pa_nil)))) (pss_one (ps_ret (pe_tup (pa_cons pe_str (pa_cons (pe_fld (pv 0) rfl) (pa_cons (pe_fld (pv 0) rfl) pa_nil)))))) pss_nil)
  (pss_cons (ps_if (pt_val (pe_callB call_isi (by rfl) T.m_isinstance (by decide +kernel) (pa_cons (pv 0) (pa_cons (pe_glob (v := .ref (cs 1)) (by rfl) TG.m_File rfl) pa_nil)))) (pss_one (ps_ret (pe_tup (pa_cons pe_str (pa_cons (pe_fld (pv 0) rfl) pa_nil))))) pss_nil)
  (pss_one (ps_ret (pe_ifExp (pt_val (pe_callB call_isi (by rfl) T.m_isinstance (by decide +kernel) (pa_cons (pv 0) (pa_cons (pe_glob (v := .ref (cs 2)) (by rfl) TG.m_Link rfl) pa_nil)))) (pe_tup (pa_cons pe_str (pa_cons (pe_fld (pv 0) rfl) (pa_cons (pe_fld (pv 0) rfl) pa_nil)))) (pe_tup (pa_cons pe_str (pa_cons (pe_fld (pv 0) rfl) (pa_cons (pe_fld (pv 0) rfl) pa_nil))))))))), ?_⟩
    obtain ⟨xs, ⟨dx, fs, hins, lk⟩, dp⟩ := obj_has hO
    have ci := clsI_lt nd
    have ty := TG.ty _ ci
    have tyx : TyX K H (.ref q) (.ref (cs (clsI nd))) := .base (.ins hins (TG.cl _ ci) ty.c1 ty.c2 ty.c3 ty.c4)
    have isI : ∀ j, j < 4 → PySem.W.kitOne K (.ref (cs (clsI nd))) (.ref (cs j)) = some (decide (clsI nd = j)) := fun j hj => TG.kit _ j ci hj
    refine ⟨_, rfl, _, _, _, _, decide (clsI nd = 0), rfl, .own (cs 0), tyx, isI 0 (by decide), _, rfl, ?_⟩
    cases nd with
    | fol o es =>
      rw [show decide (clsI (Nd.fol o es) = 0) = true from rfl]
      match xs, lk, dp with
      | [x0, x1], lk, dp =>
        obtain ⟨k0, k1, -⟩ := lk
        refine iteT ⟨_, rfl, q, cs 0, dx, _, _, rfl, hins, TG.cl 0 (by decide), TG.nO 0 (by decide), k0, _, rfl, q, cs 0, dx, _, _, rfl, hins, TG.cl 0 (by decide), TG.nE, k1, (by show 3 ≤ sizeLine; omega), fun T hT => ?_⟩
        exact k _ T (NG.Same.upd hT) (.tup (SqT.of upd_same) (.cons (.str _) (dps_same (NG.Same.upd hT) dp)))
    | fil o =>
      rw [show decide (clsI (Nd.fil o) = 0) = false from rfl]
      refine iteF ⟨_, rfl, _, _, _, _, true, rfl, .own (cs 1), tyx, isI 1 (by decide), _, rfl, ?_⟩
      match xs, lk, dp with
      | [x0], lk, dp =>
        obtain ⟨k0, -⟩ := lk
        refine iteT ⟨_, rfl, q, cs 1, dx, _, _, rfl, hins, TG.cl 1 (by decide), TG.nO 1 (by decide), k0, (by show 2 ≤ sizeLine; omega), fun T hT => ?_⟩
        exact k _ T (NG.Same.upd hT) (.tup (SqT.of upd_same) (.cons (.str _) (dps_same (NG.Same.upd hT) dp)))
    | lnk o t =>
      rw [show decide (clsI (Nd.lnk o t) = 0) = false from rfl]
      refine iteF ⟨_, rfl, _, _, _, _, false, rfl, .own (cs 1), tyx, isI 1 (by decide), _, rfl, iteF ?_⟩
      refine ⟨_, rfl, _, _, _, _, true, rfl, .own (cs 2), tyx, isI 2 (by decide), _, rfl, ?_⟩
      match xs, lk, dp with
      | [x0, x1], lk, dp =>
        obtain ⟨k0, k1, -⟩ := lk
        refine iteT ⟨_, rfl, q, cs 2, dx, _, _, rfl, hins, TG.cl 2 (by decide), TG.nO 2 (by decide), k0, _, rfl, q, cs 2, dx, _, _, rfl, hins, TG.cl 2 (by decide), TG.nT, k1, (by show 3 ≤ sizeLine; omega), fun T hT => ?_⟩
        exact k _ T (NG.Same.upd hT) (.tup (SqT.of upd_same) (.cons (.str _) (dps_same (NG.Same.upd hT) dp)))
    | gon o ab =>
      rw [show decide (clsI (Nd.gon o ab) = 0) = false from rfl]
      refine iteF ⟨_, rfl, _, _, _, _, false, rfl, .own (cs 1), tyx, isI 1 (by decide), _, rfl, iteF ?_⟩
      refine ⟨_, rfl, _, _, _, _, false, rfl, .own (cs 2), tyx, isI 2 (by decide), _, rfl, ?_⟩
      match xs, lk, dp with
      | [x0, x1], lk, dp =>
        obtain ⟨k0, k1, -⟩ := lk
        refine iteF ⟨_, rfl, q, cs 3, dx, _, _, rfl, hins, TG.cl 3 (by decide), TG.nO 3 (by decide), k0, _, rfl, q, cs 3, dx, _, _, rfl, hins, TG.cl 3 (by decide), TG.nA, k1, (by show 3 ≤ sizeLine; omega), fun T hT => ?_⟩
        exact k _ T (NG.Same.upd hT) (.tup (SqT.of upd_same) (.cons (.str _) (dps_same (NG.Same.upd hT) dp)))
end
end NW

set_option maxRecDepth 100000
set_option maxHeartbeats 1000000
/-! what the fields of a node are to be -/
namespace NW
open PySem L2 NG TR LamX
abbrev sDue : Stmt := top 41
def nameAt (H : Hp) (z : Str) : V → Bool
  | .ref a => match H a with
    | some (.tup (.str n :: _)) => n == z
    | _ => false
  | _ => false
theorem nameAt_of {H : Hp} {z : Str} {q : V} {e : Str × Nat} (h : EntAt H q e) : nameAt H z q = (e.1 == z) := by
  obtain ⟨a, rfl, h⟩ := h
  show (match H a with | some (.tup (.str n :: _)) => n == z | _ => false) = _
  rw [h]
theorem entL_cons {H : Hp} {q : V} {qs : List V} {e : Str × Nat} {es : List (Str × Nat)} (h : EntL H (q :: qs) (e :: es)) : EntAt H q e ∧ EntL H qs es := ⟨h.2 0 q e rfl rfl, by simpa using h.1, fun k x y a b => h.2 (k + 1) x y a b⟩
theorem entL_mk {H : Hp} {q : V} {qs : List V} {e : Str × Nat} {es : List (Str × Nat)} (h : EntAt H q e) (g : EntL H qs es) : EntL H (q :: qs) (e :: es) := ⟨by simp [g.1], fun k x y a b => by
  cases k with
  | zero => cases Option.some.inj a; cases Option.some.inj b; exact h
  | succ k => exact g.2 k x y a b⟩
theorem EntL.app {H : Hp} {qs rs : List V} {es fs : List (Str × Nat)} (h : EntL H qs es) (g : EntL H rs fs) : EntL H (qs ++ rs) (es ++ fs) := by
  refine ⟨by rw [List.length_append, List.length_append, h.1, g.1], fun k x y a b => ?_⟩
  by_cases hk : k < qs.length
  · rw [List.getElem?_append_left hk] at a
    rw [List.getElem?_append_left (by rw [← h.1]; exact hk)] at b
    exact h.2 k x y a b
  · rw [List.getElem?_append_right (by omega)] at a
    rw [List.getElem?_append_right (by rw [← h.1]; omega), ← h.1] at b
    exact g.2 _ x y a b
theorem EntL.filter {H : Hp} {z : Str} : ∀ {qs : List V} {es : List (Str × Nat)}, EntL H qs es → EntL H (qs.filter (nameAt H z)) (es.filter fun e => e.1 == z)
  | [], [], h => h
  | [], _ :: _, h => absurd h.1 (by simp)
  | _ :: _, [], h => absurd h.1 (by simp)
  | q :: qs, e :: es, h => by
    obtain ⟨h1, h2⟩ := entL_cons h
    have ih := EntL.filter (z := z) h2
    have en := nameAt_of (z := z) h1
    cases k : e.1 == z with
    | true =>
      rw [List.filter_cons_of_pos (by rw [en, k]), List.filter_cons_of_pos (by simpa using k)]
      exact entL_mk h1 ih
    | false =>
      rw [List.filter_cons_of_neg (by rw [en, k]; exact Bool.false_ne_true), List.filter_cons_of_neg (by simp [k])]
      exact ih
theorem only_name : ∀ {es : List (Str × Nat)} {e : Str × Nat}, (es.map (·.1)).Nodup → e ∈ es → (es.filter fun x => x.1 == e.1) = [e]
  | [], _, _, h => by cases h
  | x :: r, e, hn, h => by
    rw [List.map_cons, List.nodup_cons] at hn
    rcases List.mem_cons.mp h with rfl | h
    · rw [List.filter_cons_of_pos (by simp)]
      have : (r.filter fun x => x.1 == e.1) = [] := by
        rw [List.filter_eq_nil_iff]
        intro y hy q
        have q' : y.1 = e.1 := by simpa using q
        exact hn.1 (List.mem_map.mpr ⟨y, hy, q'⟩)
      rw [this]
    · have hne : (x.1 == e.1) = false := by
        cases q : x.1 == e.1 with
        | false => rfl
        | true =>
          have q' : x.1 = e.1 := by simpa using q
          exact absurd (List.mem_map.mpr ⟨e, h, q'.symm⟩) hn.1
      rw [List.filter_cons_of_neg (by simp [hne])]
      exact only_name hn.2 h
theorem leE_data (a b : Str × Nat) : leE a b = PySem.W.dataLe false (fun x : V × PyData => x.2) (V.str a.1, .str a.1) (V.str b.1, .str b.1) := by
  show _ = (!PySem.W.dataLt (.str b.1) (.str a.1))
  rw [PySem.W.dataLt_str]
  unfold leE
  by_cases h : a.1.cps.toList ≤ b.1.cps.toList
  · rw [decide_eq_true h, decide_eq_false (fun z => List.not_lt.mpr h z)]
    rfl
  · rw [decide_eq_false h, decide_eq_true (List.not_le.mp h)]
    rfl
def spDue (K : PySem.W.Frag) : Sp := fun vs H Q _ => ∃ (t L : Addr) (nd : Nd), vs = [.ref t] ∧ NdAt H (t, L) nd ∧ (nd.ents.map (·.1)).Nodup ∧ nd.ents.length ≤ 100 ∧ ∀ H' v, Same H H' → Dp K H' v (fldD (srtN nd)) → Q v H'
section
variable {P : Program} {w : World} {K : PySem.W.Frag} {mg : Str → Option Value} {base : Heap} {f fBy : Addr} {cs : Nat → Addr}
theorem scDue : FnScope ["_law_node", "_law_found", "_law_name", "_law_one", "_law_other", "_law_entry"] ["_law_node"] (defScope sDue) := ⟨rfl, rfl, rfl, by decide +kernel, rfl, by decide +kernel, by decide +kernel⟩
theorem ok_due {fd : FuncData} (F : Fun K "_law_due" "_law_due" sDue f fd) (TS : TxtS K mg fBy) : FnOk P w K mg base CX0 1 f fd ["_law_node"] (spDue K) := by
  have nd := scDue.nd
  refine F.ok scDue (fun vs H Q E h => ?_) (fun cdv A outer s H vs Q E hr h => ?_)
  · obtain ⟨t, L, nd, rfl, _⟩ := h
    rfl
  · obtain ⟨t, L, x, rfl, hN, hnd, hl, k⟩ := h
    have hs : sizeLine = 16777216 := sizeLine_eq
    refine ⟨_, (pss_cons (ps_if (pt_cmpR op_ne (pe_ix ix_tup (pv 0) pe_int (fun _ _ => rfl)) pe_str (nomark _)) (pss_one (ps_ret (pv 0))) pss_nil)
  (pss_cons (ps_set (i := 1) nd rfl (Or.inl rfl) (pe_lst pa_nil))
  (pss_cons (ps_for PassesOwn.never rfl (pi_list (pe_callB (cr_sortedD (hu64 hr)) (by rfl) TS.m_sorted (by decide +kernel) (pa_cons (pe_lc (own := [("_law_one", 3), ("_law_other", 4)]) (g := gTup K 2 (gCons (gName 3) (gCons (gName 4) gNil))) rfl nd (pi_list (pe_ix ix_tup (pv 0) pe_int (fun _ _ => rfl))) (blkOk_by (N := ["_law_node", "_law_found", "_law_name", "_law_one", "_law_other", "_law_entry"]) (sc := defScope sDue) (by decide +kernel)) (fun _ _ _ _ _ => (pg_tup (by rfl) (pgs_cons (pg_name (i := 3) nd rfl (Or.inl rfl)) (pgs_cons (pg_name (i := 4) nd rfl (Or.inl rfl)) pgs_nil)))) (fun _ _ _ _ _ => pts_nil) (fun _ _ _ _ _ => (pv 3))) pa_nil))) (pg_name (i := 2) nd rfl (Or.inr rfl))
  (pss_one (ps_expr (pe_bm PySem.F.plainAttrs_list PySem.F.slot_list_extend PySem.F.type_list_extend mt_extend (pv 1) (pa_cons (pe_lc (own := [("_law_entry", 5)]) (tt := tTest (tOp rEq (tOp (rIxT K) (tVar 5) (tC (V.int 0))) (tVar 2))) rfl nd (pi_list (pe_ix ix_tup (pv 0) pe_int (fun _ _ => rfl))) (blkOk_by (N := ["_law_node", "_law_found", "_law_name", "_law_one", "_law_other", "_law_entry"]) (sc := defScope sDue) (by decide +kernel)) (fun _ _ _ _ _ => (pg_name (i := 5) nd rfl (Or.inl rfl))) (fun _ _ _ _ _ => pts_one (pt_cmpR op_eq (pe_ix ix_tup (pv 5) pe_int (fun _ _ => rfl)) (pv 2) (nomark _))) (fun _ _ _ _ _ => (pv 5))) pa_nil)))))
  (pss_one (ps_ret (pe_tup (pa_cons pe_str (pa_cons (pe_ix ix_tup (pv 0) pe_int (fun _ _ => rfl)) (pa_cons (pe_callTy call_tuple_of (by rfl) TS.m_tuple (by decide +kernel) (pa_cons (pv 1) pa_nil)) pa_nil))))))))), ?_⟩
    cases x with
    | fil o =>
      have e : H t = some (.tup [.str "file", .int o]) := hN
      refine ⟨_, rfl, t, _, 0, _, rfl, rfl, SqT.of e, atI_zero, rfl, _, rfl, iteT ⟨_, rfl, ?_⟩⟩
      exact k H (.ref t) (Same.refl _) (.tup (SqT.of e) (.cons (.str _) (.cons (.int _) .nil)))
    | lnk o z =>
      have e : H t = some (.tup [.str "link", .int o, .str z]) := hN
      refine ⟨_, rfl, t, _, 0, _, rfl, rfl, SqT.of e, atI_zero, rfl, _, rfl, iteT ⟨_, rfl, ?_⟩⟩
      exact k H (.ref t) (Same.refl _) (.tup (SqT.of e) (.cons (.str _) (.cons (.int _) (.cons (.str _) .nil))))
    | gon o ab =>
      have e : H t = some (.tup [.str "gone", .int o, .int (ab : Nat)]) := hN
      refine ⟨_, rfl, t, _, 0, _, rfl, rfl, SqT.of e, atI_zero, rfl, _, rfl, iteT ⟨_, rfl, ?_⟩⟩
      exact k H (.ref t) (Same.refl _) (.tup (SqT.of e) (.cons (.str _) (.cons (.int _) (.cons (.int _) .nil))))
    | fol o es =>
      obtain ⟨e, qs, eL, ql, qe⟩ := hN
      have EL : EntL H qs es := ⟨ql, qe⟩
      refine ⟨_, rfl, t, _, 0, _, rfl, rfl, SqT.of e, atI_zero, rfl, _, rfl, iteF ?_⟩
      refine ⟨(by show 0 ≤ sizeLine; omega), fun l hl0 => ?_⟩
      have s1 := NG.Same.upd (o := HO.lst []) hl0
      have e1 : (upd H l (HO.lst [])) l = some (.lst []) := upd_same
      generalize upd H l (HO.lst []) = H1 at s1 e1 ⊢
      refine ⟨_, rfl, t, _, 2, .ref L, rfl, rfl, SqT.of (s1 _ _ e), rfl, L, rfl, ⟨_, SqL.of (s1 _ _ eL)⟩, fun D hD => ?_⟩
      have nlD : l ≠ D := ne_of_none e1 hD
      refine lc_pair (K := K) (walk_list (K := K) (a := L)) (i := 3) (j := 4) (by decide) (vEs es) (by rw [vEs_len, ql]) (fun _ => true) (fun v => v.1) (fun i x' v h1' h2' => ?_) (by rw [ql]; have : es.length ≤ 100 := hl; omega) hD (fun H' s => SqL.of (s _ _ (s1 _ _ eL))) (fun i v H' R _ s hR => hR _ (Same.refl _)) (fun i v H' R h _ s hR => ⟨_, rfl, hR _ (Same.refl _)⟩) (fun H2 s2 e2 => ?_)
      · obtain ⟨en, h3, _, rfl⟩ := vEs_get h2'
        obtain ⟨a, rfl, ha⟩ := qe i x' en h1' h3
        exact ⟨a, rfl, SqT.of (s1 _ _ ha)⟩
      have e2' : H2 D = some (.lst ((es.map fun e => (V.str e.1, PyData.str e.1)).map (·.1))) := by
        rw [e2, List.filter_eq_self.mpr (fun _ _ => rfl)]
        unfold vEs
        rw [List.map_map, List.map_map]
        rfl
      have s02 := s1.trans s2
      refine ⟨D, es.map fun e => (V.str e.1, PyData.str e.1), rfl, SqL.of e2', fun b hb => ?_, ?_, ?_, fun p hp => ?_⟩
      · obtain ⟨en, _, rfl⟩ := List.mem_map.mp hb
        exact ⟨.str _, by simp [PyData.depth]⟩
      · rw [List.map_map]
        exact PySem.W.AllAlike.of fun b b' => by simp [PySem.W.alike]
      · rw [List.map_map]
        exact PySem.W.Sortable.others fun b => ⟨(fun z => by cases z), fun xs z => by cases z⟩
      have es1 : ((es.map fun e => (V.str e.1, PyData.str e.1)).mergeSort (PySem.W.dataLe false (·.2))).map (·.1) = (srtE es).map fun e => V.str e.1 := by
        have : (es.map fun e => (V.str e.1, PyData.str e.1)).mergeSort (PySem.W.dataLe false (·.2)) = (es.mergeSort leE).map fun e => (V.str e.1, PyData.str e.1) := (List.map_mergeSort fun a _ b _ => leE_data a b).symm
        rw [this, List.map_map]
        rfl
      rw [es1]
      have sp := NG.Same.upd (o := HO.lst ((srtE es).map fun e => V.str e.1)) hp
      have ep : (upd H2 p (HO.lst ((srtE es).map fun e => V.str e.1))) p = some (.lst ((srtE es).map fun e => V.str e.1)) := upd_same
      have el := sp _ _ (s2 _ _ e1)
      have npl : p ≠ l := fun q => by rw [q, s2 _ _ e1] at hp; cases hp
      have s03 := s02.trans sp
      generalize upd H2 p (HO.lst ((srtE es).map fun e => V.str e.1)) = H3 at ep el s03 ⊢
      have slen : (srtE es).length = es.length := (srt_perm es).length_eq
      have hle : es.length ≤ 100 := hl
      refine ⟨p, rfl, ⟨_, SqL.of ep⟩, for_list (K := K) (a := p) (xs := (srtE es).map fun e => V.str e.1) (fun i σ H' => (∃ v2 v3 v4 v5 : Option V, σ = [some (.ref t), some (.ref l), v2, v3, v4, v5]) ∧ Same H H' ∧ H' p = some (.lst ((srtE es).map fun e => V.str e.1)) ∧ ∃ fs, H' l = some (.lst fs) ∧ EntL H' fs ((srtE es).take i))
        ⟨⟨_, _, _, _, rfl⟩, s03, ep, [], el, rfl, fun k q e a => by cases a⟩ (fun i σ H' _ h => SqL.of h.2.2.1) ?_ ?_⟩
      · rintro i y σ H4 hi ⟨⟨v2, v3, v4, v5, rfl⟩, s4, ep4, fs, ef, E4⟩
        rw [List.getElem?_map] at hi
        cases ee : (srtE es)[i]? with
        | none => rw [ee] at hi; cases hi
        | some en =>
          rw [ee] at hi
          cases Option.some.inj hi
          have hm : en ∈ es := (srt_perm es).mem_iff.mp (List.mem_of_getElem? ee)
          refine ⟨_, rfl, .inl ⟨rfl, _, SqL.of ef⟩, _, rfl, t, _, 2, .ref L, rfl, rfl, SqT.of (s4 _ _ e), rfl, L, rfl, ⟨_, SqL.of (s4 _ _ eL)⟩, fun D2 hD2 => ?_⟩
          refine lc_gen (walk_list (K := K) (a := L)) (nameAt H en.1) (fun v => v) (by rw [ql]; omega) hD2 (fun H' s => SqL.of (s _ _ (s4 _ _ eL))) (fun k x' H' R hk s hR => ?_) (fun k x' H' R hk _ s hR => ⟨_, rfl, hR _ (Same.refl _)⟩) (fun H5 s5 e5 => ?_)
          · have hk' : k < es.length := by rw [← ql]; exact (List.getElem?_eq_some_iff.mp hk).1
            have hke : es[k]? = some es[k] := List.getElem?_eq_getElem hk'
            have hA := qe k x' _ hk hke
            rw [nameAt_of hA] at hR
            obtain ⟨a, rfl, ha⟩ := hA
            refine ⟨_, rfl, a, _, 0, _, rfl, rfl, SqT.of (s _ _ (s4 _ _ ha)), atI_zero, _, rfl, rfl, _, rfl, ?_⟩
            have : decide (V.str es[k].1 = V.str en.1) = (es[k].1 == en.1) := by
              by_cases c : es[k].1 = en.1
              · rw [c]; simp
              · rw [decide_eq_false (fun z => c (V.str.inj z))]
                simp [c]
            rw [this]
            exact hR _ (Same.refl _)
          · rw [List.map_id'] at e5
            have E5 := (EL.filter (z := en.1)).same (H' := H5) fun a xs h => s5 _ _ (s4 _ _ h)
            have hnd' : (es.map (·.1)).Nodup := hnd
            rw [only_name hnd' hm] at E5
            have ef5 := s5 _ _ ef
            have E45 := E4.same (H' := H5) fun a xs h => s5 _ _ h
            have lf : fs.length ≤ es.length := by rw [E4.1, List.length_take]; omega
            refine ⟨l, D2, fs, _, rfl, rfl, ef5, e5, by rw [E5.1]; show fs.length + 1 ≤ sizeLine; omega, ?_⟩
            have hlH : H l = none := hl0
            have keepT : ∀ a xs, H5 a = some (.tup xs) → (upd H5 l (HO.lst (fs ++ qs.filter (nameAt H en.1)))) a = some (.tup xs) := fun a xs h => by
              rw [upd_ne (ne_of h ef5 (fun z => by cases z))]; exact h
            refine ⟨⟨_, _, _, _, rfl⟩, fun b u e => ?_, ?_, _, upd_same, ?_⟩
            · rw [upd_ne (ne_of_none e hlH)]; exact s5 _ _ (s4 _ _ e)
            · rw [upd_ne npl]; exact s5 _ _ ep4
            · have et : (srtE es).take (i + 1) = (srtE es).take i ++ [en] := by rw [List.take_add_one, ee]; rfl
              rw [et]
              exact (E45.app E5).same keepT
      · rintro σ H4 ⟨⟨v2, v3, v4, v5, rfl⟩, s4, ep4, fs, ef, E4⟩
        rw [List.length_map, List.take_length] at E4
        refine ⟨_, rfl, t, _, 1, .int o, rfl, rfl, SqT.of (s4 _ _ e), rfl, _, rfl, l, fs, rfl, .inl ⟨SqL.of ef, fun T hT => ?_⟩⟩
        have sT := NG.Same.upd (o := HO.tup fs) hT
        refine ⟨(by show 3 ≤ sizeLine; omega), fun R hR => ?_⟩
        have sR := NG.Same.upd (o := HO.tup [V.str "folder", V.int o, V.ref T]) hR
        refine k _ (.ref R) (s4.trans (sT.trans sR)) (.tup (SqT.of upd_same) (.cons (.str _) (.cons (.int _) (.cons (.tup (SqT.of (sR _ _ upd_same)) ?_) .nil))))
        exact dps_same sR (dps_same sT (dps_entL E4))
end
end NW

set_option maxRecDepth 100000
set_option maxHeartbeats 1000000
/-! folders whose names are odd or stand twice -/
namespace NW
open PySem L2 NG TR LamX
abbrev sOdd : Stmt := top 42
def isStrV : V → Bool
  | .str _ => true
  | _ => false
/-- a text, a number or None -/
def NmV (v : V) : Prop := (∃ z, v = .str z) ∨ (∃ n, v = .int n) ∨ v = .non
theorem NmV.ty {K : PySem.W.Frag} {H : Hp} {v : V} (h : NmV v) : ∃ t, TyX K H v t ∧ PySem.W.kitOne K t (.type "str") = some (isStrV v) := by
  rcases h with ⟨z, rfl⟩ | ⟨n, rfl⟩ | rfl
  · exact ⟨_, .base (.str z), rfl⟩
  · exact ⟨_, .base (.int n), rfl⟩
  · exact ⟨_, .base .non, rfl⟩
/-- pairs of any names -/
def PrsO (K : PySem.W.Frag) (H : Hp) (ys : List V) (ps : List (V × V)) : Prop := ys.length = ps.length ∧ ∀ (i : Nat) (y : V) (p : V × V), ys[i]? = some y → ps[i]? = some p → ∃ t, y = .ref t ∧ SqT K H t [p.1, p.2]
theorem PrsO.same {K : PySem.W.Frag} {H H' : Hp} {ys : List V} {ps : List (V × V)} (h : PrsO K H ys ps) (s : Same H H') : PrsO K H' ys ps := ⟨h.1, fun i y p a b => let ⟨t, x, z⟩ := h.2 i y p a b; ⟨t, x, Same.sqT s z⟩⟩
def spByO (K : PySem.W.Frag) : Sp := fun vs H Q _ => ∃ (L : Addr) (ys : List V) (ps : List (V × V)), vs = [.ref L] ∧ SqL K H L ys ∧ PrsO K H ys ps ∧ ys.length < sizeLine ∧ (∀ p ∈ ps, NmV p.1) ∧ (∃ p ∈ ps, isStrV p.1 = false) ∧
  ∀ H' T, Same H H' → H' T = some (.tup ys) → Q (.ref T) H'
def spFolO (K : PySem.W.Frag) (C : Addr) : Sp := fun vs H Q _ => ∃ (p dx : Addr) (o : V) (L : Addr) (ys : List V) (ps : List (V × V)), vs = [.ref p, o, .ref L] ∧ H p = some (.ins C dx []) ∧ SqL K H L ys ∧ PrsO K H ys ps ∧ ys.length < sizeLine ∧ (∀ p ∈ ps, NmV p.1) ∧ (∃ p ∈ ps, isStrV p.1 = false) ∧
  ∀ (H' : Hp) (E : Addr), But p H H' → H' p = some (.ins C dx (ffV o E)) → H' E = some (.tup ys) → Q .non H'
/-- all but p and the tables -/
def ExtD (p : Addr) (H H' : Hp) : Prop := ∀ b o, H b = some o → b ≠ p → (∀ ps, o ≠ .tbl ps) → H' b = some o
def spOdd (K : PySem.W.Frag) (P0 : Addr) : Sp := fun vs H Q _ => ∃ p : Addr, vs = [.ref p] ∧ (∃ o, H p = some o ∧ DSo o) ∧ Tabs [(P0, qBy)] H ∧ ∀ H', ExtD p H H' → Tabs [(P0, qBy)] H' → (∃ o, H' p = some o ∧ DSo o) → Q (.bl true) H'
theorem butN_ext {H H' H2 : Hp} {x : Addr} (n : H x = none) (s : Same H H') (b : ButN x H' H2) : ExtN H H2 := fun a u e q => b a u (s a u e) (ne_of_none e n) q
theorem but_ext {H H' H2 : Hp} {x : Addr} (n : H x = none) (s : Same H H') (b : But x H' H2) : Same H H2 := fun a u e => b a u (s a u e) (ne_of_none e n)
section
variable {P : Program} {w : World} {K : PySem.W.Frag} {mg : Str → Option Value} {base : Heap} {f fBy c0 P0 C fNum fAt fDigit fPool fI0 : Addr} {cs : Nat → Addr}
theorem ok_byO {fd : FuncData} (F : Fun K "by_names" "by_names" sBy fBy fd) (hc : fd.code = .ref c0) (T : TxtS K mg fBy) (TB : TabB base mg c0 P0) : FnOk P w K mg base CX0 2 fBy fd ["entries"] (spByO K) := by
  have nd := scBy.nd
  refine fun_okC F hc scBy (fun vs H Q E h => ?_) (fun A outer s H vs Q E hr h => ?_)
  · obtain ⟨L, ys, ps, rfl, _⟩ := h
    rfl
  · obtain ⟨L, ys, ps, rfl, hL, hP, hl, hN, hO, k⟩ := h
    refine ⟨_, (pss_cons (ps_if (pt_not (pt_val (pe_callB (cr_all rfl) (by rfl) T.m_all (by decide +kernel) (pa_cons (pe_lc (own := [("name", 1), ("_", 2)]) (g := gTup K 2 (gCons (gName 1) (gCons (gName 2) gNil))) (te := tCB (rIsi K) (tCons (tVar 1) (tCons (tC (V.ty "str")) tNil))) rfl nd (pi_list (pv 0)) (blkOk_by (N := ["entries", "name", "_"]) (sc := defScope sBy) (by decide +kernel)) (fun _ _ _ _ _ => (pg_tup (by rfl) (pgs_cons (pg_name (i := 1) nd rfl (Or.inl rfl)) (pgs_cons (pg_name (i := 2) nd rfl (Or.inl rfl)) pgs_nil)))) (fun _ _ _ _ _ => pts_nil) (fun _ _ _ _ _ => (pe_callB call_isi (by rfl) T.m_isinstance (by decide +kernel) (pa_cons (pv 1) (pa_cons (pe_bltn (v := .ty "str") (by rfl) T.m_str (by decide +kernel) rfl) pa_nil))))) pa_nil)))) (pss_one (ps_ret (pe_callTy call_tuple_of (by rfl) T.m_tuple (by decide +kernel) (pa_cons (pv 0) pa_nil)))) pss_nil)
  (pss_one (ps_ret (pe_callTy call_tuple_ofP (by rfl) T.m_tuple (by decide +kernel) (pa_cons (pe_sortBy (T := [(P0, qBy)]) (q := qBy) (pv 0) (hu64 hr) (hd8 hr) (by rfl) T.m_sorted TB rfl rfl (by simp) (by simp) rfl rfl (by decide) (by intros; rfl)) pa_nil))))), ?_⟩
    refine ⟨_, rfl, L, rfl, ⟨_, hL⟩, fun D hD => ?_⟩
    refine lc_pair (K := K) (walk_list (K := K) (a := L)) (i := 1) (j := 2) (by decide) ps hP.1.symm (fun _ => true) (fun v => V.bl (isStrV v.1)) (fun i x v h1 h2 => hP.2 i x v h1 h2) hl hD (fun H' s => Same.seq s hL) (fun i v H' R _ s hR => hR _ (Same.refl _)) (fun i v H' R h _ s hR => ?_) (fun H1 s1 e1 => ?_)
    · obtain ⟨t, ty, kt⟩ := (hN v (List.mem_of_getElem? h)).ty (K := K) (H := H')
      exact ⟨_, rfl, _, _, _, _, _, rfl, .ty _, ty, kt, hR _ (Same.refl _)⟩
    · have e2 : (ps.filter (fun _ => true)).map (fun v => V.bl (isStrV v.1)) = (ps.map fun v => isStrV v.1).map V.bl := by
        rw [List.filter_eq_self.mpr (fun _ _ => rfl), List.map_map]
        rfl
      rw [e2] at e1
      have hall : (ps.map fun v => isStrV v.1).all id = false := by
        obtain ⟨q, hq, hb⟩ := hO
        cases c : (ps.map fun v => isStrV v.1).all id with
        | false => rfl
        | true =>
          have := List.all_eq_true.mp c _ (List.mem_map.mpr ⟨q, hq, rfl⟩)
          rw [hb] at this
          cases this
      refine ⟨D, ps.map fun v => isStrV v.1, rfl, SqL.of e1, _, rfl, ?_⟩
      rw [hall]
      refine iteT ⟨_, rfl, L, ys, rfl, .inl ⟨Same.seq s1 hL, fun T hT => ?_⟩⟩
      exact k _ T (s1.trans (NG.Same.upd hT)) upd_same
theorem ok_folO {fd fdB : FuncData} (F : Fun K "__init__" "Folder.__init__" sFolI f fd) (T : TxtS K mg fBy) (cl : Cls K C) (h1 : NoAttr K C "owner") (h2 : NoAttr K C "entries") (GB : FnOk P w K mg base CX0 2 fBy fdB ["entries"] (spByO K)) (bB : Binds K fdB ["entries"] []) :
    FnOk P w K mg base CX0 3 f fd ["self", "owner", "entries"] (spFolO K C) := by
  have nd := scFolI.nd
  refine F.ok scFolI (fun vs H Q E h => ?_) (fun cdv A outer s H vs Q E hr h => ?_)
  · obtain ⟨p, dx, o, L, ys, ps, rfl, _⟩ := h
    rfl
  · obtain ⟨p, dx, o, L, ys, ps, rfl, hp, hL, hP, hl, hN, hO, k⟩ := h
    have hr1 : Room 2 _ := hr
    refine ⟨_, (pss_cons (ps_fld (pv 0) (pv 1) rfl)
  (pss_one (ps_fld (pv 0) (pe_call GB hr1 (by rfl) T.g_by T.kp_by bB .nil pass0 (pa_cons (pe_lc (own := [("entry", 3)]) (te := tCB (rTupOf K) (tCons (tVar 3) tNil)) rfl nd (pi_list (pv 2)) (blkOk_by (N := ["self", "owner", "entries", "entry"]) (sc := defScope sFolI) (by decide +kernel)) (fun _ _ _ _ _ => (pg_name (i := 3) nd rfl (Or.inl rfl))) (fun _ _ _ _ _ => pts_nil) (fun _ _ _ _ _ => (pe_callTy call_tuple_of (by rfl) T.m_tuple (by decide +kernel) (pa_cons (pv 3) pa_nil)))) pa_nil)) rfl))), ?_⟩
    refine ⟨_, rfl, _, rfl, p, C, dx, _, rfl, hp, cl, h1, (by show 0 < 1000; decide), ?_⟩
    have bT : But p H (upd H p (.ins C dx (putF "owner" o []))) := (But.refl p H).upd
    have hL1 : SqL K (upd H p (.ins C dx (putF "owner" o []))) L ys := by
      rcases hL with (h | ⟨u, h⟩) | h
      · exact .inl (.inl (bT _ _ h (ne_of h hp (fun z => by cases z))))
      · exact .inl (.inr ⟨u, bT _ _ h (ne_of h hp (fun z => by cases z))⟩)
      · exact .inr h
    have hP1 : PrsO K (upd H p (.ins C dx (putF "owner" o []))) ys ps := ⟨hP.1, fun i y q a b => let ⟨t, x, z⟩ := hP.2 i y q a b; ⟨t, x, But.sqT hp bT z⟩⟩
    have hp1 : (upd H p (.ins C dx (putF "owner" o []))) p = some (.ins C dx (putF "owner" o [])) := upd_same
    generalize upd H p (.ins C dx (putF "owner" o [])) = H1 at bT hL1 hP1 hp1 ⊢
    refine ⟨_, rfl, L, rfl, ⟨_, hL1⟩, fun D hD => ?_⟩
    refine lc_map (walk_list (K := K) (a := L) (xs := ys)) (fun v => v) hl hD (fun H' s => Same.seq s hL1) (fun i x H' R hx s hR => ?_) (fun H2 s2 e2 => ?_)
    · have hi : i < ps.length := by rw [← hP1.1]; exact (List.getElem?_eq_some_iff.mp hx).1
      obtain ⟨t, rfl, ht⟩ := hP1.2 i x _ hx (List.getElem?_eq_getElem hi)
      exact ⟨_, rfl, t, _, rfl, .inr ⟨Same.sqT s ht, hR _ (Same.refl _)⟩⟩
    · rw [List.map_id'] at e2
      refine ⟨D, ys, ps, rfl, SqL.of e2, hP1.same s2, hl, hN, hO, fun H3 E s3 hE => ?_⟩
      have hp3 := s3 _ _ (s2 _ _ hp1)
      refine ⟨_, rfl, p, C, dx, _, rfl, hp3, cl, h2, (by show 1 < 1000; decide), ?_⟩
      have nE : E ≠ p := ne_of hE hp3 (fun z => by cases z)
      exact k _ E ((bT.same (s2.trans s3)).upd) upd_same (by rw [upd_ne nE]; exact hE)
theorem sh_pairs (ps : List (PyData × PyData)) (h : ∀ p ∈ ps, p.1.canLay0 = true ∧ p.1.depth ≤ 1 ∧ p.2.canLay0 = true ∧ p.2.depth ≤ 1) : SeqAt.shaped (.tuple (ps.map fun p => .tuple [p.1, p.2])) = true := by
  have : PyData.canLayAll0 (ps.map fun p => .tuple [p.1, p.2]) = true ∧ PyData.depthAll (ps.map fun p => PyData.tuple [p.1, p.2]) ≤ 3 := by
    induction ps with
    | nil => exact ⟨rfl, by simp [PyData.depthAll]⟩
    | cons p r ih =>
      obtain ⟨h1, h2⟩ := ih fun x hx => h x (List.mem_cons_of_mem _ hx)
      obtain ⟨a, b, c, d⟩ := h p List.mem_cons_self
      refine ⟨?_, ?_⟩
      · rw [List.map_cons]
        simp [PyData.canLayAll0, PyData.canLay0, a, c, h1]
      · rw [List.map_cons]
        simp only [PyData.depthAll, PyData.depth]
        omega
  unfold SeqAt.shaped
  rw [Bool.and_eq_true]
  refine ⟨by simpa [PyData.canLay0] using this.1, decide_eq_true ?_⟩
  simp only [PyData.depth]
  omega
theorem srt_five (x y : V) : srtE [(("b" : Str), x), ("a", y), ("b", y), ("a", x), ("...", V.int 1)] = [(("..." : Str), V.int 1), ("a", y), ("a", x), ("b", x), ("b", y)] := by
  have n1 : ∀ u v : V, leE (("b" : Str), u) (("a" : Str), v) = false := fun u v => by
    show decide (("b" : Str).cps.toList ≤ ("a" : Str).cps.toList) = false
    decide +kernel
  have n2 : ∀ u v : V, leE (("a" : Str), u) (("b" : Str), v) = true := fun u v => by
    show decide (("a" : Str).cps.toList ≤ ("b" : Str).cps.toList) = true
    decide +kernel
  have n3 : ∀ u v : V, leE (("b" : Str), u) (("b" : Str), v) = true := fun u v => by
    show decide (("b" : Str).cps.toList ≤ ("b" : Str).cps.toList) = true
    decide +kernel
  have n4 : ∀ u v : V, leE (("a" : Str), u) (("a" : Str), v) = true := fun u v => by
    show decide (("a" : Str).cps.toList ≤ ("a" : Str).cps.toList) = true
    decide +kernel
  have n5 : ∀ u v : V, leE (("a" : Str), u) (("..." : Str), v) = false := fun u v => by
    show decide (("a" : Str).cps.toList ≤ ("..." : Str).cps.toList) = false
    decide +kernel
  have n6 : ∀ u v : V, leE (("b" : Str), u) (("..." : Str), v) = false := fun u v => by
    show decide (("b" : Str).cps.toList ≤ ("..." : Str).cps.toList) = false
    decide +kernel
  have n7 : ∀ u v : V, leE (("..." : Str), u) (("b" : Str), v) = true := fun u v => by
    show decide (("..." : Str).cps.toList ≤ ("b" : Str).cps.toList) = true
    decide +kernel
  have n8 : ∀ u v : V, leE (("..." : Str), u) (("a" : Str), v) = true := fun u v => by
    show decide (("..." : Str).cps.toList ≤ ("a" : Str).cps.toList) = true
    decide +kernel
  unfold srtE
  simp [List.mergeSort, List.MergeSort.Internal.splitInTwo, List.merge, n1, n2, n3, n4, n5, n6, n7, n8]
theorem scOdd : FnScope ["_law_s", "_law_x", "_law_y", "_law_twice", "_law_odd"] ["_law_s"] (defScope sOdd) := ⟨rfl, rfl, rfl, by decide +kernel, rfl, by decide +kernel, by decide +kernel⟩
theorem ok_odd {fd fdD fdF : FuncData} (F : Fun K "_law_odd_right" "_law_odd_right" sOdd f fd) (T : TxtK K mg fNum fAt fDigit fPool) (TS : TxtS K mg fBy) (TG : TxtG K mg cs) (M0 : Mk K (cs 0) fI0)
    (GD : FnOk P w K mg base CX0 1 fDigit fdD ["_law_state_here", "_law_base"] spDigit) (bD : Binds K fdD ["_law_state_here", "_law_base"] [])
    (GF : FnOk P w K mg base CX0 3 fI0 fdF ["self", "owner", "entries"] (spFol K (cs 0) P0)) (GFO : FnOk P w K mg base CX0 3 fI0 fdF ["self", "owner", "entries"] (spFolO K (cs 0))) (bF : Binds K fdF ["self", "owner", "entries"] []) :
    FnOk P w K mg base CX0 5 f fd ["_law_s"] (spOdd K P0) := by
  have nd := scOdd.nd
  refine F.ok scOdd (fun vs H Q E h => ?_) (fun cdv A outer s H vs Q E hr h => ?_)
  · obtain ⟨p, rfl, _⟩ := h
    rfl
  · obtain ⟨p, rfl, ⟨o0, hp0, d0⟩, hT, k⟩ := h
    have hr4 : Room 4 _ := hr
    have hr1 : Room 1 _ := hr.mono (by decide)
    have hu := hu64 hr
    have hs : sizeLine = 16777216 := sizeLine_eq
    refine ⟨_, (pss_cons (ps_par (i := 1) (j := 2) (by rfl) nd rfl rfl (by decide) rfl rfl (pa_cons (pe_call GD hr1 (by rfl) T.g_digit T.kp_digit bD .nil pass0 (pa_cons (pv 0) (pa_cons pe_int pa_nil))) (pa_cons (pe_call GD hr1 (by rfl) T.g_digit T.kp_digit bD .nil pass0 (pa_cons (pv 0) (pa_cons pe_int pa_nil))) pa_nil)) (by rfl))
  (pss_cons (ps_set (i := 3) nd rfl (Or.inl rfl) (pe_make M0 GF hr4 (by rfl) TG.m_Folder bF .nil pass0 (pa_cons pe_int (pa_cons (pe_lst (pa_cons (pe_tup (pa_cons pe_str (pa_cons (pv 1) pa_nil))) (pa_cons (pe_tup (pa_cons pe_str (pa_cons (pv 2) pa_nil))) (pa_cons (pe_lst (pa_cons pe_str (pa_cons (pv 2) pa_nil))) (pa_cons (pe_tup (pa_cons pe_str (pa_cons (pv 1) pa_nil))) (pa_cons (pe_tup (pa_cons pe_str (pa_cons pe_int pa_nil))) pa_nil)))))) pa_nil))))
  (pss_cons (ps_if (pt_cmpR (op_neD hu) (pe_fld (pv 3) rfl) (pe_tup (pa_cons (pe_tup (pa_cons pe_str (pa_cons pe_int pa_nil))) (pa_cons (pe_tup (pa_cons pe_str (pa_cons (pv 2) pa_nil))) (pa_cons (pe_tup (pa_cons pe_str (pa_cons (pv 1) pa_nil))) (pa_cons (pe_tup (pa_cons pe_str (pa_cons (pv 1) pa_nil))) (pa_cons (pe_tup (pa_cons pe_str (pa_cons (pv 2) pa_nil))) pa_nil)))))) (nomark _)) (pss_one (ps_ret pe_bl)) pss_nil)
  (pss_cons (ps_set (i := 4) nd rfl (Or.inl rfl) (pe_lst (pa_cons (pe_tup (pa_cons pe_str (pa_cons (pv 1) pa_nil))) (pa_cons (pe_tup (pa_cons pe_int (pa_cons (pv 2) pa_nil))) (pa_cons (pe_tup (pa_cons pe_str (pa_cons (pv 1) pa_nil))) (pa_cons (pe_tup (pa_cons pe_non (pa_cons pe_int pa_nil))) pa_nil))))))
  (pss_one (ps_ret (pe_cmpR (op_eqD hu) (pe_fld (pe_make M0 GFO hr4 (by rfl) TG.m_Folder bF .nil pass0 (pa_cons pe_int (pa_cons (pv 4) pa_nil))) rfl) (pe_callTy call_tuple_of (by rfl) TS.m_tuple (by decide +kernel) (pa_cons (pv 4) pa_nil)) (nomark _)))))))), ?_⟩
    refine ⟨_, rfl, p, 9, o0, rfl, by decide, by decide, hp0, d0, fun x o1 x0 x1 hd1 => ?_⟩
    refine ⟨_, rfl, p, 9, o1, rfl, by decide, by decide, upd_same, hd1, fun y o2 y0 y1 hd2 => ⟨V.int x, V.int y, rfl, ?_⟩⟩
    have bp : But p H (upd (upd H p o1) p o2) := ((But.refl p H).upd).upd
    have ep : (upd (upd H p o1) p o2) p = some o2 := upd_same
    have lstO : ∀ {o : HO}, DSo o → ∃ xs, o = .lst xs := fun h => let ⟨a, b, c, e, _⟩ := h; ⟨_, e⟩
    have hT2 : Tabs [(P0, qBy)] (upd (upd H p o1) p o2) := by
      obtain ⟨l0, e0⟩ := lstO d0
      obtain ⟨l1, e1⟩ := lstO hd1
      obtain ⟨l2, e2⟩ := lstO hd2
      subst e0 e1 e2
      exact tabs_lst (tabs_lst hT hp0) (upd_same)
    generalize upd (upd H p o1) p o2 = G0 at bp ep hT2 ⊢
    refine ⟨_, rfl, (by show 2 ≤ sizeLine; omega), fun a1 h_a1 => ?_⟩
    have s_a1 := NG.Same.upd (o := HO.tup [V.str "b", V.int x]) h_a1
    have e_a1 : (upd G0 a1 (HO.tup [V.str "b", V.int x])) a1 = some (.tup [V.str "b", V.int x]) := upd_same
    generalize upd G0 a1 (HO.tup [V.str "b", V.int x]) = G1 at s_a1 e_a1 ⊢
    refine ⟨_, rfl, (by show 2 ≤ sizeLine; omega), fun a2 h_a2 => ?_⟩
    have s_a2 := NG.Same.upd (o := HO.tup [V.str "a", V.int y]) h_a2
    have e_a2 : (upd G1 a2 (HO.tup [V.str "a", V.int y])) a2 = some (.tup [V.str "a", V.int y]) := upd_same
    generalize upd G1 a2 (HO.tup [V.str "a", V.int y]) = G2 at s_a2 e_a2 ⊢
    refine ⟨_, rfl, (by show 2 ≤ sizeLine; omega), fun a3 h_a3 => ?_⟩
    have s_a3 := NG.Same.upd (o := HO.lst [V.str "b", V.int y]) h_a3
    have e_a3 : (upd G2 a3 (HO.lst [V.str "b", V.int y])) a3 = some (.lst [V.str "b", V.int y]) := upd_same
    generalize upd G2 a3 (HO.lst [V.str "b", V.int y]) = G3 at s_a3 e_a3 ⊢
    refine ⟨_, rfl, (by show 2 ≤ sizeLine; omega), fun a4 h_a4 => ?_⟩
    have s_a4 := NG.Same.upd (o := HO.tup [V.str "a", V.int x]) h_a4
    have e_a4 : (upd G3 a4 (HO.tup [V.str "a", V.int x])) a4 = some (.tup [V.str "a", V.int x]) := upd_same
    generalize upd G3 a4 (HO.tup [V.str "a", V.int x]) = G4 at s_a4 e_a4 ⊢
    refine ⟨(by show 2 ≤ sizeLine; omega), fun a5 h_a5 => ?_⟩
    have s_a5 := NG.Same.upd (o := HO.tup [V.str "...", V.int 1]) h_a5
    have e_a5 : (upd G4 a5 (HO.tup [V.str "...", V.int 1])) a5 = some (.tup [V.str "...", V.int 1]) := upd_same
    generalize upd G4 a5 (HO.tup [V.str "...", V.int 1]) = G5 at s_a5 e_a5 ⊢
    refine ⟨(by show 5 ≤ sizeLine; omega), fun aL h_aL => ?_⟩
    have s_aL := NG.Same.upd (o := HO.lst [V.ref a1, V.ref a2, V.ref a3, V.ref a4, V.ref a5]) h_aL
    have e_aL : (upd G5 aL (HO.lst [V.ref a1, V.ref a2, V.ref a3, V.ref a4, V.ref a5])) aL = some (.lst [V.ref a1, V.ref a2, V.ref a3, V.ref a4, V.ref a5]) := upd_same
    generalize upd G5 aL (HO.lst [V.ref a1, V.ref a2, V.ref a3, V.ref a4, V.ref a5]) = G6 at s_aL e_aL ⊢
    have sA := (((((s_a1.trans s_a2).trans s_a3).trans s_a4).trans s_a5).trans s_aL)
    refine fun q dq nq ndq neq => ?_
    have sq := new_ext (C := cs 0) nq ndq
    have eq0 : (upd (upd G6 dq (.own q)) q (.ins (cs 0) dq [])) q = some (.ins (cs 0) dq []) := upd_same
    have nq' : G6 q = none := nq
    generalize upd (upd G6 dq (.own q)) q (.ins (cs 0) dq []) = Gq at sq eq0 ⊢
    refine ⟨q, dq, _, aL, _, [(("b" : Str), V.int x), ("a", V.int y), ("b", V.int y), ("a", V.int x), ("...", V.int 1)], rfl, eq0, hT2.ext (sA.trans sq), SqL.of (sq _ _ e_aL), ⟨rfl, fun i z e a b => ?_⟩, by show 5 < sizeLine; omega, fun Hf Ef qs bf tf xf plf lf hqf => ⟨rfl, ?_⟩⟩
    · match i, a, b with
      | 0, a, b => cases a; cases b; exact ⟨a1, rfl, .inl (SqT.of (sq _ _ (s_aL _ _ (s_a5 _ _ (s_a4 _ _ (s_a3 _ _ (s_a2 _ _ e_a1)))))))⟩
      | 1, a, b => cases a; cases b; exact ⟨a2, rfl, .inl (SqT.of (sq _ _ (s_aL _ _ (s_a5 _ _ (s_a4 _ _ (s_a3 _ _ e_a2))))))⟩
      | 2, a, b => cases a; cases b; exact ⟨a3, rfl, .inr (SqL.of (sq _ _ (s_aL _ _ (s_a5 _ _ (s_a4 _ _ e_a3)))))⟩
      | 3, a, b => cases a; cases b; exact ⟨a4, rfl, .inl (SqT.of (sq _ _ (s_aL _ _ (s_a5 _ _ e_a4))))⟩
      | 4, a, b => cases a; cases b; exact ⟨a5, rfl, .inl (SqT.of (sq _ _ (s_aL _ _ e_a5)))⟩
      | n + 5, a, b => cases a
    rw [srt_five] at hqf
    have n0f : ExtN G0 Hf := (ExtN.same sA).trans (butN_ext nq' sq bf)
    have dpq : DpAll K Hf qs [.tuple [.str "...", .int 1], .tuple [.str "a", .int y], .tuple [.str "a", .int x], .tuple [.str "b", .int x], .tuple [.str "b", .int y]] := by
      match qs, lf, hqf with
      | [q0, q1, q2, q3, q4], lf, hqf =>
        obtain ⟨b0, rfl, g0⟩ := hqf 0 q0 _ rfl rfl
        obtain ⟨b1, rfl, g1⟩ := hqf 1 q1 _ rfl rfl
        obtain ⟨b2, rfl, g2⟩ := hqf 2 q2 _ rfl rfl
        obtain ⟨b3, rfl, g3⟩ := hqf 3 q3 _ rfl rfl
        obtain ⟨b4, rfl, g4⟩ := hqf 4 q4 _ rfl rfl
        exact .cons (.tup g0 (.cons (.str _) (.cons (.int _) .nil))) (.cons (.tup g1 (.cons (.str _) (.cons (.int _) .nil))) (.cons (.tup g2 (.cons (.str _) (.cons (.int _) .nil))) (.cons (.tup g3 (.cons (.str _) (.cons (.int _) .nil))) (.cons (.tup g4 (.cons (.str _) (.cons (.int _) .nil))) .nil))))
    refine ⟨_, rfl, q, cs 0, dq, _, _, rfl, xf, TG.cl 0 (by decide), TG.nE, (by unfold ffV; rw [lookup_putF, if_pos rfl]), ?_⟩
    refine ⟨(by show 2 ≤ sizeLine; omega), fun c1 h_c1 => ?_⟩
    have s_c1 := NG.Same.upd (o := HO.tup [V.str "...", V.int 1]) h_c1
    have e_c1 : (upd Hf c1 (HO.tup [V.str "...", V.int 1])) c1 = some (.tup [V.str "...", V.int 1]) := upd_same
    generalize upd Hf c1 (HO.tup [V.str "...", V.int 1]) = G7 at s_c1 e_c1 ⊢
    refine ⟨_, rfl, (by show 2 ≤ sizeLine; omega), fun c2 h_c2 => ?_⟩
    have s_c2 := NG.Same.upd (o := HO.tup [V.str "a", V.int y]) h_c2
    have e_c2 : (upd G7 c2 (HO.tup [V.str "a", V.int y])) c2 = some (.tup [V.str "a", V.int y]) := upd_same
    generalize upd G7 c2 (HO.tup [V.str "a", V.int y]) = G8 at s_c2 e_c2 ⊢
    refine ⟨_, rfl, (by show 2 ≤ sizeLine; omega), fun c3 h_c3 => ?_⟩
    have s_c3 := NG.Same.upd (o := HO.tup [V.str "a", V.int x]) h_c3
    have e_c3 : (upd G8 c3 (HO.tup [V.str "a", V.int x])) c3 = some (.tup [V.str "a", V.int x]) := upd_same
    generalize upd G8 c3 (HO.tup [V.str "a", V.int x]) = G9 at s_c3 e_c3 ⊢
    refine ⟨_, rfl, (by show 2 ≤ sizeLine; omega), fun c4 h_c4 => ?_⟩
    have s_c4 := NG.Same.upd (o := HO.tup [V.str "b", V.int x]) h_c4
    have e_c4 : (upd G9 c4 (HO.tup [V.str "b", V.int x])) c4 = some (.tup [V.str "b", V.int x]) := upd_same
    generalize upd G9 c4 (HO.tup [V.str "b", V.int x]) = G10 at s_c4 e_c4 ⊢
    refine ⟨_, rfl, (by show 2 ≤ sizeLine; omega), fun c5 h_c5 => ?_⟩
    have s_c5 := NG.Same.upd (o := HO.tup [V.str "b", V.int y]) h_c5
    have e_c5 : (upd G10 c5 (HO.tup [V.str "b", V.int y])) c5 = some (.tup [V.str "b", V.int y]) := upd_same
    generalize upd G10 c5 (HO.tup [V.str "b", V.int y]) = G11 at s_c5 e_c5 ⊢
    refine ⟨(by show 5 ≤ sizeLine; omega), fun cT h_cT => ?_⟩
    have s_cT := NG.Same.upd (o := HO.tup [V.ref c1, V.ref c2, V.ref c3, V.ref c4, V.ref c5]) h_cT
    have e_cT : (upd G11 cT (HO.tup [V.ref c1, V.ref c2, V.ref c3, V.ref c4, V.ref c5])) cT = some (.tup [V.ref c1, V.ref c2, V.ref c3, V.ref c4, V.ref c5]) := upd_same
    generalize upd G11 cT (HO.tup [V.ref c1, V.ref c2, V.ref c3, V.ref c4, V.ref c5]) = G12 at s_cT e_cT ⊢
    have sC := (((((s_c1.trans s_c2).trans s_c3).trans s_c4).trans s_c5).trans s_cT)
    have sh5 : SeqAt.shaped (.tuple [.tuple [.str "...", .int 1], .tuple [.str "a", .int y], .tuple [.str "a", .int x], .tuple [.str "b", .int x], .tuple [.str "b", .int y]]) = true := sh_pairs [(.str "...", .int 1), (.str "a", .int y), (.str "a", .int x), (.str "b", .int x), (.str "b", .int y)] (fun p hp => by
      simp only [List.mem_cons, List.not_mem_nil, or_false] at hp
      have h1 : PyData.strOk "..." = true := by decide +kernel
      have h2 : PyData.strOk "a" = true := by decide +kernel
      have h3 : PyData.strOk "b" = true := by decide +kernel
      rcases hp with rfl | rfl | rfl | rfl | rfl <;> simp [PyData.canLay0, PyData.depth, h1, h2, h3])
    have eq5 : PyData.eqv (.tuple [.tuple [.str "...", .int 1], .tuple [.str "a", .int y], .tuple [.str "a", .int x], .tuple [.str "b", .int x], .tuple [.str "b", .int y]]) (.tuple [.tuple [.str "...", .int 1], .tuple [.str "a", .int y], .tuple [.str "a", .int x], .tuple [.str "b", .int x], .tuple [.str "b", .int y]]) = true := SeqAt.eqv_refl _ (SeqAt.canLay_of_shaped sh5)
    refine ⟨.tuple [.tuple [.str "...", .int 1], .tuple [.str "a", .int y], .tuple [.str "a", .int x], .tuple [.str "b", .int x], .tuple [.str "b", .int y]], .tuple [.tuple [.str "...", .int 1], .tuple [.str "a", .int y], .tuple [.str "a", .int x], .tuple [.str "b", .int x], .tuple [.str "b", .int y]], .tup (Same.sqT sC plf.sqT) (dps_same sC dpq), .tup (SqT.of e_cT) (.cons (.tup (SqT.of (s_cT _ _ (s_c5 _ _ (s_c4 _ _ (s_c3 _ _ (s_c2 _ _ e_c1)))))) (.cons (.str _) (.cons (.int _) .nil))) (.cons (.tup (SqT.of (s_cT _ _ (s_c5 _ _ (s_c4 _ _ (s_c3 _ _ e_c2))))) (.cons (.str _) (.cons (.int _) .nil))) (.cons (.tup (SqT.of (s_cT _ _ (s_c5 _ _ (s_c4 _ _ e_c3)))) (.cons (.str _) (.cons (.int _) .nil))) (.cons (.tup (SqT.of (s_cT _ _ (s_c5 _ _ e_c4))) (.cons (.str _) (.cons (.int _) .nil))) (.cons (.tup (SqT.of (s_cT _ _ e_c5)) (.cons (.str _) (.cons (.int _) .nil))) .nil))))), sh5, sh5, _, rfl, ?_⟩
    rw [eq5]
    refine iteF ?_
    have tC : Tabs [(P0, qBy)] G12 := tf.ext sC
    have n0C : ExtN G0 G12 := n0f.trans (ExtN.same sC)
    refine ⟨_, rfl, (by show 2 ≤ sizeLine; omega), fun d1 h_d1 => ?_⟩
    have s_d1 := NG.Same.upd (o := HO.tup [V.str "b", V.int x]) h_d1
    have e_d1 : (upd G12 d1 (HO.tup [V.str "b", V.int x])) d1 = some (.tup [V.str "b", V.int x]) := upd_same
    generalize upd G12 d1 (HO.tup [V.str "b", V.int x]) = G13 at s_d1 e_d1 ⊢
    refine ⟨_, rfl, (by show 2 ≤ sizeLine; omega), fun d2 h_d2 => ?_⟩
    have s_d2 := NG.Same.upd (o := HO.tup [V.int 3, V.int y]) h_d2
    have e_d2 : (upd G13 d2 (HO.tup [V.int 3, V.int y])) d2 = some (.tup [V.int 3, V.int y]) := upd_same
    generalize upd G13 d2 (HO.tup [V.int 3, V.int y]) = G14 at s_d2 e_d2 ⊢
    refine ⟨_, rfl, (by show 2 ≤ sizeLine; omega), fun d3 h_d3 => ?_⟩
    have s_d3 := NG.Same.upd (o := HO.tup [V.str "a", V.int x]) h_d3
    have e_d3 : (upd G14 d3 (HO.tup [V.str "a", V.int x])) d3 = some (.tup [V.str "a", V.int x]) := upd_same
    generalize upd G14 d3 (HO.tup [V.str "a", V.int x]) = G15 at s_d3 e_d3 ⊢
    refine ⟨(by show 2 ≤ sizeLine; omega), fun d4 h_d4 => ?_⟩
    have s_d4 := NG.Same.upd (o := HO.tup [V.non, V.int 1]) h_d4
    have e_d4 : (upd G15 d4 (HO.tup [V.non, V.int 1])) d4 = some (.tup [V.non, V.int 1]) := upd_same
    generalize upd G15 d4 (HO.tup [V.non, V.int 1]) = G16 at s_d4 e_d4 ⊢
    refine ⟨(by show 4 ≤ sizeLine; omega), fun dL h_dL => ?_⟩
    have s_dL := NG.Same.upd (o := HO.lst [V.ref d1, V.ref d2, V.ref d3, V.ref d4]) h_dL
    have e_dL : (upd G16 dL (HO.lst [V.ref d1, V.ref d2, V.ref d3, V.ref d4])) dL = some (.lst [V.ref d1, V.ref d2, V.ref d3, V.ref d4]) := upd_same
    generalize upd G16 dL (HO.lst [V.ref d1, V.ref d2, V.ref d3, V.ref d4]) = G17 at s_dL e_dL ⊢
    have sD := ((((s_d1.trans s_d2).trans s_d3).trans s_d4).trans s_dL)
    refine ⟨_, rfl, fun q2 dq2 nq2 ndq2 neq2 => ?_⟩
    have sq2 := new_ext (C := cs 0) nq2 ndq2
    have eq2 : (upd (upd G17 dq2 (.own q2)) q2 (.ins (cs 0) dq2 [])) q2 = some (.ins (cs 0) dq2 []) := upd_same
    have nq2' : G17 q2 = none := nq2
    generalize upd (upd G17 dq2 (.own q2)) q2 (.ins (cs 0) dq2 []) = Gr at sq2 eq2 ⊢
    refine ⟨q2, dq2, _, dL, _, [(V.str "b", V.int x), (V.int 3, V.int y), (V.str "a", V.int x), (V.non, V.int 1)], rfl, eq2, SqL.of (sq2 _ _ e_dL), ⟨rfl, fun i z e a b => ?_⟩, by show 4 < sizeLine; omega, fun e he => ?_, ⟨(V.non, V.int 1), by simp, rfl⟩, fun Hg Eg bg xg eg => ⟨rfl, ?_⟩⟩
    · match i, a, b with
      | 0, a, b => cases a; cases b; exact ⟨d1, rfl, SqT.of (sq2 _ _ (s_dL _ _ (s_d4 _ _ (s_d3 _ _ (s_d2 _ _ e_d1)))))⟩
      | 1, a, b => cases a; cases b; exact ⟨d2, rfl, SqT.of (sq2 _ _ (s_dL _ _ (s_d4 _ _ (s_d3 _ _ e_d2))))⟩
      | 2, a, b => cases a; cases b; exact ⟨d3, rfl, SqT.of (sq2 _ _ (s_dL _ _ (s_d4 _ _ e_d3)))⟩
      | 3, a, b => cases a; cases b; exact ⟨d4, rfl, SqT.of (sq2 _ _ (s_dL _ _ e_d4))⟩
      | n + 4, a, b => cases a
    · simp only [List.mem_cons, List.not_mem_nil, or_false] at he
      rcases he with rfl | rfl | rfl | rfl
      · exact .inl ⟨_, rfl⟩
      · exact .inr (.inl ⟨_, rfl⟩)
      · exact .inl ⟨_, rfl⟩
      · exact .inr (.inr rfl)
    have sG : Same G17 Hg := but_ext nq2' sq2 bg
    refine ⟨q2, cs 0, dq2, _, _, rfl, xg, TG.cl 0 (by decide), TG.nE, (by unfold ffV; rw [lookup_putF, if_pos rfl]), ?_⟩
    refine ⟨_, rfl, dL, _, rfl, .inl ⟨SqL.of (sG _ _ e_dL), fun Tg hTg => ?_⟩⟩
    have sT := NG.Same.upd (o := HO.tup [V.ref d1, V.ref d2, V.ref d3, V.ref d4]) hTg
    have eTg : (upd Hg Tg (HO.tup [V.ref d1, V.ref d2, V.ref d3, V.ref d4])) Tg = some (.tup [V.ref d1, V.ref d2, V.ref d3, V.ref d4]) := upd_same
    have eg2 := sT _ _ eg
    generalize upd Hg Tg (HO.tup [V.ref d1, V.ref d2, V.ref d3, V.ref d4]) = Hh at sT eTg eg2 ⊢
    have dp4 : DpAll K Hh [V.ref d1, V.ref d2, V.ref d3, V.ref d4] [.tuple [.str "b", .int x], .tuple [.int 3, .int y], .tuple [.str "a", .int x], .tuple [.none, .int 1]] := .cons (.tup (SqT.of (sT _ _ (sG _ _ (s_dL _ _ (s_d4 _ _ (s_d3 _ _ (s_d2 _ _ e_d1))))))) (.cons (.str _) (.cons (.int _) .nil))) (.cons (.tup (SqT.of (sT _ _ (sG _ _ (s_dL _ _ (s_d4 _ _ (s_d3 _ _ e_d2)))))) (.cons (.int _) (.cons (.int _) .nil))) (.cons (.tup (SqT.of (sT _ _ (sG _ _ (s_dL _ _ (s_d4 _ _ e_d3))))) (.cons (.str _) (.cons (.int _) .nil))) (.cons (.tup (SqT.of (sT _ _ (sG _ _ (s_dL _ _ e_d4)))) (.cons .non (.cons (.int _) .nil))) .nil)))
    have sh4 : SeqAt.shaped (.tuple [.tuple [.str "b", .int x], .tuple [.int 3, .int y], .tuple [.str "a", .int x], .tuple [.none, .int 1]]) = true := sh_pairs [(.str "b", .int x), (.int 3, .int y), (.str "a", .int x), (.none, .int 1)] (fun p hp => by
      simp only [List.mem_cons, List.not_mem_nil, or_false] at hp
      have h2 : PyData.strOk "a" = true := by decide +kernel
      have h3 : PyData.strOk "b" = true := by decide +kernel
      rcases hp with rfl | rfl | rfl | rfl <;> simp [PyData.canLay0, PyData.depth, h2, h3])
    refine ⟨.tuple [.tuple [.str "b", .int x], .tuple [.int 3, .int y], .tuple [.str "a", .int x], .tuple [.none, .int 1]], .tuple [.tuple [.str "b", .int x], .tuple [.int 3, .int y], .tuple [.str "a", .int x], .tuple [.none, .int 1]], .tup (SqT.of eg2) dp4, .tup (SqT.of eTg) dp4, sh4, sh4, ?_⟩
    rw [SeqAt.eqv_refl _ (SeqAt.canLay_of_shaped sh4)]
    have n0h : ExtN G0 Hh := n0C.trans (ExtN.same (sD.trans (sG.trans sT)))
    refine k Hh (fun b u e n m => n0h b u (bp b u e n) m) (tC.ext (sD.trans (sG.trans sT))) ⟨o2, n0h _ _ ep (fun ps z => by obtain ⟨l, e⟩ := lstO hd2; rw [e] at z; cases z), hd2⟩
end
end NW

set_option maxRecDepth 100000
set_option maxHeartbeats 1000000
/-! what the law needs: sorted entries, a node with another owner, slices, comparisons of nodes -/
namespace NW
open PySem L2 NG TR LamX
def tCutT (t : TT) : TT := fun σ H Q => ∃ R : Bool → Hp → Prop, t σ H R ∧ ∀ b H1, R b H1 → Q b H1
theorem pt_cut {X : Cx} {e : Expr} {t : TT} (h : PT X e t) : PT X e (tCutT t) :=
  ⟨fun pins s σ H Q I ⟨R, h1, h2⟩ => thn (h.run pins s σ H R I h1) fun b s1 ⟨H', I', q⟩ => ⟨H', I', h2 b H' q⟩⟩
/-! ### entries in another order -/
theorem srtE_pwB {α : Type} (es : List (Str × α)) : (srtE es).Pairwise fun a b => leE a b = true :=
  List.pairwise_mergeSort (le := leE) (fun a b c h k => by
    have h := of_decide_eq_true h
    have k := of_decide_eq_true k
    exact decide_eq_true (List.le_trans h k)) (fun a b => by
      rw [Bool.or_eq_true]
      rcases List.le_total a.1.cps.toList b.1.cps.toList with h | h
      · exact .inl (decide_eq_true h)
      · exact .inr (decide_eq_true h)) es
theorem name_inj : ∀ {es : List (Str × Nat)} {a b : Str × Nat}, (es.map (·.1)).Nodup → a ∈ es → b ∈ es → a.1 = b.1 → a = b
  | [], _, _, _, h, _, _ => by cases h
  | x :: r, a, b, hn, ha, hb, e => by
    rw [List.map_cons, List.nodup_cons] at hn
    rcases List.mem_cons.mp ha with ea | ha2
    · rcases List.mem_cons.mp hb with eb | hb2
      · rw [ea, eb]
      · exact absurd (List.mem_map.mpr ⟨b, hb2, by rw [← e, ea]⟩) hn.1
    · rcases List.mem_cons.mp hb with eb | hb2
      · exact absurd (List.mem_map.mpr ⟨a, ha2, by rw [e, eb]⟩) hn.1
      · exact name_inj hn.2 ha2 hb2 e
theorem str_ext {a b : Str} (h : a.cps.toList = b.cps.toList) : a = b := by
  cases a; cases b
  congr 1
  exact Array.toList_inj.mp h
theorem srtE_eq {es fs : List (Str × Nat)} (p : fs.Perm es) (hn : (es.map (·.1)).Nodup) : srtE fs = srtE es := by
  refine List.Perm.eq_of_pairwise (le := fun a b => leE a b = true) (fun a b ha hb h k => ?_) (srtE_pwB fs) (srtE_pwB es) (((srt_perm fs).trans p).trans (srt_perm es).symm)
  have ha : a ∈ es := p.mem_iff.mp ((srt_perm fs).mem_iff.mp ha)
  have hb : b ∈ es := (srt_perm es).mem_iff.mp hb
  exact name_inj hn ha hb (str_ext (List.le_antisymm (of_decide_eq_true h) (of_decide_eq_true k)))
/-! ### a node whose owner is one more -/
def upO : Nd → Nd
  | .fol o es => .fol (o + 1) es
  | .fil o => .fil (o + 1)
  | .lnk o t => .lnk (o + 1) t
  | .gon o ab => .gon (o + 1) ab
theorem upO_ents (x : Nd) : (upO x).ents = x.ents := by cases x <;> rfl
theorem upO_fol (x : Nd) : (upO x).isFol = x.isFol := by cases x <;> rfl
theorem upO_gone (x : Nd) : (upO x).isGone = x.isGone := by cases x <;> rfl
theorem upO_own (x : Nd) : (upO x).owner = x.owner + 1 := by cases x <;> rfl
theorem upO_srt_ne (x : Nd) : srtN (upO x) ≠ srtN x := fun h => by
  have := congrArg Nd.owner h
  rw [srtN_owner, srtN_owner, upO_own] at this
  omega
theorem cnt_up {nds : List Nd} {i : Nat} {x : Nd} (h : nds[i]? = some x) (k : Nat) : cnt (nds.set i (upO x)) k = cnt nds k := by
  induction nds generalizing i with
  | nil => cases h
  | cons y r ih =>
    cases i with
    | zero =>
      cases Option.some.inj h
      rw [List.set_cons_zero, cnt_cons, cnt_cons, upO_ents]
    | succ i =>
      rw [List.set_cons_succ, cnt_cons, cnt_cons, ih (i := i) h]
theorem get_up {nds : List Nd} {i j : Nat} {x y : Nd} (h : nds[i]? = some x) (e : (nds.set i (upO x))[j]? = some y) : ∃ z, nds[j]? = some z ∧ (y = z ∨ y = upO z) := by
  rw [List.getElem?_set] at e
  by_cases hij : i = j
  · subst hij
    rw [if_pos rfl, if_pos (List.getElem?_eq_some_iff.mp h).1] at e
    exact ⟨x, h, .inr (Option.some.inj e).symm⟩
  · rw [if_neg hij] at e
    exact ⟨y, e, .inl rfl⟩
theorem up_get {nds : List Nd} {i j : Nat} {x z : Nd} (h : nds[i]? = some x) (e : nds[j]? = some z) : ∃ y, (nds.set i (upO x))[j]? = some y ∧ (y = z ∨ y = upO z) := by
  rw [List.getElem?_set]
  by_cases hij : i = j
  · subst hij
    rw [if_pos rfl, if_pos (List.getElem?_eq_some_iff.mp h).1]
    rw [h] at e
    cases Option.some.inj e
    exact ⟨_, rfl, .inr rfl⟩
  · rw [if_neg hij]
    exact ⟨z, e, .inl rfl⟩
theorem wf_up {LT PL : Str → Prop} {nds : List Nd} {i : Nat} {x : Nd} (b : WF LT PL nds) (h : nds[i]? = some x) : WF LT PL (nds.set i (upO x)) := by
  have en : ∀ {y z : Nd}, (y = z ∨ y = upO z) → y.ents = z.ents := fun h => by rcases h with rfl | rfl; rfl; exact upO_ents _
  refine ⟨⟨?_, fun j y hj => ?_, fun j y hj e he => ?_, fun j y hj => ?_, fun j o t hj => ?_, fun j o ab hj => ?_⟩, fun k y hk hj f => ?_⟩
  · obtain ⟨o, es, hr⟩ := b.base.root
    obtain ⟨y, hy, e⟩ := up_get h hr
    rcases e with rfl | rfl
    · exact ⟨o, es, hy⟩
    · exact ⟨o + 1, es, hy⟩
  · obtain ⟨z, hz, e⟩ := get_up h hj
    have := b.base.own j z hz
    rcases e with rfl | rfl
    · exact this
    · rw [upO_own]; omega
  · obtain ⟨z, hz, q⟩ := get_up h hj
    rw [en q] at he
    obtain ⟨h1, h2, nd', h3, h4⟩ := b.base.ent j z hz e he
    obtain ⟨y', hy', q'⟩ := up_get h h3
    refine ⟨h1, h2, y', hy', ?_⟩
    rcases q' with rfl | rfl
    · exact h4
    · rw [upO_gone]; exact h4
  · obtain ⟨z, hz, q⟩ := get_up h hj
    rw [en q]
    exact b.base.uniq j z hz
  · obtain ⟨z, hz, q⟩ := get_up h hj
    rcases q with rfl | q
    · exact b.base.lnk j o t hz
    · cases z with
      | lnk o2 t2 => cases q; exact b.base.lnk j _ _ hz
      | _ => cases q
  · obtain ⟨z, hz, q⟩ := get_up h hj
    have : ∃ o2, nds[j]? = some (.gon o2 ab) := by
      rcases q with rfl | q
      · exact ⟨o, hz⟩
      · cases z with
        | gon o2 a2 => cases q; exact ⟨_, hz⟩
        | _ => cases q
    obtain ⟨o2, hz⟩ := this
    obtain ⟨h1, o3, es, h2⟩ := b.base.gon j o2 ab hz
    obtain ⟨y, hy, e⟩ := up_get h h2
    rcases e with rfl | rfl
    · exact ⟨h1, o3, es, hy⟩
    · exact ⟨h1, o3 + 1, es, hy⟩
  · obtain ⟨z, hz, q⟩ := get_up h hj
    rw [cnt_up h]
    refine b.once k z hk hz ?_
    rcases q with rfl | rfl
    · exact f
    · rw [upO_fol] at f; exact f
theorem srt_up_ne {nds : List Nd} {i : Nat} {x : Nd} (h : nds[i]? = some x) : (nds.set i (upO x)).map srtN ≠ nds.map srtN := fun e => by
  have e := congrArg (fun l : List Nd => l[i]?) e
  simp only [List.getElem?_map, List.getElem?_set, if_pos (List.getElem?_eq_some_iff.mp h).1, if_true, h, Option.map_some] at e
  exact upO_srt_ne x (Option.some.inj e)
/-! ### slices -/
theorem cut_to (xs : List V) {i : Nat} (h : i ≤ xs.length) : cutV xs none (some (i : Int)) = xs.take i := by
  unfold cutV
  rw [HT.sIx_none, HT.sIx_nat, List.drop_zero]
  congr 1
  omega
theorem cut_from (xs : List V) {i : Nat} (h : i ≤ xs.length) : cutV xs (some (i : Int)) none = xs.drop i := by
  unfold cutV
  rw [HT.sIx_none, HT.sIx_nat, Nat.min_eq_left h]
  exact List.take_of_length_le (by rw [List.length_drop]; omega)
theorem cut_set (xs : List V) {i : Nat} (v : V) (h : i < xs.length) : xs.take i ++ [v] ++ xs.drop (i + 1) = xs.set i v := by
  rw [List.set_eq_take_append_cons_drop, if_pos h, List.append_assoc]
  rfl
/-! ### what the fields are compared with -/
theorem sh_flds (nds : List Nd) (h : ∀ x ∈ nds, NdOk x) : SeqAt.shaped (.list (nds.map fldD)) = true := by
  have k1 : ∀ z ∈ ["folder", "file", "link", "gone"], PyData.strOk z = true := by decide +kernel
  have one : ∀ x, NdOk x → (fldD x).canLay0 = true ∧ (fldD x).depth ≤ 5 := by
    intro x hx
    cases x with
    | fol o es =>
      obtain ⟨h1, h2⟩ := canAll es hx
      refine ⟨?_, ?_⟩
      · have := k1 "folder" (by simp)
        simp [fldD, kindS, ndDs, PyData.canLay0, PyData.canLayAll0, this, h1]
      · simp only [fldD, kindS, ndDs, PyData.depth, PyData.depthAll]
        omega
    | fil o =>
      have := k1 "file" (by simp)
      refine ⟨by simp [fldD, kindS, ndDs, PyData.canLay0, PyData.canLayAll0, this], ?_⟩
      simp [fldD, kindS, ndDs, PyData.depth, PyData.depthAll]
    | lnk o t =>
      have := k1 "link" (by simp)
      have hx : PyData.strOk t = true := hx
      refine ⟨by simp [fldD, kindS, ndDs, PyData.canLay0, PyData.canLayAll0, this, hx], ?_⟩
      simp [fldD, kindS, ndDs, PyData.depth, PyData.depthAll]
    | gon o ab =>
      have := k1 "gone" (by simp)
      refine ⟨by simp [fldD, kindS, ndDs, PyData.canLay0, PyData.canLayAll0, this], ?_⟩
      simp [fldD, kindS, ndDs, PyData.depth, PyData.depthAll]
  have all : PyData.canLayAll0 (nds.map fldD) = true ∧ PyData.depthAll (nds.map fldD) ≤ 5 := by
    induction nds with
    | nil => exact ⟨rfl, by simp [PyData.depthAll]⟩
    | cons x r ih =>
      obtain ⟨h1, h2⟩ := ih fun y hy => h y (List.mem_cons_of_mem _ hy)
      obtain ⟨g1, g2⟩ := one x (h x List.mem_cons_self)
      refine ⟨?_, ?_⟩
      · rw [List.map_cons]
        simp [PyData.canLayAll0, g1, h1]
      · rw [List.map_cons]
        simp only [PyData.depthAll]
        omega
  unfold SeqAt.shaped
  rw [Bool.and_eq_true]
  refine ⟨by simpa [PyData.canLay0] using all.1, decide_eq_true ?_⟩
  simp only [PyData.depth]
  omega
/-! ### nodes compared -/
def rNd (K : PySem.W.Frag) (cs : Nat → Addr) (g : Bool → Bool) : R2 := fun x y H Q => ∃ i, i < 4 ∧ rOwn K (cs i) (spEqD K (cs i) (nns i)) E0 g x y H Q
theorem op_eqNd {X : Cx} {cs fe : Nat → Addr} (TE : TxtE4 X.K cs fe) (hE : EqF4 X.prog X.w X.K X.mg X.base cs fe) (hr : Room 1 X.A) : OpR X (compareOp .Eq) (rNd X.K cs fun k => k) := by
  intro pins s σ H x y v u Q I rx ry ⟨i, hi, q⟩
  obtain ⟨fd, F, b⟩ := hE i hi
  exact op_eqOwn F hr (TE.eq i hi).e1 (TE.eq i hi).e2 b pass0 pins s σ H x y v u Q I rx ry q
theorem nd_nd {K : PySem.W.Frag} {mg : Str → Option Value} {cs fe : Nat → Addr} {H : Hp} {p q : Addr} {a b : Nd} {Q : VK} (TG : TxtG K mg cs) (TE : TxtE4 K cs fe) (ha : ObjAt K cs H p a) (hb : ObjAt K cs H q b) (oa : NdOk a) (ob : NdOk b) (k : Q (.bl (decide (a = b))) H) :
    rNd K cs (fun k => k) (.ref p) (.ref q) H Q := by
  obtain ⟨dx, fs, e1, _⟩ := obj_ins ha
  obtain ⟨dy, gs, e2, _⟩ := obj_ins hb
  have ty := TG.ty _ (clsI_lt b)
  exact ⟨clsI a, clsI_lt a, p, dx, fs, .ref (cs (clsI b)), rfl, e1, .base (.ins e2 (TG.cl _ (clsI_lt b)) ty.c1 ty.c2 ty.c3 ty.c4), TE.nf _ _ (clsI_lt a) (clsI_lt b), nd_says TG ha hb oa ob ⟨_, rfl, k⟩⟩
theorem nd_int {K : PySem.W.Frag} {cs : Nat → Addr} {H : Hp} {p : Addr} {a : Nd} {n : Int} {Q : VK} (ha : ObjAt K cs H p a) (oa : NdOk a) (h1 : PySem.W.notFirst K (cs (clsI a)) (.type "int") = true) (h2 : PySem.W.kitOne K (.type "int") (.ref (cs (clsI a))) = some false) (k : Q (.bl false) H) :
    rNd K cs (fun k => k) (.ref p) (.int n) H Q := by
  obtain ⟨dx, fs, e1, _⟩ := obj_ins ha
  obtain ⟨xs, g1, g2⟩ := obj_has ha
  exact ⟨clsI a, clsI_lt a, p, dx, fs, _, rfl, e1, .base (.int n), h1, p, .int n, xs, ndDs a, rfl, g1, g2, sh_nd oa, .inl ⟨_, .base (.int n), h2, _, rfl, k⟩⟩
theorem srt_ok {x : Nd} (h : NdOk x) : NdOk (srtN x) := by
  cases x with
  | fol o es => exact fun e he => h e ((srt_perm es).mem_iff.mp he)
  | _ => exact h
theorem upO_ok {x : Nd} (h : NdOk x) : NdOk (upO x) := by
  cases x <;> exact h
/-! ### a tree of a tuple -/
def spTreeT (K : PySem.W.Frag) (cs : Nat → Addr) (CT : Addr) : Sp := fun vs H Q _ => ∃ (p dx L : Addr) (qs : List Addr) (nds : List Nd), vs = [.ref p, .ref L] ∧ H p = some (.ins CT dx []) ∧ SqT K H L (qs.map V.ref) ∧ qs.length = nds.length ∧ (∀ (i : Nat) (q : Addr) (nd : Nd), qs[i]? = some q → nds[i]? = some nd → ObjAt K cs H q nd ∧ q ≠ p) ∧ WF LinkText PL nds ∧ nds.length ≤ 1000 ∧
  ∀ H', But p H H' → TreeAt K cs CT H' p qs nds → Q .non H'
section
variable {P : Program} {w : World} {K : PySem.W.Frag} {mg : Str → Option Value} {base : Heap} {fBy fET fFF fCN fCF f CT : Addr} {cs : Nat → Addr}
theorem ok_treeT {fd fdC fdF : FuncData} (F : Fun K "__init__" "Tree.__init__" sTreeI f fd) (TS : TxtS K mg fBy) (T2 : TxtT K mg fET fFF fCN fCF) (cl : Cls K CT) (h1 : NoAttr K CT "nodes") (GC : FnOk P w K mg base CX0 6 fCN fdC ["nodes"] (spChk K cs)) (bC : Binds K fdC ["nodes"] [])
    (GF : FnOk P w K mg base CX0 2 fCF fdF ["nodes"] (spChk K cs)) (bF : Binds K fdF ["nodes"] []) : FnOk P w K mg base CX0 7 f fd ["self", "nodes"] (spTreeT K cs CT) := by
  have nd := scTreeI.nd
  refine F.ok scTreeI (fun vs H Q E h => ?_) (fun cdv A outer s H vs Q E hr h => ?_)
  · obtain ⟨p, dx, L, qs, nds, rfl, _⟩ := h
    rfl
  · obtain ⟨p, dx, T, qs, nds, rfl, hp, hL, ql, hO, W, hl, k⟩ := h
    have hrC : Room 6 _ := hr
    have hrF : Room 2 _ := hr.mono (by decide)
    refine ⟨_, (pss_cons (ps_fld (pv 0) (pe_callTy call_tuple_of (by rfl) TS.m_tuple (by decide +kernel) (pa_cons (pv 1) pa_nil)) rfl)
  (pss_cons (ps_expr (pe_call GC hrC (by rfl) T2.g_cn T2.kp_cn bC .nil pass0 (pa_cons (pe_fld (pv 0) rfl) pa_nil)))
  (pss_one (ps_expr (pe_call GF hrF (by rfl) T2.g_cf T2.kp_cf bF .nil pass0 (pa_cons (pe_fld (pv 0) rfl) pa_nil)))))), ?_⟩
    refine ⟨_, rfl, T, _, rfl, .inr ⟨hL, ?_⟩⟩
    refine ⟨_, rfl, p, CT, dx, _, rfl, hp, cl, h1, (by show 0 < 1000; decide), ?_⟩
    have b2 : But p H (upd H p (.ins CT dx (fl1 "nodes" (.ref T)))) := (But.refl p H).upd
    have ep : (upd H p (.ins CT dx (fl1 "nodes" (.ref T)))) p = some (.ins CT dx (fl1 "nodes" (.ref T))) := upd_same
    have bs : ∀ {a xs}, SqT K H a xs → SqT K (upd H p (.ins CT dx (fl1 "nodes" (.ref T)))) a xs := fun h => But.sqT hp b2 h
    have TR : Trees K cs (upd H p (.ins CT dx (fl1 "nodes" (.ref T)))) T qs nds := by
      refine ⟨⟨bs hL, ql, fun i q x a b => ?_⟩, W⟩
      obtain ⟨h2, h3⟩ := hO i q x a b
      cases x with
      | fol o es =>
        obtain ⟨dx', E, ps, h4, h5, h6, h7⟩ := h2
        exact ⟨dx', E, ps, b2 _ _ h4 h3, h5.keep (fun o e => b2 _ _ e (ne_of e hp (fun z => by cases z))), h6, fun k p en a b => let ⟨x, y, z⟩ := h7 k p en a b; ⟨x, y, bs z⟩⟩
      | fil o => exact let ⟨dx', h4⟩ := h2; ⟨dx', b2 _ _ h4 h3⟩
      | lnk o t => exact let ⟨dx', h4⟩ := h2; ⟨dx', b2 _ _ h4 h3⟩
      | gon o ab => exact let ⟨dx', h4⟩ := h2; ⟨dx', b2 _ _ h4 h3⟩
    show tSeq _ _ _ _ (upd H p (.ins CT dx (fl1 "nodes" (.ref T))))
    generalize upd H p (.ins CT dx (fl1 "nodes" (.ref T))) = H2 at b2 ep TR ⊢
    refine ⟨_, rfl, p, CT, dx, _, _, rfl, ep, cl, h1, (by unfold fl1; rw [lookup_putF, if_pos rfl]), T, qs, nds, rfl, TR, hl, fun H3 s3 => ?_⟩
    refine ⟨_, rfl, p, CT, dx, _, _, rfl, s3 _ _ ep, cl, h1, (by unfold fl1; rw [lookup_putF, if_pos rfl]), T, qs, nds, rfl, TR.same s3, hl, fun H4 s4 => ?_⟩
    exact k H4 (b2.same (s3.trans s4)) ⟨dx, T, s4 _ _ (s3 _ _ ep), TR.same (s3.trans s4)⟩
end
end NW

set_option maxRecDepth 100000
set_option maxHeartbeats 1000000
/-! the law -/
namespace NW
open PySem L2 NG TR LamX
abbrev sLaw : Stmt := top 43
def lawN : List Str := ["_law_script", "_law_cell", "_law_s", "_law_nodes_here", "_law_made_here", "_law_tree_here", "_law_other", "_law_node", "_law_handed", "_law_entry", "_law_at", "_law_spoilt", "_law_changed"]
def spLaw (K : PySem.W.Frag) (P0 : Addr) : Sp := fun vs H Q _ => ∃ (a : Addr) (ns : List Int), vs = [.ref a] ∧ SqL K H a (ns.map V.int) ∧ ns.length ≤ 63 ∧ Tabs [(P0, qBy)] H ∧ ∀ H', Q (.bl true) H'
/-- what list(..) asks -/
def rLstOf (K : PySem.W.Frag) : List V → Hp → VK → Prop := fun vs H Q => ∃ (p : Addr) (ys : List V), vs = [.ref p] ∧ (SqL K H p ys ∨ SqT K H p ys) ∧ ∀ l, H l = none → Q (.ref l) (upd H l (.lst ys))
structure TxtL (K : PySem.W.Frag) (mg : Str → Option Value) (fState fNodes fTree fFl fDu fTu fOd : Addr) : Prop where
  m_list : mg "list" = none
  g_state : mg "_law_state" = some (.ref fState)
  kp_state : PySem.W.keepIn K (.ref fState) = true
  g_nodes : mg "_law_nodes" = some (.ref fNodes)
  kp_nodes : PySem.W.keepIn K (.ref fNodes) = true
  g_tree : mg "_law_tree" = some (.ref fTree)
  kp_tree : PySem.W.keepIn K (.ref fTree) = true
  g_fields : mg "_law_fields" = some (.ref fFl)
  kp_fields : PySem.W.keepIn K (.ref fFl) = true
  g_due : mg "_law_due" = some (.ref fDu)
  kp_due : PySem.W.keepIn K (.ref fDu) = true
  g_turned : mg "_law_turned" = some (.ref fTu)
  kp_turned : PySem.W.keepIn K (.ref fTu) = true
  g_odd : mg "_law_odd_right" = some (.ref fOd)
  kp_odd : PySem.W.keepIn K (.ref fOd) = true
theorem ExtX.same {H H' : Hp} (s : Same H H') : ExtX H H' := fun b o e _ _ => s b o e
theorem ExtX.trans {H H1 H2 : Hp} (a : ExtX H H1) (b : ExtX H1 H2) : ExtX H H2 := fun c o h n m => b c o (a c o h n m) n m
theorem TreeAt.extX {K : PySem.W.Frag} {cs : Nat → Addr} {CT : Addr} {H H' : Hp} {t : Addr} {qs : List Addr} {nds : List Nd} (h : TreeAt K cs CT H t qs nds) (e : ExtX H H') : TreeAt K cs CT H' t qs nds := by
  obtain ⟨dx, T, h1, ⟨⟨h2, h3, h4⟩, W⟩⟩ := h
  exact ⟨dx, T, e _ _ h1 (fun _ z => by cases z) (fun _ z => by cases z), ⟨⟨e.sqT h2, h3, fun i q nd a b => (h4 i q nd a b).ext e⟩, W⟩⟩
theorem tabs_nl {T : List (Addr × Str)} {H H' : Hp} (t : Tabs T H) (h : ∀ b o, H b = some o → (∀ xs, o ≠ .lst xs) → H' b = some o) : Tabs T H' := fun p hp => by
  obtain ⟨ps, a1, a2, a3⟩ := t p hp
  refine ⟨ps, h _ _ a1 (fun _ z => by cases z), a2, fun pos cv hc => ?_⟩
  obtain ⟨c, e1, e2⟩ := a3 pos cv hc
  exact ⟨c, e1, h _ _ e2 (fun _ z => by unfold CodeO at z; cases z)⟩
theorem dso_tbl {o : HO} (h : DSo o) : ∀ ps, o ≠ .tbl ps := fun _ z => by obtain ⟨_, _, _, q, _⟩ := h; rw [q] at z; cases z
theorem dso_lst {o : HO} (h : DSo o) : ∃ xs, o = .lst xs := let ⟨_, _, _, e, _⟩ := h; ⟨_, e⟩
theorem dps_ent_x {K : PySem.W.Frag} {H H' : Hp} (e : ExtX H H') : ∀ {ps : List V} {es : List (Str × Nat)}, DpAll K H ps (es.map entD) → DpAll K H' ps (es.map entD)
  | [], [], _ => .nil
  | _ :: _, [], h => by cases h
  | [], _ :: _, h => by cases h
  | p :: ps, x :: es, h => by
    cases h with
    | cons h1 h2 =>
      refine .cons ?_ (dps_ent_x e h2)
      cases h1 with
      | tup a b =>
        refine .tup (e.sqT a) ?_
        cases b with
        | cons b1 b2 =>
          cases b2 with
          | cons b2 b3 =>
            cases b1; cases b2; cases b3
            exact .cons (.str _) (.cons (.int _) .nil)
theorem dp_fld_x {K : PySem.W.Frag} {H H' : Hp} (e : ExtX H H') {v : V} {x : Nd} (h : Dp K H v (fldD x)) : Dp K H' v (fldD x) := by
  cases x with
  | fol o es =>
    cases h with
    | tup a b =>
      refine .tup (e.sqT a) ?_
      cases b with
      | cons b1 b2 => cases b2 with
        | cons b2 b3 => cases b3 with
          | cons b3 b4 =>
            cases b1; cases b2; cases b4
            refine .cons (.str _) (.cons (.int _) (.cons ?_ .nil))
            cases b3 with
            | tup c1 c2 => exact .tup (e.sqT c1) (dps_ent_x e c2)
  | fil o =>
    cases h with
    | tup a b =>
      refine .tup (e.sqT a) ?_
      cases b with
      | cons b1 b2 => cases b2 with
        | cons b2 b3 =>
          cases b1; cases b2; cases b3
          exact .cons (.str _) (.cons (.int _) .nil)
  | lnk o z =>
    cases h with
    | tup a b =>
      refine .tup (e.sqT a) ?_
      cases b with
      | cons b1 b2 => cases b2 with
        | cons b2 b3 => cases b3 with
          | cons b3 b4 =>
            cases b1; cases b2; cases b3; cases b4
            exact .cons (.str _) (.cons (.int _) (.cons (.str _) .nil))
  | gon o ab =>
    cases h with
    | tup a b =>
      refine .tup (e.sqT a) ?_
      cases b with
      | cons b1 b2 => cases b2 with
        | cons b2 b3 => cases b3 with
          | cons b3 b4 =>
            cases b1; cases b2; cases b3; cases b4
            exact .cons (.str _) (.cons (.int _) (.cons (.int _) .nil))
theorem dps_get {K : PySem.W.Frag} {H : Hp} : ∀ {ys : List V} {ds : List PyData}, ys.length = ds.length → (∀ (k : Nat) (y : V) (d : PyData), ys[k]? = some y → ds[k]? = some d → Dp K H y d) → DpAll K H ys ds
  | [], [], _, _ => .nil
  | [], _ :: _, h, _ => absurd h (by simp)
  | _ :: _, [], h, _ => absurd h (by simp)
  | y :: ys, d :: ds, h, k => .cons (k 0 y d rfl rfl) (dps_get (by simpa using h) fun j a b x z => k (j + 1) a b x z)
theorem sqT_ty {K : PySem.W.Frag} {H : Hp} {a : Addr} {xs : List V} (h : SqT K H a xs) : TyX K H (.ref a) (.type "tuple") := by
  rcases h with (h | ⟨o, h⟩) | ⟨o, its, n, h1, h2, _⟩
  · exact .base (.tup h)
  · exact .fTuple h
  · exact .kTuple h1 h2
/-- two lists of nodes that are the same -/
theorem same_d {K : PySem.W.Frag} {cs : Nat → Addr} {H : Hp} {qs rs : List Addr} {ms : List Nd} (h1 : qs.length = ms.length) (h2 : rs.length = ms.length) (a : ∀ (i : Nat) (q : Addr) (x : Nd), qs[i]? = some q → ms[i]? = some x → ObjAt K cs H q x) (b : ∀ (i : Nat) (q : Addr) (x : Nd), rs[i]? = some q → ms[i]? = some x → ObjAt K cs H q x) (ok : ∀ x ∈ ms, NdOk x) :
    ∀ (i : Nat) (x y : V), (qs.map V.ref)[i]? = some x → (rs.map V.ref)[i]? = some y → DNd K cs x y true H := by
  intro i x y hx hy
  rw [List.getElem?_map] at hx hy
  cases e1 : qs[i]? with
  | none => rw [e1] at hx; cases hx
  | some p =>
    cases e2 : rs[i]? with
    | none => rw [e2] at hy; cases hy
    | some q =>
      rw [e1] at hx
      rw [e2] at hy
      cases Option.some.inj hx
      cases Option.some.inj hy
      have l1 : i < ms.length := by rw [← h1]; exact (List.getElem?_eq_some_iff.mp e1).1
      have n1 := List.getElem?_eq_getElem l1
      refine ⟨p, q, rfl, rfl, ?_⟩
      by_cases e : p = q
      · exact .inl ⟨e, rfl⟩
      · exact .inr ⟨e, _, _, a i p _ e1 n1, b i q _ e2 n1, ok _ (List.mem_of_getElem? n1), ok _ (List.mem_of_getElem? n1), (decide_eq_true rfl).symm⟩
theorem catA_join {K : PySem.W.Frag} {H : Hp} {q z : Addr} {xs ys : List V} {Q : VK} (ha : H q = some (.tup xs)) (hb : SqT K H z ys) (hz : xs.length + ys.length ≤ sizeLine) (hne : xs ≠ []) (k : ∀ sp H', Same H H' → H' sp = some (.tup (xs ++ ys)) → Q (.ref sp) H') : rCatA K (.ref q) (.ref z) H Q :=
  ⟨q, z, xs, ys, rfl, rfl, SqT.of ha, hb, hz, fun h => absurd h hne, fun _ hy => k q H (Same.refl H) (by rw [hy, List.append_nil]; exact ha), fun _ _ p hp => k p _ (NG.Same.upd hp) upd_same⟩
/-- what a drawn node's tuple holds behind its owner -/
def restV (L : Addr) : Nd → List V
  | .fol _ _ => [.ref L]
  | .fil _ => []
  | .lnk _ t => [.str t]
  | .gon _ ab => [.int (ab : Nat)]
theorem nd_tup {H : Hp} {ad : Addr × Addr} {x : Nd} (h : NdAt H ad x) : H ad.1 = some (.tup (.str (kindS x) :: .int x.owner :: restV ad.2 x)) := by
  cases x with
  | fol o es => exact h.1
  | _ => exact h
theorem nd_upO {H : Hp} {a b L : Addr} {x : Nd} (h : NdAt H (b, L) x) (e : H a = some (.tup (.str (kindS x) :: .int (x.owner + 1) :: restV L x))) : NdAt H (a, L) (upO x) := by
  cases x with
  | fol o es => exact ⟨e, h.2⟩
  | _ => exact e
theorem atI_one {a b : V} {r : List V} : atI (a :: b :: r) (1 : Int) = some b := by
  have h : (a :: b :: r)[1]? = some b := rfl
  exact atI_nat h
theorem cut_two (a b : V) (r : List V) : cutV (a :: b :: r) (some 2) none = r := cut_from (a :: b :: r) (i := 2) (by simp)
theorem not_whole (a b : V) (r : List V) : ¬ (HT.sIx (a :: b :: r).length 0 (some 2) = 0 ∧ HT.sIx (a :: b :: r).length (a :: b :: r).length none = (a :: b :: r).length) := fun h => by
  have h1 := h.1
  have h2 : HT.sIx (a :: b :: r).length 0 (some 2) = min 2 (a :: b :: r).length := HT.sIx_nat _ _ 2
  rw [h2] at h1
  simp at h1
theorem new_obj {H : Hp} {x dx C : Addr} (fs : List (Str × V)) (hx : H x = none) (hd : H dx = none) : Same H (upd (upd (upd H dx (.own x)) x (.ins C dx [])) x (.ins C dx fs)) := fun b o e => by
  rw [upd_ne (ne_of_none e hx)]
  exact new_ext (C := C) hx hd b o e
theorem new_obj2 {H : Hp} {x dx C : Addr} (fs gs : List (Str × V)) (hx : H x = none) (hd : H dx = none) : Same H (upd (upd (upd (upd H dx (.own x)) x (.ins C dx [])) x (.ins C dx fs)) x (.ins C dx gs)) := fun b o e => by
  rw [upd_ne (ne_of_none e hx)]
  exact new_obj fs hx hd b o e
/-- the lists that must stay -/
def Gd (N D : Addr) (ads : List (Addr × Addr)) (nds : List Nd) (b : Addr) : Prop := b = N ∨ b = D ∨ ∃ (i : Nat) (ad : Addr × Addr) (x : Nd), ads[i]? = some ad ∧ nds[i]? = some x ∧ x.isFol = true ∧ b = ad.2
structure Cell (K : PySem.W.Frag) (cs : Nat → Addr) (CT P0 : Addr) (Hb : Hp) (p N D t : Addr) (ads : List (Addr × Addr)) (nds : List Nd) (qs : List Addr) (ms : List Nd) (L : List V) (H : Hp) : Prop where
  nw : ∀ u, Hb p = some u → (∀ ps, u ≠ .tbl ps) → False
  gp : ∀ b, Gd N D ads nds b → b ≠ p
  ex : ExtN Hb H
  tb : Tabs [(P0, qBy)] H
  ds : ∃ o, H p = some o ∧ DSo o
  nd : NdsL H N ads nds
  d : H D = some (.lst L)
  tr : TreeAt K cs CT H t qs ms
section
variable {K : PySem.W.Frag} {cs : Nat → Addr} {CT P0 : Addr} {Hb H H' : Hp} {p N D t : Addr} {ads : List (Addr × Addr)} {nds : List Nd} {qs : List Addr} {ms : List Nd} {L : List V}
theorem Cell.g_lst (h : Cell K cs CT P0 Hb p N D t ads nds qs ms L H) {b : Addr} (g : Gd N D ads nds b) : ∃ xs, H b = some (.lst xs) := by
  rcases g with rfl | rfl | ⟨i, ad, x, h1, h2, h3, rfl⟩
  · exact ⟨_, h.nd.ls⟩
  · exact ⟨_, h.d⟩
  · have := h.nd.nds i ad x h1 h2
    cases x with
    | fol o es => exact let ⟨_, ps, e, _⟩ := this; ⟨ps, e⟩
    | _ => cases h3
theorem Cell.step (h : Cell K cs CT P0 Hb p N D t ads nds qs ms L H) (nl : ExtX H H') (tb : Tabs [(P0, qBy)] H') (lk : ∀ b xs, H b = some (.lst xs) → Gd N D ads nds b → H' b = some (.lst xs)) (ex : ExtN Hb H') (st : ∃ o, H' p = some o ∧ DSo o) :
    Cell K cs CT P0 Hb p N D t ads nds qs ms L H' := by
  refine ⟨h.nw, h.gp, ex, tb, st, ⟨lk _ _ h.nd.ls (.inl rfl), h.nd.len, fun i ad x a b => ?_⟩, lk _ _ h.d (.inr (.inl rfl)), h.tr.extX nl⟩
  have := h.nd.nds i ad x a b
  have tk : ∀ a xs, H a = some (.tup xs) → H' a = some (.tup xs) := fun a xs e => nl _ _ e (fun _ z => by cases z) (fun _ z => by cases z)
  cases x with
  | fol o es =>
    obtain ⟨h1, ps, h2, h3, h4⟩ := this
    exact ⟨tk _ _ h1, ps, lk _ _ h2 (.inr (.inr ⟨i, ad, _, a, b, rfl, rfl⟩)), h3, fun k q en a b => (h4 k q en a b).mono tk⟩
  | fil o => exact tk _ _ this
  | lnk o t => exact tk _ _ this
  | gon o ab => exact tk _ _ this
theorem Cell.ext (h : Cell K cs CT P0 Hb p N D t ads nds qs ms L H) (e : ExtN H H') (tb : Tabs [(P0, qBy)] H') : Cell K cs CT P0 Hb p N D t ads nds qs ms L H' :=
  h.step (.of e) tb (fun _ _ q _ => e _ _ q (fun _ z => by cases z)) (h.ex.trans e) (let ⟨o, e1, d1⟩ := h.ds; ⟨o, e _ _ e1 (dso_tbl d1), d1⟩)
theorem Cell.same (h : Cell K cs CT P0 Hb p N D t ads nds qs ms L H) (s : Same H H') : Cell K cs CT P0 Hb p N D t ads nds qs ms L H' := h.ext (ExtN.same s) (h.tb.ext s)
theorem Cell.dr (h : Cell K cs CT P0 Hb p N D t ads nds qs ms L H) (d : Dr p H H') : Cell K cs CT P0 Hb p N D t ads nds qs ms L H' := by
  obtain ⟨o, e, dd⟩ := h.ds
  obtain ⟨xs, rfl⟩ := dso_lst dd
  have nl : ∀ b o, H b = some o → (∀ xs, o ≠ .lst xs) → H' b = some o := fun b o q n => d.but _ _ q (fun z => by rw [z, e] at q; exact n _ (Option.some.inj q).symm)
  exact h.step (fun b o q n _ => nl b o q n) (tabs_nl h.tb nl) (fun b xs q g => d.but _ _ q (h.gp b g)) (fun b u q n => d.but _ _ (h.ex _ _ q n) (fun z => h.nw u (z ▸ q) n)) d.st
/-- another list changes -/
theorem Cell.put (h : Cell K cs CT P0 Hb p N D t ads nds qs ms L H) {A : Addr} {xs ys : List V} (e : H A = some (.lst xs)) (ng : ¬ Gd N D ads nds A) (np : A ≠ p) (nw : ∀ u, Hb A = some u → (∀ ps, u ≠ .tbl ps) → False) : Cell K cs CT P0 Hb p N D t ads nds qs ms L (upd H A (.lst ys)) := by
  refine h.step (extX_lst e) (tabs_lst h.tb e) (fun b zs q g => ?_) (fun b u q n => ?_) ?_
  · rw [upd_ne (fun z => ng (by rw [← z]; exact g))]; exact q
  · rw [upd_ne (fun z => nw u (by rw [← z]; exact q) n)]; exact h.ex _ _ q n
  · obtain ⟨o, e1, d1⟩ := h.ds
    exact ⟨o, by rw [upd_ne np.symm]; exact e1, d1⟩
theorem Cell.fresh (h : Cell K cs CT P0 Hb p N D t ads nds qs ms L H) {A : Addr} (hA : H A = none) : (¬ Gd N D ads nds A) ∧ A ≠ p ∧ ∀ u, Hb A = some u → (∀ ps, u ≠ .tbl ps) → False :=
  ⟨fun g => (by obtain ⟨xs, e⟩ := h.g_lst g; rw [hA] at e; cases e), fun z => (by obtain ⟨o, e, _⟩ := h.ds; rw [← z, hA] at e; cases e), fun u q n => (by have := h.ex _ _ q n; rw [hA] at this; cases this)⟩
end
section
variable {P : Program} {w : World} {K : PySem.W.Frag} {mg : Str → Option Value} {base : Heap} {fNum fAt fDigit fPool fBy fMade fState fNodes fTree fFl fDu fTu fOd fTI fTE fLaw CT P0 : Addr} {cs fi fe : Nat → Addr}
theorem scLaw : FnScope lawN ["_law_script"] (defScope sLaw) := ⟨rfl, rfl, rfl, by decide +kernel, rfl, by decide +kernel, by decide +kernel⟩
theorem ok_law {fd fdS fdD fdN fdM fdTr fdF fdU fdT fdO fdTI fdE fk0 fk1 fk2 fk3 : FuncData} (F : Fun K "law" "law" sLaw fLaw fd) (T : TxtK K mg fNum fAt fDigit fPool) (TS : TxtS K mg fBy) (TG : TxtG K mg cs) (TV : TxtV K mg fMade CT) (L : TxtL K mg fState fNodes fTree fFl fDu fTu fOd) (TE4 : TxtE4 K cs fe) (hE4 : EqF4 P w K mg base cs fe) (TE : EqC K CT fTE) (TC : TyC K CT) (cl : Cls K CT) (nn : NoAttr K CT "nodes")
    (nfT : PySem.W.notFirst K CT (.type "tuple") = true) (ktT : PySem.W.kitOne K (.type "tuple") (.ref CT) = some false) (nfI : PySem.W.notFirst K (cs 1) (.type "int") = true) (ktI : PySem.W.kitOne K (.type "int") (.ref (cs 1)) = some false)
    (MT : Mk K CT fTI) (M0 : Mk K (cs 0) (fi 0)) (M1 : Mk K (cs 1) (fi 1)) (M2 : Mk K (cs 2) (fi 2)) (M3 : Mk K (cs 3) (fi 3))
    (GS : FnOk P w K mg base CX0 1 fState fdS ["_law_source"] spState) (bS : Binds K fdS ["_law_source"] [])
    (GD : FnOk P w K mg base CX0 1 fDigit fdD ["_law_state_here", "_law_base"] spDigit) (bD : Binds K fdD ["_law_state_here", "_law_base"] [])
    (GN : FnOk P w K mg base CX0 3 fNodes fdN ["_law_s", "_law_many", "_law_links"] spNodes) (bN : Binds K fdN ["_law_s", "_law_many", "_law_links"] [])
    (GM : FnOk P w K mg base CX0 5 fMade fdM ["_law_node"] (spMade K cs P0)) (bM : Binds K fdM ["_law_node"] [])
    (GTr : FnOk P w K mg base CX0 9 fTree fdTr ["_law_nodes_here"] (spTree K cs CT P0)) (bTr : Binds K fdTr ["_law_nodes_here"] [])
    (GFl : FnOk P w K mg base CX0 1 fFl fdF ["_law_node"] (spFlds K cs)) (bFl : Binds K fdF ["_law_node"] [])
    (GDu : FnOk P w K mg base CX0 1 fDu fdU ["_law_node"] (spDue K)) (bDu : Binds K fdU ["_law_node"] [])
    (GTu : FnOk P w K mg base CX0 2 fTu fdT ["_law_s", "_law_items"] spTurn) (bTu : Binds K fdT ["_law_s", "_law_items"] [])
    (GOd : FnOk P w K mg base CX0 5 fOd fdO ["_law_s"] (spOdd K P0)) (bOd : Binds K fdO ["_law_s"] [])
    (GTI : FnOk P w K mg base CX0 7 fTI fdTI ["self", "nodes"] (spTreeI K cs CT)) (GTT : FnOk P w K mg base CX0 7 fTI fdTI ["self", "nodes"] (spTreeT K cs CT)) (bTI : Binds K fdTI ["self", "nodes"] [])
    (GE : FnOk P w K mg base CX0 3 fTE fdE ["self", "other"] (spTreeE K cs CT)) (bE : Binds K fdE ["self", "other"] [])
    (GF : FnOk P w K mg base CX0 3 (fi 0) fk0 ["self", "owner", "entries"] (spFol K (cs 0) P0)) (bF : Binds K fk0 ["self", "owner", "entries"] [])
    (GFi : FnOk P w K mg base CX0 1 (fi 1) fk1 ["self", "owner"] (spFile K (cs 1))) (bFi : Binds K fk1 ["self", "owner"] [])
    (GLi : FnOk P w K mg base CX0 1 (fi 2) fk2 ["self", "owner", "text"] (spTwo K (cs 2) "owner" "text")) (bLi : Binds K fk2 ["self", "owner", "text"] [])
    (GGo : FnOk P w K mg base CX0 1 (fi 3) fk3 ["self", "owner", "above"] (spTwo K (cs 3) "owner" "above")) (bGo : Binds K fk3 ["self", "owner", "above"] []) :
    FnOk P w K mg base CX0 10 fLaw fd ["_law_script"] (spLaw K P0) := by
  have nd := scLaw.nd
  refine F.ok scLaw (fun vs H Q E h => ?_) (fun cdv A outer s H vs Q E hr h => ?_)
  · obtain ⟨a, ns, rfl, _⟩ := h
    rfl
  · obtain ⟨a, ns, rfl, hS, hlen, hT0, k⟩ := h
    have hr1 : Room 1 _ := hr.mono (by decide)
    have hr2 : Room 2 _ := hr.mono (by decide)
    have hr3 : Room 3 _ := hr.mono (by decide)
    have hr4 : Room 4 _ := hr.mono (by decide)
    have hr5 : Room 5 _ := hr.mono (by decide)
    have hr8 : Room 8 _ := hr.mono (by decide)
    have hr9 : Room 9 _ := hr
    have hs : sizeLine = 16777216 := sizeLine_eq
    have hu := hu64 hr
    refine ⟨_, (pss_cons (ps_for PassesOwn.never rfl (pi_list (pe_slice sl_list (pe_op op_catS (pv 0) (pe_lst (pa_cons pe_int pa_nil))) po_none (po_some pe_int))) (pg_name (i := 1) nd rfl (Or.inl rfl))
  (pss_cons (ps_set (i := 2) nd rfl (Or.inl rfl) (pe_call GS hr1 (by rfl) L.g_state L.kp_state bS .nil pass0 (pa_cons (pv 1) pa_nil)))
  (pss_cons (ps_set (i := 3) nd rfl (Or.inl rfl) (pe_call GN hr3 (by rfl) L.g_nodes L.kp_nodes bN .nil pass0 (pa_cons (pv 2) (pa_cons (pe_call GD hr1 (by rfl) T.g_digit T.kp_digit bD .nil pass0 (pa_cons (pv 2) (pa_cons pe_int pa_nil))) (pa_cons pe_int pa_nil)))))
  (pss_cons (ps_setLc (i := 4) (own := [("_law_node", 7)]) rfl nd rfl rfl (sw_true rfl rfl rfl (by decide +kernel)) (pi_list (pv 3)) (blkOk_by (N := lawN) (sc := defScope sLaw) (by decide +kernel)) (fun _ _ _ _ _ => (pg_name (i := 7) nd rfl (Or.inl rfl))) (fun _ _ _ _ _ => pts_nil) (fun _ _ _ _ _ => (pe_call GM hr5 (by rfl) TV.g_made TV.kp_made bM .nil pass0 (pa_cons (pv 7) pa_nil))))
  (pss_cons (ps_set (i := 5) nd rfl (Or.inl rfl) (pe_make MT GTI hr8 (by rfl) TV.m_Tree bTI .nil pass0 (pa_cons (pv 4) pa_nil)))
  (pss_cons (ps_if (pt_cmpR (op_neD hu) (pe_lc (own := [("_law_node", 7)]) rfl nd (pi_tup (pe_fld (pv 5) rfl)) (blkOk_by (N := lawN) (sc := defScope sLaw) (by decide +kernel)) (fun _ _ _ _ _ => (pg_name (i := 7) nd rfl (Or.inl rfl))) (fun _ _ _ _ _ => pts_nil) (fun _ _ _ _ _ => (pe_call GFl hr1 (by rfl) L.g_fields L.kp_fields bFl .nil pass0 (pa_cons (pv 7) pa_nil)))) (pe_lc (own := [("_law_node", 7)]) rfl nd (pi_list (pv 3)) (blkOk_by (N := lawN) (sc := defScope sLaw) (by decide +kernel)) (fun _ _ _ _ _ => (pg_name (i := 7) nd rfl (Or.inl rfl))) (fun _ _ _ _ _ => pts_nil) (fun _ _ _ _ _ => (pe_call GDu hr1 (by rfl) L.g_due L.kp_due bDu .nil pass0 (pa_cons (pv 7) pa_nil)))) (nomark _)) (pss_one (ps_ret pe_bl)) pss_nil)
  (pss_cons (ps_set (i := 6) nd rfl (Or.inl rfl) (pe_lst pa_nil))
  (pss_cons (ps_for PassesOwn.never rfl (pi_list (pv 3)) (pg_name (i := 7) nd rfl (Or.inl rfl))
  (pss_one (ps_if (pt_cmpR op_eq (pe_ix ix_tup (pv 7) pe_int (fun _ _ => rfl)) pe_str (nomark _)) (pss_cons (ps_setLc (i := 8) (own := [("_law_entry", 9)]) (te := tCB (rLstOf K) (tCons (tVar 9) tNil)) rfl nd rfl rfl (sw_true rfl rfl rfl (by decide +kernel)) (pi_list (pe_call GTu hr2 (by rfl) L.g_turned L.kp_turned bTu .nil pass0 (pa_cons (pv 2) (pa_cons (pe_ix ix_tup (pv 7) pe_int (fun _ _ => rfl)) pa_nil)))) (blkOk_by (N := lawN) (sc := defScope sLaw) (by decide +kernel)) (fun _ _ _ _ _ => (pg_name (i := 9) nd rfl (Or.inl rfl))) (fun _ _ _ _ _ => pts_nil) (fun _ _ _ _ _ => (pe_callTy call_list_of (by rfl) L.m_list (by decide +kernel) (pa_cons (pv 9) pa_nil))))
  (pss_cons (ps_expr (pe_bm PySem.F.plainAttrs_list PySem.F.slot_list_append PySem.F.type_list_append mt_append (pv 6) (pa_cons (pe_make M0 GF hr4 (by rfl) TG.m_Folder bF .nil pass0 (pa_cons (pe_ix ix_tup (pv 7) pe_int (fun _ _ => rfl)) (pa_cons (pv 8) pa_nil))) pa_nil)))
  (pss_cons (ps_for PassesOwn.never rfl (pi_list (pv 8)) (pg_name (i := 9) nd rfl (Or.inl rfl))
  (pss_one (ps_expr (pe_bm PySem.F.plainAttrs_list PySem.F.slot_list_append PySem.F.type_list_append mt_append (pv 9) (pa_cons pe_int pa_nil)))))
  (pss_one (ps_expr (pe_bm PySem.F.plainAttrs_list PySem.F.slot_list_append PySem.F.type_list_append mt_append (pv 8) (pa_cons (pe_tup (pa_cons pe_str (pa_cons pe_int pa_nil))) pa_nil))))))) (pss_one (ps_expr (pe_bm PySem.F.plainAttrs_list PySem.F.slot_list_append PySem.F.type_list_append mt_append (pv 6) (pa_cons (pe_call GM hr5 (by rfl) TV.g_made TV.kp_made bM .nil pass0 (pa_cons (pv 7) pa_nil)) pa_nil)))))))
  (pss_cons (ps_if (pt_cut (PW.pt (pw_or (pt_cmpR (op_neOwn GE hr4 TE.e1 TE.e2 TE.e3 TE.e4 bE pass0) (pe_make MT GTT hr8 (by rfl) TV.m_Tree bTI .nil pass0 (pa_cons (pe_callTy call_tuple_of (by rfl) TS.m_tuple (by decide +kernel) (pa_cons (pv 6) pa_nil)) pa_nil)) (pv 5) (nomark _)) (pw_or (pt_cmpR (op_neLV (eqB_nd (fe := fe) TG TE4 hE4) hr2) (pv 6) (pv 4) (nomark _)) (pw_or1 (pt_not (pt_val (pe_callB call_isi (by rfl) T.m_isinstance (by decide +kernel) (pa_cons (pe_fld (pv 5) rfl) (pa_cons (pe_bltn (v := .ty "tuple") (by rfl) TS.m_tuple (by decide +kernel) rfl) pa_nil)))))))))) (pss_one (ps_ret pe_bl)) pss_nil)
  (pss_cons (ps_expr (pe_bm PySem.F.plainAttrs_list PySem.F.slot_list_append PySem.F.type_list_append mt_append (pv 4) (pa_cons (pe_make M1 GFi hr2 (by rfl) TG.m_File bFi .nil pass0 (pa_cons pe_int pa_nil)) pa_nil)))
  (pss_cons (ps_if (pt_cut (PW.pt (pw_or (pt_cmpR (op_neTV (eqB_nd (fe := fe) TG TE4 hE4) hr2) (pe_fld (pv 5) rfl) (pe_callTy call_tuple_of (by rfl) TS.m_tuple (by decide +kernel) (pa_cons (pv 6) pa_nil)) (nomark _)) (pw_or (pt_cmpR (op_eqOwn GE hr3 TE.e1 TE.e2 bE pass0) (pv 5) (pe_fld (pv 5) rfl) (nomark _)) (pw_or1 (pt_cmpR op_ne (pe_callB call_len_seq (by rfl) T.m_len (by decide +kernel) (pa_cons (pe_fld (pv 5) rfl) pa_nil)) (pe_callB call_len_seq (by rfl) T.m_len (by decide +kernel) (pa_cons (pv 3) pa_nil)) (nomark _))))))) (pss_one (ps_ret pe_bl)) pss_nil)
  (pss_cons (ps_set (i := 10) nd rfl (Or.inl rfl) (pe_call GD hr1 (by rfl) T.g_digit T.kp_digit bD .nil pass0 (pa_cons (pv 2) (pa_cons (pe_callB call_len_seq (by rfl) T.m_len (by decide +kernel) (pa_cons (pv 3) pa_nil)) pa_nil))))
  (pss_cons (ps_set (i := 7) nd rfl (Or.inl rfl) (pe_ix ix_list (pv 3) (pv 10) (fun _ _ => rfl)))
  (pss_cons (ps_set (i := 11) nd rfl (Or.inl rfl) (pe_op op_catA (pe_tup (pa_cons (pe_ix ix_tup (pv 7) pe_int (fun _ _ => rfl)) (pa_cons (pe_op op_add (pe_ix ix_tup (pv 7) pe_int (fun _ _ => rfl)) pe_int) pa_nil))) (pe_slice sl_tup (pv 7) (po_some pe_int) po_none)))
  (pss_cons (ps_set (i := 12) nd rfl (Or.inl rfl) (pe_op op_catS (pe_op op_catS (pe_slice sl_list (pv 3) po_none (po_some (pv 10))) (pe_lst (pa_cons (pv 11) pa_nil))) (pe_slice sl_list (pv 3) (po_some (pe_op op_add (pv 10) pe_int)) po_none)))
  (pss_cons (ps_if (pt_cut (PW.pt (pw_or (pt_cmpR (op_eqOwn GE hr3 TE.e1 TE.e2 bE pass0) (pe_call GTr hr9 (by rfl) L.g_tree L.kp_tree bTr .nil pass0 (pa_cons (pv 12) pa_nil)) (pv 5) (nomark _)) (pw_or (pt_cmpR (op_eqNd TE4 hE4 hr1) (pe_call GM hr5 (by rfl) TV.g_made TV.kp_made bM .nil pass0 (pa_cons (pv 11) pa_nil)) (pe_ix ix_list (pv 6) (pv 10) (fun _ _ => rfl)) (nomark _)) (pw_or1 (pt_not (pt_cmpR (op_neOwn GE hr4 TE.e1 TE.e2 TE.e3 TE.e4 bE pass0) (pe_call GTr hr9 (by rfl) L.g_tree L.kp_tree bTr .nil pass0 (pa_cons (pv 12) pa_nil)) (pv 5) (nomark _)))))))) (pss_one (ps_ret pe_bl)) pss_nil)
  (pss_cons (ps_if (pt_not (pt_val (pe_call GOd hr5 (by rfl) L.g_odd L.kp_odd bOd .nil pass0 (pa_cons (pv 2) pa_nil)))) (pss_one (ps_ret pe_bl)) pss_nil)
  (pss_one (ps_if (pt_cut (PW.pt (pw_or (pt_cmpR (op_eqNd TE4 hE4 hr1) (pe_make M1 GFi hr2 (by rfl) TG.m_File bFi .nil pass0 (pa_cons pe_int pa_nil)) (pe_make M3 GGo hr2 (by rfl) TG.m_Gone bGo .nil pass0 (pa_cons pe_int (pa_cons pe_int pa_nil))) (nomark _)) (pw_or (pt_cmpR (op_eqNd TE4 hE4 hr1) (pe_make M2 GLi hr2 (by rfl) TG.m_Link bLi .nil pass0 (pa_cons pe_int (pa_cons pe_str pa_nil))) (pe_make M1 GFi hr2 (by rfl) TG.m_File bFi .nil pass0 (pa_cons pe_int pa_nil)) (nomark _)) (pw_or (pt_cmpR (op_eqNd TE4 hE4 hr1) (pe_make M0 GF hr4 (by rfl) TG.m_Folder bF .nil pass0 (pa_cons pe_int (pa_cons (pe_lst pa_nil) pa_nil))) (pe_make M1 GFi hr2 (by rfl) TG.m_File bFi .nil pass0 (pa_cons pe_int pa_nil)) (nomark _)) (pw_or1 (pt_cmpR (op_eqNd TE4 hE4 hr1) (pe_make M1 GFi hr2 (by rfl) TG.m_File bFi .nil pass0 (pa_cons pe_int pa_nil)) pe_int (nomark _)))))))) (pss_one (ps_ret pe_bl)) pss_nil)))))))))))))))))))
  (pss_one (ps_ret pe_bl))), ?_⟩
    refine ⟨_, rfl, (by show 1 ≤ sizeLine; decide), fun q hq => ⟨a, q, ns.map V.int, [.int 0], rfl, rfl, (NG.Same.upd hq).seq hS, SqL.of upd_same, (by rw [List.length_map]; show ns.length + 1 ≤ _; omega), fun r hr' => ?_⟩⟩
    have sa : Same H (upd (upd H q (.lst [.int 0])) r (.lst (ns.map V.int ++ [.int 0]))) := (NG.Same.upd hq).trans (NG.Same.upd hr')
    have er : (upd (upd H q (.lst [.int 0])) r (.lst (ns.map V.int ++ [.int 0]))) r = some (.lst (ns.map V.int ++ [.int 0])) := upd_same
    generalize upd (upd H q (.lst [.int 0])) r (.lst (ns.map V.int ++ [.int 0])) = Ha at sa er
    refine ⟨_, rfl, r, _, rfl, SqL.of er, fun c hc => ?_⟩
    have sb : Same H (upd Ha c (.lst (cutV (ns.map V.int ++ [.int 0]) none (some 3)))) := sa.trans (NG.Same.upd hc)
    have ec : (upd Ha c (.lst (cutV (ns.map V.int ++ [.int 0]) none (some 3)))) c = some (.lst (cutV (ns.map V.int ++ [.int 0]) none (some 3))) := upd_same
    have hints : ∀ x ∈ cutV (ns.map V.int ++ [.int 0]) none (some 3), ∃ n, x = V.int n := fun x hx => by
      have h1 : x ∈ ns.map V.int ++ [.int 0] := List.mem_of_mem_drop (List.mem_of_mem_take hx)
      rcases List.mem_append.mp h1 with h | h
      · obtain ⟨n, _, e⟩ := List.mem_map.mp h
        exact ⟨n, e.symm⟩
      · exact ⟨0, List.mem_singleton.mp h⟩
    generalize cutV (ns.map V.int ++ [.int 0]) none (some 3) = cells at sb ec hints
    generalize upd Ha c (.lst cells) = Hb at sb ec
    have hTb : Tabs [(P0, qBy)] Hb := hT0.ext fun b u e => sb _ _ e
    refine ⟨c, rfl, ⟨_, SqL.of ec⟩, for_list (K := K) (a := c) (xs := cells) (fun i σ H' => (∃ v1 v2 v3 v4 v5 v6 v7 v8 v9 v10 v11 v12 : Option V, σ = [some (.ref a), v1, v2, v3, v4, v5, v6, v7, v8, v9, v10, v11, v12]) ∧ ExtN Hb H' ∧ Tabs [(P0, qBy)] H')
      ⟨⟨none, none, none, none, none, none, none, none, none, none, none, none, rfl⟩, ExtN.refl _, hTb⟩ (fun i σ H' _ h => ExtN.sqL h.2.1 (SqL.of ec)) ?_ ?_⟩
    · rintro i0 y0 σ H1 hi0 ⟨⟨v1, v2, v3, v4, v5, v6, v7, v8, v9, v10, v11, v12, rfl⟩, e1, t1⟩
      obtain ⟨n, rfl⟩ := hints y0 (List.mem_of_getElem? hi0)
      refine ⟨_, rfl, n, rfl, fun p o hp ho => ?_⟩
      have nw : ∀ u, Hb p = some u → (∀ ps, u ≠ .tbl ps) → False := fun u e n => by rw [e1 _ _ e n] at hp; cases hp
      have s1 := NG.Same.upd (o := o) hp
      have ep1 : (upd H1 p o) p = some o := upd_same
      have e2 := e1.trans (NG.ExtN.same s1)
      have t2 : Tabs [(P0, qBy)] (upd H1 p o) := t1.ext s1
      generalize upd H1 p o = H2 at e2 t2 ep1 ⊢
      refine ⟨_, rfl, _, rfl, p, 24, o, rfl, by decide, by decide, ep1, ho, fun d o2 d0 d1 ho2 => ?_⟩
      have dr2 : Dr p H2 (upd H2 p o2) := (Dr.refl ep1 ho).next ho2
      generalize upd H2 p o2 = H3 at dr2 ⊢
      refine ⟨p, d, 3, rfl, dr2.st, d0, by omega, fun N ads nds H4 dr3 ND W AP hl => ?_⟩
      have dr4 := dr2.trans dr3
      obtain ⟨xs0, eo0⟩ := dso_lst ho
      have e4 : ExtN Hb H4 := fun b u q n => dr4.but _ _ (e2 _ _ q n) (fun z => nw u (z ▸ q) n)
      have t4 : Tabs [(P0, qBy)] H4 := tabs_nl t2 fun b u q n => dr4.but _ _ q (fun z => by rw [z, ep1] at q; exact n _ ((Option.some.inj q).symm.trans eo0))
      have st4 := dr4.st
      clear dr2 dr3 dr4 e2 t2 ep1 s1
      have hl25 : nds.length ≤ 25 := by omega
      have hWs := wf_srt W
      have okn : ∀ i x, nds[i]? = some x → NdOk x := fun i x h => nd_ok W h
      refine ⟨_, rfl, N, rfl, ⟨_, SqL.of ND.ls⟩, fun D1 hD1 => ?_⟩
      have xl : (ads.map fun a => V.ref a.1).length = nds.length := by rw [List.length_map, ND.len]
      refine lc_rel (walk_list (K := K) (a := N)) (R := fun H' => ExtN H4 H' ∧ Tabs [(P0, qBy)] H') (S := fun a b => ExtN a b ∧ Tabs [(P0, qBy)] b) (Px := fun i y H' => ∃ q x, y = .ref q ∧ nds[i]? = some x ∧ ObjAt K cs H' q (srtN x)) (by rw [xl]; omega) ⟨extN_laid hD1, tabs_laid t4 hD1⟩ (fun H2 r => ExtN.sqL r.1 (SqL.of ND.ls)) (fun _ _ r s => ⟨r.1.trans s.1, s.2⟩) (fun _ _ _ _ s e => s.1 _ _ e (fun _ z => by cases z))
        (fun i y _ _ s ⟨q, x, h1, h2, h3⟩ => ⟨q, x, h1, h2, h3.ext (.of s.1)⟩) (fun H' acc y r e => ⟨fun b u hb n => ?_, tabs_lst r.2 e⟩) (fun i y H' acc acc' eD ⟨q, x, h1, h2, h3⟩ => ⟨q, x, h1, h2, h3.ext (extX_lst eD)⟩) (fun i x H' Rk hx r hR => ?_) (fun H5 ys r5 eD1 hy hys => ?_)
      · rw [upd_ne (ne_of_none hb hD1)]
        exact r.1 _ _ hb n
      · rw [List.getElem?_map] at hx
        cases ea : ads[i]? with
        | none => rw [ea] at hx; cases hx
        | some ad =>
          rw [ea] at hx
          cases Option.some.inj hx
          have hi : i < nds.length := by rw [← ND.len]; exact (List.getElem?_eq_some_iff.mp ea).1
          have hn : nds[i]? = some nds[i] := List.getElem?_eq_getElem hi
          generalize nds[i] = y at hn
          have l12 := (W.base.uniq i _ hn).2
          have hna : NdAt H' ad y := by
            have h := ND.nds i ad y ea hn
            exact h.mono (fun a xs q => r.1 _ _ q (fun _ z => by cases z)) (fun f => by
              cases y with
              | fol o es => obtain ⟨_, ps, q, _⟩ := h; rw [q]; exact r.1 _ _ q (fun _ z => by cases z)
              | _ => cases f)
          exact ⟨_, rfl, ad.1, ad.2, y, rfl, hna, by omega, r.2, fun H3 q e3 nq t3 hO => hR _ _ ⟨e3, t3⟩ ⟨q, y, rfl, hn, hO⟩⟩
      rw [xl] at hy
      have ey : ys = (ys.map fun v => match v with | V.ref a => a | _ => 0).map V.ref := by
        apply List.ext_getElem?
        intro i
        rw [List.getElem?_map, List.getElem?_map]
        cases e : ys[i]? with
        | none => rfl
        | some y =>
          obtain ⟨q, x, rfl, _⟩ := hys i y e
          rfl
      generalize (ys.map fun v => match v with | V.ref a => a | _ => 0) = qs at ey
      subst ey
      rw [List.length_map] at hy
      have hob : ∀ (i : Nat) (q : Addr) (x : Nd), qs[i]? = some q → nds[i]? = some x → ObjAt K cs H5 q (srtN x) := fun i q x hq hx => by
        obtain ⟨q', x', h1, h2, h3⟩ := hys i (.ref q) (by rw [List.getElem?_map, hq]; rfl)
        cases h1
        rw [hx] at h2
        cases Option.some.inj h2
        exact h3
      clear hys
      refine ⟨_, rfl, fun t dt nt ndt net => ?_⟩
      have s6 := new_ext (C := CT) nt ndt
      have et : (upd (upd H5 dt (.own t)) t (.ins CT dt [])) t = some (.ins CT dt []) := upd_same
      have nt5 : H5 t = none := nt
      generalize upd (upd H5 dt (.own t)) t (.ins CT dt []) = H6 at s6 et ⊢
      refine ⟨t, dt, D1, qs, nds.map srtN, rfl, et, SqL.of (s6 _ _ eD1), by rw [hy, List.length_map], fun i q y hq hy' => ?_, hWs, by rw [List.length_map]; omega, fun H7 b7 TA => ⟨rfl, ?_⟩⟩
      · obtain ⟨y0, h0, rfl⟩ := get_srt hy'
        have h3 := hob i q y0 hq h0
        obtain ⟨_, _, h4, _⟩ := obj_ins h3
        exact ⟨h3.same s6, ne_of_none h4 nt5⟩
      have s57 : Same H5 H7 := fun b u e => b7 _ _ (s6 _ _ e) (ne_of_none e nt5)
      have nD1N : D1 ≠ N := (ne_of_none ND.ls hD1).symm
      have C7 : Cell K cs CT P0 Hb p N D1 t ads nds qs (nds.map srtN) (qs.map V.ref) H7 := by
        have e7 : ExtN H4 H7 := r5.1.trans (NG.ExtN.same s57)
        obtain ⟨o4, ep4, ho4⟩ := st4
        refine ⟨nw, fun b g => ?_, e4.trans e7, r5.2.ext s57, ⟨o4, e7 _ _ ep4 (dso_tbl ho4), ho4⟩, ⟨e7 _ _ ND.ls (fun _ z => by cases z), ND.len, fun i ad x ha hx => ?_⟩, s57 _ _ eD1, TA⟩
        · rcases g with rfl | rfl | ⟨i, ad, x, h1, h2, h3, rfl⟩
          · exact AP.1
          · exact (ne_of_none ep4 hD1).symm
          · exact AP.2.1 ad (List.mem_of_getElem? h1)
        · have h := ND.nds i ad x ha hx
          exact h.mono (fun a xs q => e7 _ _ q (fun _ z => by cases z)) (fun f => by
            cases x with
            | fol o es => obtain ⟨_, ps, q, _⟩ := h; rw [q]; exact e7 _ _ q (fun _ z => by cases z)
            | _ => cases f)
      have hO7 : ∀ (i : Nat) (q : Addr) (x : Nd), qs[i]? = some q → nds[i]? = some x → ObjAt K cs H7 q (srtN x) := fun i q x hq hx => (hob i q x hq hx).same s57
      clear b7 s57 s6 et nt5 hob eD1 r5
      obtain ⟨dt2, Tn, ht7, TR⟩ := id C7.tr
      have fl : (fl1 "nodes" (V.ref Tn)).lookup ("nodes" : Str) = some (.ref Tn) := by unfold fl1; rw [lookup_putF, if_pos rfl]
      have qsl : qs.length = nds.length := hy
      refine ⟨_, rfl, t, CT, dt2, _, _, rfl, ht7, cl, nn, fl, Tn, rfl, ⟨_, TR.ob.ls⟩, fun F1 hF1 => ?_⟩
      refine lc_rel (walk_tup (K := K) (a := Tn)) (R := fun H' => Same H7 H') (S := Same) (Px := fun i y H' => ∃ x, nds[i]? = some x ∧ Dp K H' y (fldD (srtN x))) (by rw [List.length_map, qsl]; omega) (NG.Same.upd hF1) (fun H2 r => Same.sqT r TR.ob.ls) (fun _ _ r s => r.trans s) (fun _ _ _ _ s e => s _ _ e)
        (fun i y _ _ s ⟨x, h1, h2⟩ => ⟨x, h1, dp_same s h2⟩) (fun H' acc y r e b u q => ?_) (fun i y H' acc acc' eD ⟨x, h1, h2⟩ => ⟨x, h1, dp_fld_x (extX_lst eD) h2⟩) (fun i x H' Rk hx r hR => ?_) (fun H8 fs r8 eF1 hfl hfs => ?_)
      · rw [upd_ne (ne_of_none q hF1)]
        exact r _ _ q
      · rw [List.getElem?_map] at hx
        cases eq : qs[i]? with
        | none => rw [eq] at hx; cases hx
        | some q =>
          rw [eq] at hx
          cases Option.some.inj hx
          have hi : i < nds.length := by rw [← qsl]; exact (List.getElem?_eq_some_iff.mp eq).1
          have hn : nds[i]? = some nds[i] := List.getElem?_eq_getElem hi
          exact ⟨_, rfl, q, _, rfl, (hO7 i q _ eq hn).same r, fun H' Tv s hd => hR _ _ s ⟨_, hn, hd⟩⟩
      rw [List.length_map, qsl] at hfl
      have C8 := C7.same r8
      refine ⟨_, rfl, N, rfl, ⟨_, SqL.of C8.nd.ls⟩, fun F2 hF2 => ?_⟩
      refine lc_rel (walk_list (K := K) (a := N)) (R := fun H' => Same H8 H') (S := Same) (Px := fun i y H' => ∃ x, nds[i]? = some x ∧ Dp K H' y (fldD (srtN x))) (by rw [xl]; omega) (NG.Same.upd hF2) (fun H2 r => SqL.of (r _ _ C8.nd.ls)) (fun _ _ r s => r.trans s) (fun _ _ _ _ s e => s _ _ e)
        (fun i y _ _ s ⟨x, h1, h2⟩ => ⟨x, h1, dp_same s h2⟩) (fun H' acc y r e b u q => ?_) (fun i y H' acc acc' eD ⟨x, h1, h2⟩ => ⟨x, h1, dp_fld_x (extX_lst eD) h2⟩) (fun i x H' Rk hx r hR => ?_) (fun H9 gs r9 eF2 hgl hgs => ?_)
      · rw [upd_ne (ne_of_none q hF2)]
        exact r _ _ q
      · rw [List.getElem?_map] at hx
        cases ea : ads[i]? with
        | none => rw [ea] at hx; cases hx
        | some ad =>
          rw [ea] at hx
          cases Option.some.inj hx
          have hi : i < nds.length := by rw [← ND.len]; exact (List.getElem?_eq_some_iff.mp ea).1
          have hn : nds[i]? = some nds[i] := List.getElem?_eq_getElem hi
          obtain ⟨u1, u2⟩ := W.base.uniq i _ hn
          exact ⟨_, rfl, ad.1, ad.2, _, rfl, (C8.same r).nd.nds i ad _ ea hn, u1, by omega, fun H' v s hd => hR _ _ s ⟨_, hn, hd⟩⟩
      rw [xl] at hgl
      have C9 := C8.same r9
      have eF1 := r9 _ _ eF1
      have dA : DpAll K H9 fs ((nds.map srtN).map fldD) := dps_get (by rw [hfl, List.length_map, List.length_map]) fun i y d h1 h2 => by
        obtain ⟨x, h3, h4⟩ := hfs i y h1
        rw [List.getElem?_map, List.getElem?_map, h3] at h2
        cases Option.some.inj h2
        exact dp_same r9 h4
      have dB : DpAll K H9 gs ((nds.map srtN).map fldD) := dps_get (by rw [hgl, List.length_map, List.length_map]) fun i y d h1 h2 => by
        obtain ⟨x, h3, h4⟩ := hgs i y h1
        rw [List.getElem?_map, List.getElem?_map, h3] at h2
        cases Option.some.inj h2
        exact h4
      have shF := sh_flds (nds.map srtN) fun x hx => by
        obtain ⟨y, hy1, rfl⟩ := List.mem_map.mp hx
        obtain ⟨i, hi⟩ := List.getElem?_of_mem hy1
        exact srt_ok (okn i y hi)
      refine ⟨.list ((nds.map srtN).map fldD), .list ((nds.map srtN).map fldD), .lst (SqL.of eF1) dA, .lst (SqL.of eF2) dB, shF, shF, _, rfl, ?_⟩
      rw [SeqAt.eqv_refl _ (SeqAt.canLay_of_shaped shF)]
      refine iteF ?_
      have hO9 : ∀ (i : Nat) (q : Addr) (x : Nd), qs[i]? = some q → nds[i]? = some x → ObjAt K cs H9 q (srtN x) := fun i q x hq hx => ((hO7 i q x hq hx).same r8).same r9
      clear dA dB shF eF1 eF2 hfs hgs C7 C8 hO7 TR ht7 r8 r9
      -- the other tree
      refine ⟨(by show 0 ≤ sizeLine; omega), fun O hO => ?_⟩
      have sO := NG.Same.upd (o := HO.lst []) hO
      have eO : (upd H9 O (HO.lst [])) O = some (.lst []) := upd_same
      obtain ⟨ngO, npO, nwO⟩ := C9.fresh hO
      have CA := C9.same sO
      have hOA : ∀ (i : Nat) (q : Addr) (x : Nd), qs[i]? = some q → nds[i]? = some x → ObjAt K cs (upd H9 O (HO.lst [])) q (srtN x) := fun i q x hq hx => (hO9 i q x hq hx).same sO
      generalize upd H9 O (HO.lst []) = HA at eO CA hOA ⊢
      clear sO hO9 C9
      refine ⟨_, rfl, N, rfl, ⟨_, SqL.of CA.nd.ls⟩, for_list (K := K) (a := N) (xs := ads.map fun a => V.ref a.1) (fun i σ H' => (∃ w7 w8 w9 w10 w11 w12 : Option V, σ = [some (.ref a), some (.int n), some (.ref p), some (.ref N), some (.ref D1), some (.ref t), some (.ref O), w7, w8, w9, w10, w11, w12]) ∧ Cell K cs CT P0 Hb p N D1 t ads nds qs (nds.map srtN) (qs.map V.ref) H' ∧ ExtX HA H' ∧ ∃ os : List Addr, H' O = some (.lst (os.map V.ref)) ∧ os.length = i ∧ ∀ (k : Nat) (x : Addr) (y : Nd), os[k]? = some x → nds[k]? = some y → ObjAt K cs H' x (srtN y))
        ⟨⟨_, _, _, _, _, _, rfl⟩, CA, ExtX.same (Same.refl _), [], eO, rfl, fun k x y h => by cases h⟩ (fun i σ H' _ h => SqL.of h.2.1.nd.ls) ?_ ?_⟩
      · rintro i xi σ M hi ⟨⟨w7, w8, w9, w10, w11, w12, rfl⟩, CM, xM, os, eOM, osl, hos⟩
        rw [List.getElem?_map] at hi
        obtain ⟨ad, had, rfl⟩ : ∃ ad, ads[i]? = some ad ∧ xi = V.ref ad.1 := by
          cases e : ads[i]? with
          | none => rw [e] at hi; cases hi
          | some ad => rw [e] at hi; exact ⟨ad, rfl, (Option.some.inj hi).symm⟩
        have hin : i < nds.length := by rw [← ND.len]; exact (List.getElem?_eq_some_iff.mp had).1
        have hnx : nds[i]? = some nds[i] := List.getElem?_eq_getElem hin
        generalize nds[i] = x at hnx
        have hNd := CM.nd.nds i ad x had hnx
        have hx12 := (W.base.uniq i _ hnx).2
        have hxnd := (W.base.uniq i _ hnx).1
        have hxok := okn i x hnx
        have snoc : ∀ {M' : Hp} {z : Addr}, (∀ (k : Nat) (x : Addr) (y : Nd), os[k]? = some x → nds[k]? = some y → ObjAt K cs M' x (srtN y)) → ObjAt K cs M' z (srtN x) → ∀ (k : Nat) (u : Addr) (y : Nd), (os ++ [z])[k]? = some u → nds[k]? = some y → ObjAt K cs M' u (srtN y) := fun h1 h2 k u y a b => by
          by_cases hk : k < os.length
          · rw [List.getElem?_append_left hk] at a
            exact h1 k u y a b
          · have hk2 : k = os.length := by
              have := (List.getElem?_eq_some_iff.mp a).1
              rw [List.length_append, List.length_singleton] at this
              omega
            subst hk2
            rw [List.getElem?_append_right (Nat.le_refl _), Nat.sub_self] at a
            cases Option.some.inj a
            rw [osl, hnx] at b
            cases Option.some.inj b
            exact h2
        have osz : os.length < sizeLine := by omega
        obtain ⟨rest, hkd⟩ := nd_kind hNd
        refine ⟨_, rfl, ad.1, _, 0, _, rfl, rfl, SqT.of hkd, atI_zero, rfl, _, rfl, ?_⟩
        rw [kind_fol]
        cases hf : x.isFol with
        | false =>
          refine iteF ⟨_, rfl, .inl ⟨rfl, _, SqL.of eOM⟩, _, rfl, ad.1, ad.2, x, rfl, hNd, by omega, CM.tb, fun M2 z e2 nz t2 hz => ?_⟩
          have eO2 := e2 _ _ eOM (fun _ z => by cases z)
          have C2 := CM.ext e2 t2
          refine ⟨O, _, _, rfl, rfl, eO2, (by rw [List.length_map]; exact osz), ?_⟩
          refine ⟨⟨_, _, _, _, _, _, rfl⟩, C2.put eO2 ngO npO nwO, xM.trans ((ExtX.of e2).trans (extX_lst eO2)), os ++ [z], by rw [upd_same, List.map_append]; rfl, by rw [List.length_append, osl]; rfl, ?_⟩
          exact snoc (fun k u y a b => (hos k u y a b).ext ((ExtX.of e2).trans (extX_lst eO2))) (hz.ext (extX_lst eO2))
        | true =>
          cases x with
          | fol o es =>
            obtain ⟨hN1, qsE, eLE, qlE, qeE⟩ := hNd
            have hS := SqT.of (K := K) hN1
            have EL0 : EntL M qsE es := ⟨qlE, qeE⟩
            refine iteT ⟨_, rfl, _, rfl, ad.1, _, 2, _, rfl, rfl, hS, rfl, p, ad.2, qsE, es, rfl, CM.ds, eLE, EL0, hxok, (by show es.length ≤ 100; have : es.length ≤ 12 := hx12; omega), fun M1 r qs1 es1 dr1 hr1n eR EL1 pm => ?_⟩
            have C1 := CM.dr dr1
            have nlp : ∀ b o, M b = some o → (∀ xs, o ≠ .lst xs) → M1 b = some o := fun b o q n => dr1.but _ _ q (fun z => by
              obtain ⟨o2, e2, d2⟩ := CM.ds
              obtain ⟨zs, ez⟩ := dso_lst d2
              rw [z, e2] at q
              exact n zs ((Option.some.inj q).symm.trans ez))
            have x1 : ExtX M M1 := fun b o q n _ => nlp b o q n
            have eO1 : M1 O = some (.lst (os.map V.ref)) := dr1.but _ _ eOM npO
            have esl1 : es1.length = es.length := pm.length_eq
            have hx12' : es.length ≤ 12 := hx12
            refine ⟨r, rfl, ⟨_, SqL.of eR⟩, fun Dh hDh => ?_⟩
            refine lc_rel (walk_list (K := K) (a := r)) (R := fun H' => Same M1 H' ∧ ∃ acc, H' Dh = some (.lst acc)) (S := Same) (Px := fun i y H' => ∃ b e, y = .ref b ∧ es1[i]? = some e ∧ H' b = some (.lst [.str e.1, .int (e.2 : Nat)]) ∧ M1 b = none ∧ b ≠ Dh) (by rw [EL1.1]; omega) ⟨NG.Same.upd hDh, [], upd_same⟩ (fun H2 r2 => SqL.of (r2.1 _ _ eR)) (fun _ _ r s => ⟨r.1.trans s, let ⟨acc, e⟩ := r.2; ⟨acc, s _ _ e⟩⟩) (fun _ _ _ _ s e => s _ _ e)
              (fun i y _ _ s ⟨b, e, h1, h2, h3, h4⟩ => ⟨b, e, h1, h2, s _ _ h3, h4⟩) (fun H' acc y r2 e => ⟨fun b u q => ?_, _, upd_same⟩) (fun i y H' acc acc' eD ⟨b, e, h1, h2, h3, h4, h5⟩ => ⟨b, e, h1, h2, by rw [upd_ne h5]; exact h3, h4, h5⟩) (fun k0 y0 H' Rk hy0 r2 hR => ?_) (fun M2 ys r2' eD2 hyl hys => ?_)
            · rw [upd_ne (ne_of_none q hDh)]
              exact r2.1 _ _ q
            · have hk0 : k0 < es1.length := by rw [← EL1.1]; exact (List.getElem?_eq_some_iff.mp hy0).1
              have he0 := List.getElem?_eq_getElem hk0
              obtain ⟨tb, rfl, htb⟩ := EL1.2 k0 y0 _ hy0 he0
              refine ⟨_, rfl, tb, _, rfl, .inr (SqT.of (r2.1 _ _ htb)), fun b hb => ?_⟩
              refine hR _ _ (NG.Same.upd hb) ⟨b, _, rfl, he0, upd_same, ?_, ?_⟩
              · cases e : M1 b with
                | none => rfl
                | some u => have := r2.1 _ _ e; rw [hb] at this; cases this
              · obtain ⟨acc, e⟩ := r2.2
                exact (ne_of_none e hb).symm
            have r2 : Same M1 M2 := r2'.1
            rw [EL1.1, esl1] at hyl
            have C2 := C1.same r2
            have eO2 := r2 _ _ eO1
            have fresh : ∀ {k0 : Nat} {b : Addr}, ys[k0]? = some (V.ref b) → M1 b = none := fun h => by
              obtain ⟨b', e, h1, h2, h3, h4, h5⟩ := hys _ _ h
              cases h1
              exact h4
            have nDh : ∀ {k0 : Nat} {b : Addr}, ys[k0]? = some (V.ref b) → b ≠ Dh := fun h => by
              obtain ⟨b', e, h1, h2, h3, h4, h5⟩ := hys _ _ h
              cases h1
              exact h5
            refine ⟨_, rfl, .inl ⟨rfl, _, SqL.of eO2⟩, _, rfl, ad.1, _, 1, _, rfl, rfl, Same.sqT r2 (SqT.of (nlp _ _ hN1 (fun _ z => by cases z))), rfl, _, rfl, fun x dx nx ndx nex => ?_⟩
            have s3 := new_ext (C := cs 0) nx ndx
            have ex3 : (upd (upd M2 dx (.own x)) x (.ins (cs 0) dx [])) x = some (.ins (cs 0) dx []) := upd_same
            have nx2 : M2 x = none := nx
            generalize upd (upd M2 dx (.own x)) x (.ins (cs 0) dx []) = M3 at s3 ex3 ⊢
            refine ⟨x, dx, .int o, Dh, ys, es1.map fun e => (e.1, V.int (e.2 : Nat)), rfl, ex3, C2.tb.ext s3, SqL.of (s3 _ _ eD2), ⟨by rw [List.length_map, hyl, esl1], fun i q e hq he => ?_⟩, by rw [List.length_map, esl1]; omega, fun M4 E qs2 e4 t4' hx4 hE4' l4 p4 => ⟨rfl, ?_⟩⟩
            · rw [List.getElem?_map] at he
              obtain ⟨b, e0, h1, h2, h3, _⟩ := hys i q hq
              rw [h2] at he
              cases Option.some.inj he
              exact ⟨b, h1, .inr (SqL.of (s3 _ _ h3))⟩
            have hN4 : ExtN M2 M4 := fun b u q n => e4 _ _ (s3 _ _ q) (ne_of_none q nx2) n
            have C4 := C2.ext hN4 t4'
            have eO4 := hN4 _ _ eO2 (fun _ z => by cases z)
            have eD4 := hN4 _ _ eD2 (fun _ z => by cases z)
            have hob4 : ObjAt K cs M4 x (srtN (.fol o es)) := by
              refine ⟨dx, E, qs2, hx4, hE4', ?_, fun i q e hq he => ?_⟩
              · rw [l4, List.length_map, esl1]
                exact (List.length_mergeSort es).symm
              · have he1 : (srtE es1)[i]? = some e := by rw [srtE_eq pm hxnd]; exact he
                exact p4 i q (e.1, V.int (e.2 : Nat)) hq (by rw [srt_map (fun n : Nat => V.int (n : Nat)) es1, List.getElem?_map, he1]; rfl)
            have ys4 : ∀ (k0 : Nat) (y : V), ys[k0]? = some y → ∃ b u v, y = V.ref b ∧ M4 b = some (.lst [u, v]) := fun k0 y h => by
              obtain ⟨b, e, h1, h2, h3, _⟩ := hys k0 y h
              exact ⟨b, _, _, h1, hN4 _ _ h3 (fun _ z => by cases z)⟩
            -- the new node is put into the list
            refine ⟨O, _, _, rfl, rfl, eO4, (by rw [List.length_map]; exact osz), ?_⟩
            have eO5 : (upd M4 O (HO.lst (os.map V.ref ++ [.ref x]))) O = some (.lst ((os ++ [x]).map V.ref)) := by rw [upd_same, List.map_append]; rfl
            have C5 := C4.put (ys := os.map V.ref ++ [.ref x]) eO4 ngO npO nwO
            have x5 : ExtX M4 (upd M4 O (HO.lst (os.map V.ref ++ [.ref x]))) := extX_lst eO4
            have nOD : Dh ≠ O := (ne_of_none eO1 hDh).symm
            have eD5 : (upd M4 O (HO.lst (os.map V.ref ++ [.ref x]))) Dh = some (.lst ys) := by rw [upd_ne nOD]; exact eD4
            have ys5 : ∀ (k0 : Nat) (y : V), ys[k0]? = some y → ∃ b u v, y = V.ref b ∧ (upd M4 O (HO.lst (os.map V.ref ++ [.ref x]))) b = some (.lst [u, v]) := fun k0 y h => by
              obtain ⟨b, u, v, rfl, h2⟩ := ys4 k0 y h
              exact ⟨b, u, v, rfl, by rw [upd_ne (ne_of_none eO1 (fresh h)).symm]; exact h2⟩
            have xM5 : ExtX M (upd M4 O (HO.lst (os.map V.ref ++ [.ref x]))) := x1.trans ((ExtX.same r2).trans ((ExtX.of hN4).trans x5))
            have ob5 := snoc (M' := upd M4 O (HO.lst (os.map V.ref ++ [.ref x]))) (z := x) (fun k u y a b => (hos k u y a b).ext xM5) (hob4.ext x5)
            generalize upd M4 O (HO.lst (os.map V.ref ++ [.ref x])) = M5 at eO5 C5 eD5 ys5 xM5 ob5 ⊢
            clear x5 ys4 hob4 eD4 eO4 C4 hN4 p4 l4 hE4' hx4 t4' e4 s3 ex3 x1
            refine ⟨_, rfl, Dh, rfl, ⟨_, SqL.of eD5⟩, for_list (K := K) (a := Dh) (xs := ys) (fun j σ H' => (∃ w9 w10 w11 w12 : Option V, σ = [some (.ref a), some (.int n), some (.ref p), some (.ref N), some (.ref D1), some (.ref t), some (.ref O), some (.ref ad.1), some (.ref Dh), w9, w10, w11, w12]) ∧ (∀ b u, M5 b = some u → (∀ (k : Nat) (c : Addr), ys[k]? = some (V.ref c) → b ≠ c) → H' b = some u) ∧ ∀ (k : Nat) (y : V), ys[k]? = some y → ∃ b zs, y = V.ref b ∧ H' b = some (.lst zs) ∧ zs.length ≤ 2 + j)
              ⟨⟨_, _, _, _, rfl⟩, fun b u q _ => q, fun k0 y h => ?_⟩ (fun j σ H' _ h => SqL.of (h.2.1 _ _ eD5 (fun k0 c hc => (nDh hc).symm))) ?_ ?_⟩
            · obtain ⟨b, u, v, h1, h2⟩ := ys5 k0 y h
              exact ⟨b, _, h1, h2, Nat.le_refl _⟩
            · rintro j yj σ M6 hj ⟨⟨w9, w10, w11, w12, rfl⟩, off, hys6⟩
              obtain ⟨b, zs, rfl, eb, lz⟩ := hys6 j yj hj
              have hj12 : j < 12 := by
                have := (List.getElem?_eq_some_iff.mp hj).1
                omega
              refine ⟨_, rfl, .inl ⟨rfl, _, SqL.of eb⟩, b, zs, _, rfl, rfl, eb, by omega, ?_⟩
              refine ⟨⟨_, _, _, _, rfl⟩, fun c u q h => ?_, fun k0 y h => ?_⟩
              · rw [upd_ne (h j b hj)]
                exact off c u q h
              · obtain ⟨c, vs, h1, h2, h3⟩ := hys6 k0 y h
                by_cases e : c = b
                · subst e
                  exact ⟨c, _, h1, upd_same, by rw [List.length_append, List.length_singleton]; omega⟩
                · exact ⟨c, vs, h1, by rw [upd_ne e]; exact h2, by omega⟩
            · rintro σ M6 ⟨⟨w9, w10, w11, w12, rfl⟩, off, hys6⟩
              have nl6 : ∀ b o, M5 b = some o → (∀ xs, o ≠ .lst xs) → M6 b = some o := fun b o q h => off b o q fun k0 c hc z => by
                obtain ⟨b', u, v, h1, h2⟩ := ys5 k0 _ hc
                cases h1
                rw [z, h2] at q
                exact h _ (Option.some.inj q).symm
              have x6 : ExtX M5 M6 := fun b o q h _ => nl6 b o q h
              have ne1 : ∀ b u, M1 b = some u → ∀ (k : Nat) (c : Addr), ys[k]? = some (V.ref c) → b ≠ c := fun b u q k0 c hc => ne_of_none q (fresh hc)
              have C6 : Cell K cs CT P0 Hb p N D1 t ads nds qs (nds.map srtN) (qs.map V.ref) M6 := by
                refine C5.step x6 (tabs_nl C5.tb nl6) (fun b zs q g => ?_) (fun b u q h => ?_) ?_
                · obtain ⟨vs, e⟩ := C1.g_lst g
                  exact off _ _ q (ne1 _ _ e)
                · exact off _ _ (C5.ex _ _ q h) (ne1 _ _ (C1.ex _ _ q h))
                · obtain ⟨o5, e5, d5⟩ := C5.ds
                  obtain ⟨o1, e1, d1⟩ := C1.ds
                  exact ⟨o5, off _ _ e5 (ne1 _ _ e1), d5⟩
              have eO6 := off _ _ eO5 (ne1 _ _ eO1)
              have eD6 := off _ _ eD5 (fun k0 c hc => (nDh hc).symm)
              refine ⟨_, rfl, .inl ⟨rfl, _, SqL.of eD6⟩, (by show 2 ≤ sizeLine; omega), fun Tt hTt => ?_⟩
              have s7 := NG.Same.upd (o := HO.tup [V.str "a", V.int 0]) hTt
              have eD7 := s7 _ _ eD6
              have eO7 := s7 _ _ eO6
              have C7 := C6.same s7
              generalize upd M6 Tt (HO.tup [V.str "a", V.int 0]) = M7 at s7 eD7 eO7 C7 ⊢
              obtain ⟨ngD, npD, nwD⟩ := C1.fresh hDh
              refine ⟨Dh, ys, _, rfl, rfl, eD7, by omega, ?_⟩
              have x8 : ExtX M6 (upd M7 Dh (HO.lst (ys ++ [V.ref Tt]))) := (ExtX.same s7).trans (extX_lst eD7)
              refine ⟨⟨_, _, _, _, _, _, rfl⟩, C7.put eD7 ngD npD nwD, xM.trans (xM5.trans (x6.trans x8)), os ++ [x], by rw [upd_ne nOD.symm]; exact eO7, by rw [List.length_append, osl]; rfl, fun k u y a b => (ob5 k u y a b).ext (x6.trans x8)⟩
          | _ => cases hf
      · rintro σ M ⟨⟨w7, w8, w9, w10, w11, w12, rfl⟩, CM, xM, os, eOM, osl, hos⟩
        have osl : os.length = nds.length := by rw [osl, xl]
        have okS : ∀ x ∈ nds.map srtN, NdOk x := fun x hx => by
          obtain ⟨y, hy1, rfl⟩ := List.mem_map.mp hx
          obtain ⟨i, hi⟩ := List.getElem?_of_mem hy1
          exact srt_ok (okn i y hi)
        have hosS : ∀ {H' : Hp}, ExtX M H' → ∀ (i : Nat) (q : Addr) (x : Nd), os[i]? = some q → (nds.map srtN)[i]? = some x → ObjAt K cs H' q x := fun e i q x hq hx => by
          obtain ⟨y, h1, rfl⟩ := get_srt hx
          exact (hos i q y hq h1).ext e
        have hqsS : ∀ {H' : Hp}, ExtX M H' → ∀ (i : Nat) (q : Addr) (x : Nd), qs[i]? = some q → (nds.map srtN)[i]? = some x → ObjAt K cs H' q x := fun e i q x hq hx => by
          obtain ⟨y, h1, rfl⟩ := get_srt hx
          exact (hOA i q y hq h1).ext (xM.trans e)
        have lsS : os.length = (nds.map srtN).length := by rw [osl, List.length_map]
        have lqS : qs.length = (nds.map srtN).length := by rw [qsl, List.length_map]
        refine ⟨fun b H' => Same M H' ∧ b = false, ?_, ?_⟩
        · refine ⟨_, rfl, O, _, rfl, .inl ⟨SqL.of eOM, fun U hU => ?_⟩⟩
          have sU := NG.Same.upd (o := HO.tup (os.map V.ref)) hU
          have eU : (upd M U (HO.tup (os.map V.ref))) U = some (.tup (os.map V.ref)) := upd_same
          generalize upd M U (HO.tup (os.map V.ref)) = A1 at sU eU ⊢
          refine fun x dx nx ndx nex => ?_
          have s2 := new_ext (C := CT) nx ndx
          have ex2 : (upd (upd A1 dx (.own x)) x (.ins CT dx [])) x = some (.ins CT dx []) := upd_same
          have nx1 : A1 x = none := nx
          generalize upd (upd A1 dx (.own x)) x (.ins CT dx []) = A2 at s2 ex2 ⊢
          have s02 := sU.trans s2
          refine ⟨x, dx, U, os, nds.map srtN, rfl, ex2, SqT.of (s2 _ _ eU), lsS, fun i q y hq hy' => ?_, hWs, by rw [List.length_map]; omega, fun A3 b3 TA => ⟨rfl, ?_⟩⟩
          · have h := hosS (ExtX.same s02) i q y hq hy'
            obtain ⟨_, _, h4, _⟩ := obj_ins (hosS (ExtX.same sU) i q y hq hy')
            exact ⟨h, ne_of_none h4 nx1⟩
          have s3 : Same M A3 := fun b u e => b3 _ _ (s02 _ _ e) (ne_of_none (sU _ _ e) nx1)
          have C3 := CM.same s3
          obtain ⟨dx', T', hx', TRx⟩ := id TA
          obtain ⟨dt', Tn', ht', TRt⟩ := id C3.tr
          have fl' : (fl1 "nodes" (V.ref Tn')).lookup ("nodes" : Str) = some (.ref Tn') := by unfold fl1; rw [lookup_putF, if_pos rfl]
          refine ⟨_, rfl, x, dx', _, .ref CT, rfl, hx', .base (.ins ht' cl TC.c1 TC.c2 TC.c3 TC.c4), nf_self, x, .ref t, os, nds.map srtN, rfl, TA, .inr ⟨t, qs, nds.map srtN, rfl, C3.tr, fun _ _ _ _ => rfl, _, rfl, _, rfl, ?_⟩⟩
          rw [decide_eq_true rfl]
          refine iteF ⟨_, rfl, _, rfl, O, D1, _, _, fun _ => true, rfl, rfl, s3 _ _ eOM, C3.d, (by rw [List.length_map, List.length_map, lsS, lqS]), same_d lsS lqS (hosS (ExtX.same s3)) (hqsS (ExtX.same s3)) okS, _, rfl, ?_⟩
          rw [allTo_true (fun _ _ => rfl)]
          refine iteF ⟨_, rfl, t, CT, dt', _, _, rfl, ht', cl, nn, fl', _, _, _, _, true, rfl, .ty _, sqT_ty TRt.ob.ls, rfl, _, rfl, s3, rfl⟩
        rintro b M2 ⟨s2, rfl⟩
        refine iteF ?_
        have C2 := CM.same s2
        have eO2 := s2 _ _ eOM
        have eD2 := C2.d
        have nD1O : D1 ≠ O := fun z => ngO (.inr (.inl z.symm))
        have npD1 : D1 ≠ p := CM.gp D1 (.inr (.inl rfl))
        have ngD1 : ¬ Gd N O ads nds D1 := fun g => by
          rcases g with z | z | ⟨i, ad, x, h1, h2, h3, z⟩
          · exact nD1N z
          · exact nD1O z
          · have := ND.nds i ad x h1 h2
            cases x with
            | fol o es =>
              obtain ⟨_, ps, e, _⟩ := this
              rw [← z, hD1] at e
              cases e
            | _ => cases h3
        have nwD1 : ∀ u, Hb D1 = some u → (∀ ps, u ≠ .tbl ps) → False := fun u q h => by have := e4 _ _ q h; rw [hD1] at this; cases this
        have CO2 : Cell K cs CT P0 Hb p N O t ads nds qs (nds.map srtN) (os.map V.ref) M2 := by
          refine ⟨C2.nw, fun b g => ?_, C2.ex, C2.tb, C2.ds, C2.nd, eO2, C2.tr⟩
          rcases g with z | z | z
          · exact C2.gp b (.inl z)
          · rw [z]; exact npO
          · exact C2.gp b (.inr (.inr z))
        refine ⟨_, rfl, .inl ⟨rfl, _, SqL.of eD2⟩, fun fx dfx nfx ndfx nefx => ?_⟩
        have sf := new_ext (C := cs 1) nfx ndfx
        have efx : (upd (upd M2 dfx (.own fx)) fx (.ins (cs 1) dfx [])) fx = some (.ins (cs 1) dfx []) := upd_same
        have nfx2 : M2 fx = none := nfx
        generalize upd (upd M2 dfx (.own fx)) fx (.ins (cs 1) dfx []) = M3 at sf efx ⊢
        refine ⟨fx, dfx, .int 0, rfl, efx, rfl, ?_⟩
        have s3 : Same M2 (upd M3 fx (.ins (cs 1) dfx (fl1 "owner" (.int 0)))) := fun b u e => by rw [upd_ne (ne_of_none e nfx2)]; exact sf _ _ e
        have C3 := CO2.same s3
        have eD3 := s3 _ _ eD2
        generalize upd M3 fx (.ins (cs 1) dfx (fl1 "owner" (.int 0))) = M4 at s3 C3 eD3 ⊢
        refine ⟨D1, _, _, rfl, rfl, eD3, (by rw [List.length_map, qsl]; omega), ?_⟩
        have C4 := C3.put (ys := qs.map V.ref ++ [.ref fx]) eD3 ngD1 npD1 nwD1
        have x4 : ExtX M (upd M4 D1 (.lst (qs.map V.ref ++ [.ref fx]))) := (ExtX.same s2).trans ((ExtX.same s3).trans (extX_lst eD3))
        show tSeq _ _ _ _ (upd M4 D1 (.lst (qs.map V.ref ++ [.ref fx])))
        generalize upd M4 D1 (.lst (qs.map V.ref ++ [.ref fx])) = M5 at C4 x4 ⊢
        clear C2 CO2 C3 CM CA s2 s3 sf efx eD2 eD3 nfx2 eO2 nefx ndfx nfx
        refine ⟨fun b H' => Same M5 H' ∧ b = false, ?_, ?_⟩
        · obtain ⟨dt', Tn', ht', TRt⟩ := id C4.tr
          have fl' : (fl1 "nodes" (V.ref Tn')).lookup ("nodes" : Str) = some (.ref Tn') := by unfold fl1; rw [lookup_putF, if_pos rfl]
          refine ⟨_, rfl, t, CT, dt', _, _, rfl, ht', cl, nn, fl', _, rfl, O, _, rfl, .inl ⟨SqL.of C4.d, fun U hU => ?_⟩⟩
          have sU := NG.Same.upd (o := HO.tup (os.map V.ref)) hU
          have eU : (upd M5 U (HO.tup (os.map V.ref))) U = some (.tup (os.map V.ref)) := upd_same
          generalize upd M5 U (HO.tup (os.map V.ref)) = A1 at sU eU ⊢
          have xA : ExtX M A1 := x4.trans (ExtX.same sU)
          have ht1 := sU _ _ ht'
          have TR1 := TRt.same sU
          have C5 := C4.same sU
          refine ⟨Tn', U, _, _, fun _ => true, rfl, rfl, TR1.ob.ls, SqT.of eU, same_d lqS lsS (hqsS xA) (hosS xA) okS, _, rfl, ?_⟩
          rw [List.length_map, List.length_map, qsl, osl, allTo_true (fun _ _ => rfl), Bool.true_and, beq_self_eq_true]
          refine iteF ⟨_, rfl, _, rfl, t, CT, dt', _, _, rfl, ht1, cl, nn, fl', t, dt', _, .type "tuple", rfl, ht1, sqT_ty TR1.ob.ls, nfT, t, .ref Tn', qs, nds.map srtN, rfl, C5.tr, .inl ⟨_, sqT_ty TR1.ob.ls, ktT, _, rfl, _, rfl, ?_⟩⟩
          refine iteF ⟨_, rfl, t, CT, dt', _, _, rfl, ht1, cl, nn, fl', Tn', _, rfl, .inr TR1.ob.ls, _, rfl, N, _, rfl, .inl (SqL.of C5.nd.ls), rfl, _, rfl, sU, ?_⟩
          simp [qsl, ND.len]
        rintro b M6 ⟨s6, rfl⟩
        refine iteF ?_
        have C6 := C4.same s6
        have x6 := x4.trans (ExtX.same s6)
        clear C4 x4 s6
        obtain ⟨o6, ep6, ho6⟩ := C6.ds
        have npos := W.base.nodes
        refine ⟨_, rfl, _, rfl, N, _, rfl, .inl (SqL.of C6.nd.ls), p, _, o6, rfl, (by rw [xl]; omega), (by rw [xl]; omega), ep6, ho6, fun dg o7 g0 g1 ho7 => ?_⟩
        have C7 := C6.dr ((Dr.refl ep6 ho6).next ho7)
        have x7 : ExtX M (upd M6 p o7) := x6.trans (by
          obtain ⟨zs, ez⟩ := dso_lst ho6
          subst ez
          obtain ⟨zs7, ez7⟩ := dso_lst ho7
          subst ez7
          exact extX_lst ep6)
        generalize upd M6 p o7 = M7 at C7 x7 ⊢
        clear C6 x6 ep6
        rw [xl] at g1
        obtain ⟨i, rfl⟩ : ∃ i : Nat, dg = (i : Int) := ⟨dg.toNat, by omega⟩
        have hin : i < nds.length := by omega
        have hnx := List.getElem?_eq_getElem hin
        generalize nds[i] = x at hnx
        have hia : i < ads.length := by rw [ND.len]; exact hin
        have had := List.getElem?_eq_getElem hia
        generalize ads[i] = ad at had
        have hir : (ads.map fun a => V.ref a.1)[i]? = some (V.ref ad.1) := by rw [List.getElem?_map, had]; rfl
        have hNd := C7.nd.nds i ad x had hnx
        have htp := nd_tup hNd
        refine ⟨_, rfl, _, rfl, N, _, _, _, rfl, rfl, SqL.of C7.nd.ls, atI_nat hir, ?_⟩
        refine ⟨_, rfl, ad.1, _, 0, _, rfl, rfl, SqT.of htp, atI_zero, _, rfl, ad.1, _, 1, _, rfl, rfl, SqT.of htp, atI_one, _, _, rfl, rfl, (by show 2 ≤ sizeLine; omega), fun q hq => ?_⟩
        have sq := NG.Same.upd (o := HO.tup [V.str (kindS x), V.int (x.owner + 1)]) hq
        have eq : (upd M7 q (HO.tup [V.str (kindS x), V.int (x.owner + 1)])) q = some (.tup [V.str (kindS x), V.int (x.owner + 1)]) := upd_same
        generalize upd M7 q (HO.tup [V.str (kindS x), V.int (x.owner + 1)]) = A1 at sq eq ⊢
        refine ⟨_, rfl, _, rfl, ad.1, _, rfl, SqT.of (sq _ _ htp), not_whole _ _ _, fun z hz => ?_⟩
        rw [cut_two]
        have sz := NG.Same.upd (o := HO.tup (restV ad.2 x)) hz
        have ez : (upd A1 z (HO.tup (restV ad.2 x))) z = some (.tup (restV ad.2 x)) := upd_same
        have eq2 := sz _ _ eq
        have C2 := (C7.same sq).same sz
        have x2 := (x7.trans (ExtX.same sq)).trans (ExtX.same sz)
        generalize upd A1 z (HO.tup (restV ad.2 x)) = A2 at ez eq2 C2 x2 ⊢
        refine catA_join eq2 (SqT.of ez) (by have : (restV ad.2 x).length ≤ 1 := by cases x <;> simp [restV]
                                             show 2 + (restV ad.2 x).length ≤ sizeLine; omega) (by simp) fun sp A3 s3 esp => ?_
        have C3 := C2.same s3
        have x3 := x2.trans (ExtX.same s3)
        clear C2 x2 eq2 ez sz eq sq htp C7 x7 hz hq s3
        have hsp : NdAt A3 (sp, ad.2) (upO x) := nd_upO (b := ad.1) (C3.nd.nds i ad x had hnx) esp
        have lN := C3.nd.ls
        have lenN : (ads.map fun a => V.ref a.1).length = nds.length := xl
        refine ⟨_, rfl, _, rfl, _, rfl, N, _, rfl, SqL.of lN, fun c1 hc1 => ?_⟩
        rw [cut_to _ (by rw [lenN]; omega)]
        have t1 := NG.Same.upd (o := HO.lst ((ads.map fun a => V.ref a.1).take i)) hc1
        have ec1 : (upd A3 c1 (HO.lst ((ads.map fun a => V.ref a.1).take i))) c1 = some (.lst ((ads.map fun a => V.ref a.1).take i)) := upd_same
        generalize upd A3 c1 (HO.lst ((ads.map fun a => V.ref a.1).take i)) = A4 at t1 ec1 ⊢
        refine ⟨_, rfl, (by show 1 ≤ sizeLine; omega), fun c2 hc2 => ?_⟩
        have t2 := NG.Same.upd (o := HO.lst [V.ref sp]) hc2
        have ec2 : (upd A4 c2 (HO.lst [V.ref sp])) c2 = some (.lst [V.ref sp]) := upd_same
        have ec1 := t2 _ _ ec1
        generalize upd A4 c2 (HO.lst [V.ref sp]) = A5 at t2 ec2 ec1 ⊢
        refine ⟨c1, c2, _, _, rfl, rfl, SqL.of ec1, SqL.of ec2, (by rw [List.length_take, lenN, List.length_singleton]; omega), fun c3 hc3 => ?_⟩
        have t3 := NG.Same.upd (o := HO.lst ((ads.map fun a => V.ref a.1).take i ++ [V.ref sp])) hc3
        have ec3 : (upd A5 c3 (HO.lst ((ads.map fun a => V.ref a.1).take i ++ [V.ref sp]))) c3 = some (.lst ((ads.map fun a => V.ref a.1).take i ++ [V.ref sp])) := upd_same
        generalize upd A5 c3 (HO.lst ((ads.map fun a => V.ref a.1).take i ++ [V.ref sp])) = A6 at t3 ec3 ⊢
        have t123 := t1.trans (t2.trans t3)
        refine ⟨_, rfl, _, rfl, _, _, rfl, rfl, _, rfl, N, _, rfl, SqL.of (t123 _ _ lN), fun c4 hc4 => ?_⟩
        rw [show ((i : Int) + 1) = ((i + 1 : Nat) : Int) from rfl, cut_from _ (by rw [lenN]; omega)]
        have t4 := NG.Same.upd (o := HO.lst ((ads.map fun a => V.ref a.1).drop (i + 1))) hc4
        have ec4 : (upd A6 c4 (HO.lst ((ads.map fun a => V.ref a.1).drop (i + 1)))) c4 = some (.lst ((ads.map fun a => V.ref a.1).drop (i + 1))) := upd_same
        have ec3 := t4 _ _ ec3
        generalize upd A6 c4 (HO.lst ((ads.map fun a => V.ref a.1).drop (i + 1))) = A7 at t4 ec4 ec3 ⊢
        refine ⟨c3, c4, _, _, rfl, rfl, SqL.of ec3, SqL.of ec4, (by rw [List.length_append, List.length_take, List.length_drop, lenN, List.length_singleton]; omega), fun NC hNC => ?_⟩
        rw [cut_set _ _ (by rw [lenN]; exact hin)]
        have t5 := NG.Same.upd (o := HO.lst ((ads.map fun a => V.ref a.1).set i (V.ref sp))) hNC
        have eNC : (upd A7 NC (HO.lst ((ads.map fun a => V.ref a.1).set i (V.ref sp)))) NC = some (.lst ((ads.map fun a => V.ref a.1).set i (V.ref sp))) := upd_same
        generalize upd A7 NC (HO.lst ((ads.map fun a => V.ref a.1).set i (V.ref sp))) = M8 at t5 eNC ⊢
        have s8 := t123.trans (t4.trans t5)
        have C8 := C3.same s8
        have x8 := x3.trans (ExtX.same s8)
        have hsp8 : NdAt M8 (sp, ad.2) (upO x) := by
          refine hsp.mono (fun a xs q => s8 _ _ q) (fun f => ?_)
          cases x with
          | fol o es => obtain ⟨_, ps, e, _⟩ := hsp; rw [e]; exact s8 _ _ e
          | _ => cases f
        have NL : NdsL M8 NC (ads.set i (sp, ad.2)) (nds.set i (upO x)) := by
          refine ⟨by rw [eNC, List.map_set], by rw [List.length_set, List.length_set, ND.len], fun j a y ha hy' => ?_⟩
          by_cases hij : i = j
          · subst hij
            rw [List.getElem?_set, if_pos rfl, if_pos hia] at ha
            rw [List.getElem?_set, if_pos rfl, if_pos hin] at hy'
            cases Option.some.inj ha
            cases Option.some.inj hy'
            exact hsp8
          · rw [List.getElem?_set, if_neg hij] at ha
            rw [List.getElem?_set, if_neg hij] at hy'
            exact C8.nd.nds j a y ha hy'
        have WU := wf_up W hnx
        have lU : (nds.set i (upO x)).length ≤ 1000 := by rw [List.length_set]; omega
        clear t1 t2 t3 t4 t5 t123 s8 C3 x3 ec1 ec2 ec3 ec4 eNC hsp
        have hxok := okn i x hnx
        have hms : (nds.set i (upO x)).map srtN ≠ nds.map srtN := srt_up_ne hnx
        have hio : i < os.length := by omega
        have hoi := List.getElem?_eq_getElem hio
        generalize os[i] = oi at hoi
        have hor : (os.map V.ref)[i]? = some (V.ref oi) := by rw [List.getElem?_map, hoi]; rfl
        have share : ∀ {A B : Hp} {qs2 : List Addr}, Same A A → TreeAt K cs CT A t qs (nds.map srtN) → (∀ x ∈ qs2, Fr A x) → ShareOk qs2 qs ((nds.set i (upO x)).map srtN) (nds.map srtN) := fun {A B qs2} _ TA fr j y h1 h2 => by
          obtain ⟨_, _, _, TRa⟩ := TA
          have hj : j < (nds.map srtN).length := by rw [← TRa.ob.len]; exact (List.getElem?_eq_some_iff.mp h2).1
          obtain ⟨_, _, e, _⟩ := obj_ins (TRa.ob.nds j y _ h2 (List.getElem?_eq_getElem hj))
          obtain ⟨ps, z⟩ := fr y (List.mem_of_getElem? h1) _ e
          cases z
        refine ⟨fun b H' => Cell K cs CT P0 Hb p N O t ads nds qs (nds.map srtN) (os.map V.ref) H' ∧ b = false, ?_, ?_⟩
        · refine ⟨_, rfl, NC, _, _, rfl, NL, WU, lU, C8.tb, fun A1 t2 qs2 e1 tb1 TA fr => ?_⟩
          have C9 := C8.ext e1 tb1
          obtain ⟨dx', T', hx', TRx⟩ := id TA
          obtain ⟨dt', Tn', ht', TRt⟩ := id C9.tr
          have sh1 : ShareOk qs2 qs ((nds.set i (upO x)).map srtN) (nds.map srtN) := share (B := A1) (Same.refl M8) C8.tr fr
          refine ⟨_, rfl, t2, dx', _, .ref CT, rfl, hx', .base (.ins ht' cl TC.c1 TC.c2 TC.c3 TC.c4), nf_self, t2, .ref t, qs2, _, rfl, TA, .inr ⟨t, qs, nds.map srtN, rfl, C9.tr, sh1, _, rfl, _, rfl, ?_⟩⟩
          rw [decide_eq_false hms]
          have NA : NdAt A1 (sp, ad.2) (upO x) := hsp8.mono (fun a xs q => e1 _ _ q (fun _ z => by cases z)) (fun f => by
            cases x with
            | fol o es => obtain ⟨_, ps, e, _⟩ := hsp8; rw [e]; exact e1 _ _ e (fun _ z => by cases z)
            | _ => cases f)
          refine iteF ⟨_, rfl, sp, ad.2, upO x, rfl, NA, by rw [upO_ents]; have := (W.base.uniq i _ hnx).2; omega, tb1, fun A2 z e2 nz tb2 hz => ?_⟩
          have C10 := C9.ext e2 tb2
          have x10 : ExtX M A2 := x8.trans ((ExtX.of e1).trans (ExtX.of e2))
          refine ⟨_, rfl, _, rfl, O, _, _, _, rfl, rfl, SqL.of C10.d, atI_nat hor, ?_⟩
          refine nd_nd TG TE4 hz ((hos i oi x hoi hnx).ext x10) (srt_ok (upO_ok hxok)) (srt_ok hxok) ⟨_, rfl, ?_⟩
          rw [decide_eq_false (upO_srt_ne x)]
          have NL2 : NdsL A2 NC (ads.set i (sp, ad.2)) (nds.set i (upO x)) := by
            have e12 := e1.trans e2
            have tk : ∀ a xs, M8 a = some (.tup xs) → A2 a = some (.tup xs) := fun a xs q => e12 _ _ q (fun _ z => by cases z)
            refine ⟨e12 _ _ NL.ls (fun _ z => by cases z), NL.len, fun j a y ha hy' => ?_⟩
            have h := NL.nds j a y ha hy'
            exact h.mono tk (fun f => by
              cases y with
              | fol o es => obtain ⟨_, ps, e, _⟩ := h; rw [e]; exact e12 _ _ e (fun _ z => by cases z)
              | _ => cases f)
          refine iteF ⟨_, rfl, NC, _, _, rfl, NL2, WU, lU, C10.tb, fun A3 t3 qs3 e3 tb3 TA3 fr3 => ?_⟩
          have C11 := C10.ext e3 tb3
          obtain ⟨dx3, T3, hx3, TRx3⟩ := id TA3
          obtain ⟨dt3, Tn3, ht3, TRt3⟩ := id C11.tr
          have sh2 : ShareOk qs3 qs ((nds.set i (upO x)).map srtN) (nds.map srtN) := share (B := A1) (Same.refl A2) C10.tr fr3
          refine ⟨_, rfl, t3, dx3, _, .ref CT, rfl, hx3, .base (.ins ht3 cl TC.c1 TC.c2 TC.c3 TC.c4), nf_self, t3, .ref t, qs3, _, rfl, TA3, .inr ⟨t, qs, nds.map srtN, rfl, C11.tr, sh2, _, rfl, _, rfl, C11, ?_⟩⟩
          rw [decide_eq_false hms]
          rfl
        rintro b M9 ⟨C9, rfl⟩
        refine iteF ?_
        clear share NL WU lU hsp8 C8
        -- names that are no texts
        refine ⟨_, rfl, p, rfl, C9.ds, C9.tb, fun M10 xd tb10 ds10 => ⟨_, rfl, ?_⟩⟩
        have e10 : ExtN Hb M10 := fun b u q h => xd _ _ (C9.ex _ _ q h) (fun z => nw u (z ▸ q) h) h
        refine iteF ?_
        have okA : PyData.strOk "a" = true := by decide +kernel
        refine ⟨fun b H' => (ExtN Hb H' ∧ Tabs [(P0, qBy)] H') ∧ b = false, ?_, ?_⟩
        · refine fun x1 dx1 nx1 ndx1 nex1 => ⟨x1, dx1, _, rfl, upd_same, rfl, ?_⟩
          have s1 := new_obj (C := cs 1) (fl1 "owner" (V.int 1)) nx1 ndx1
          have q1 : (upd (upd (upd M10 dx1 (.own x1)) x1 (.ins (cs 1) dx1 [])) x1 (.ins (cs 1) dx1 (fl1 "owner" (V.int 1)))) x1 = some (.ins (cs 1) dx1 (fl1 "owner" (V.int 1))) := upd_same
          generalize upd (upd (upd M10 dx1 (.own x1)) x1 (.ins (cs 1) dx1 [])) x1 (.ins (cs 1) dx1 (fl1 "owner" (V.int 1))) = A1 at s1 q1 ⊢
          refine fun x2 dx2 nx2 ndx2 nex2 => ⟨x2, dx2, _, _, rfl, upd_same, rfl, ?_⟩
          have s2 := new_obj2 (C := cs 3) (fl1 "owner" (V.int 1)) (fl2 "owner" "above" (V.int 1) (V.int 0)) nx2 ndx2
          have q2 : (upd (upd (upd (upd A1 dx2 (.own x2)) x2 (.ins (cs 3) dx2 [])) x2 (.ins (cs 3) dx2 (fl1 "owner" (V.int 1)))) x2 (.ins (cs 3) dx2 (fl2 "owner" "above" (V.int 1) (V.int 0)))) x2 = some (.ins (cs 3) dx2 (fl2 "owner" "above" (V.int 1) (V.int 0))) := upd_same
          generalize upd (upd (upd (upd A1 dx2 (.own x2)) x2 (.ins (cs 3) dx2 [])) x2 (.ins (cs 3) dx2 (fl1 "owner" (V.int 1)))) x2 (.ins (cs 3) dx2 (fl2 "owner" "above" (V.int 1) (V.int 0))) = A2 at s2 q2 ⊢
          have o1 : ObjAt K cs A2 x1 (.fil 1) := ⟨dx1, s2 _ _ q1⟩
          have o2 : ObjAt K cs A2 x2 (.gon 1 0) := ⟨dx2, q2⟩
          refine nd_nd TG TE4 o1 o2 True.intro True.intro ⟨_, rfl, ?_⟩
          rw [decide_eq_false (by intro h; cases h)]
          refine iteF ?_
          refine fun x3 dx3 nx3 ndx3 nex3 => ⟨x3, dx3, _, _, rfl, upd_same, rfl, ?_⟩
          have s3 := new_obj2 (C := cs 2) (fl1 "owner" (V.int 1)) (fl2 "owner" "text" (V.int 1) (V.str "a")) nx3 ndx3
          have q3 : (upd (upd (upd (upd A2 dx3 (.own x3)) x3 (.ins (cs 2) dx3 [])) x3 (.ins (cs 2) dx3 (fl1 "owner" (V.int 1)))) x3 (.ins (cs 2) dx3 (fl2 "owner" "text" (V.int 1) (V.str "a")))) x3 = some (.ins (cs 2) dx3 (fl2 "owner" "text" (V.int 1) (V.str "a"))) := upd_same
          generalize upd (upd (upd (upd A2 dx3 (.own x3)) x3 (.ins (cs 2) dx3 [])) x3 (.ins (cs 2) dx3 (fl1 "owner" (V.int 1)))) x3 (.ins (cs 2) dx3 (fl2 "owner" "text" (V.int 1) (V.str "a"))) = A3 at s3 q3 ⊢
          refine fun x4 dx4 nx4 ndx4 nex4 => ⟨x4, dx4, _, rfl, upd_same, rfl, ?_⟩
          have s4 := new_obj (C := cs 1) (fl1 "owner" (V.int 1)) nx4 ndx4
          have q4 : (upd (upd (upd A3 dx4 (.own x4)) x4 (.ins (cs 1) dx4 [])) x4 (.ins (cs 1) dx4 (fl1 "owner" (V.int 1)))) x4 = some (.ins (cs 1) dx4 (fl1 "owner" (V.int 1))) := upd_same
          generalize upd (upd (upd A3 dx4 (.own x4)) x4 (.ins (cs 1) dx4 [])) x4 (.ins (cs 1) dx4 (fl1 "owner" (V.int 1))) = A4 at s4 q4 ⊢
          have o3 : ObjAt K cs A4 x3 (.lnk 1 "a") := ⟨dx3, s4 _ _ q3⟩
          have o4 : ObjAt K cs A4 x4 (.fil 1) := ⟨dx4, q4⟩
          refine nd_nd TG TE4 o3 o4 okA True.intro ⟨_, rfl, ?_⟩
          rw [decide_eq_false (by intro h; cases h)]
          refine iteF ?_
          have s14 := ((s1.trans s2).trans s3).trans s4
          have tb4 := tb10.ext s14
          refine ⟨(by show 0 ≤ sizeLine; omega), fun l hl0 => ?_⟩
          have sl := NG.Same.upd (o := HO.lst []) hl0
          have el : (upd A4 l (HO.lst [])) l = some (.lst []) := upd_same
          generalize upd A4 l (HO.lst []) = A5 at sl el ⊢
          refine fun y dy ny ndy ney => ?_
          have sy := new_ext (C := cs 0) ny ndy
          have ey : (upd (upd A5 dy (.own y)) y (.ins (cs 0) dy [])) y = some (.ins (cs 0) dy []) := upd_same
          have ny5 : A5 y = none := ny
          generalize upd (upd A5 dy (.own y)) y (.ins (cs 0) dy []) = A6 at sy ey ⊢
          refine ⟨y, dy, .int 1, l, [], [], rfl, ey, tb4.ext (sl.trans sy), SqL.of (sy _ _ el), ⟨rfl, fun i x e h => by cases h⟩, by show 0 < sizeLine; omega, fun A7 E qs7 e7 tb7 hy7 hE7 l7 p7 => ⟨rfl, ?_⟩⟩
          have n7 : ExtN A5 A7 := fun b u q h => e7 _ _ (sy _ _ q) (ne_of_none q ny5) h
          have o5' : ObjAt K cs A7 y (.fol 1 []) := ⟨dy, E, qs7, hy7, hE7, l7, fun k p e a b => by cases b⟩
          refine fun x8 dx8 nx8 ndx8 nex8 => ⟨x8, dx8, _, rfl, upd_same, rfl, ?_⟩
          have s8 := new_obj (C := cs 1) (fl1 "owner" (V.int 1)) nx8 ndx8
          have q8 : (upd (upd (upd A7 dx8 (.own x8)) x8 (.ins (cs 1) dx8 [])) x8 (.ins (cs 1) dx8 (fl1 "owner" (V.int 1)))) x8 = some (.ins (cs 1) dx8 (fl1 "owner" (V.int 1))) := upd_same
          generalize upd (upd (upd A7 dx8 (.own x8)) x8 (.ins (cs 1) dx8 [])) x8 (.ins (cs 1) dx8 (fl1 "owner" (V.int 1))) = A8 at s8 q8 ⊢
          have o8 : ObjAt K cs A8 x8 (.fil 1) := ⟨dx8, q8⟩
          refine nd_nd TG TE4 (o5'.same s8) o8 (fun e he => by cases he) True.intro ⟨_, rfl, ?_⟩
          rw [decide_eq_false (by intro h; cases h)]
          refine iteF ?_
          refine fun x9 dx9 nx9 ndx9 nex9 => ⟨x9, dx9, _, rfl, upd_same, rfl, ?_⟩
          have s9 := new_obj (C := cs 1) (fl1 "owner" (V.int 1)) nx9 ndx9
          have q9 : (upd (upd (upd A8 dx9 (.own x9)) x9 (.ins (cs 1) dx9 [])) x9 (.ins (cs 1) dx9 (fl1 "owner" (V.int 1)))) x9 = some (.ins (cs 1) dx9 (fl1 "owner" (V.int 1))) := upd_same
          generalize upd (upd (upd A8 dx9 (.own x9)) x9 (.ins (cs 1) dx9 [])) x9 (.ins (cs 1) dx9 (fl1 "owner" (V.int 1))) = A9 at s9 q9 ⊢
          have o9 : ObjAt K cs A9 x9 (.fil 1) := ⟨dx9, q9⟩
          refine nd_int o9 True.intro nfI ktI ⟨_, rfl, ⟨?_, (tb7.ext s8).ext s9⟩, rfl⟩
          exact e10.trans ((NG.ExtN.same (s14.trans sl)).trans (n7.trans (NG.ExtN.same (s8.trans s9))))
        rintro b M11 ⟨⟨e11, tb11⟩, rfl⟩
        exact iteF ⟨⟨_, _, _, _, _, _, _, _, _, _, _, _, rfl⟩, e11, tb11⟩
    · rintro σ M ⟨_, _, _⟩
      exact k _
end
end NW

set_option maxRecDepth 100000
set_option maxHeartbeats 8000000
namespace NW
open PySem PySem.Spec PyProof.Rows L2 NG TR LamX
/-! ### the end, with the table of one def that holds a lambda -/
theorem walk_tab {l : PySem.W.OpenLaw} {n k : Nat} {q : Program} {loose : List Str} {XP : (Str → Option Value) → Heap → Prop} {YP : World → Heap → Prop} {d : DefRec} {K : Params → PySem.W.Frag} {CX : World → CXT} {x y : Str}
    (hn : l.most = some n) (hn2 : n ≤ sizeLine) (hdf : d.params.defaults = []) (hr : Room k callerA) (hrec : ((recsOf q).find? fun e => e.name == y).isSome = true) (hY : ∀ (w : World) (h : Heap), YP w h → (K w.params).In h)
    (F : ∀ (w : World) (mg : Str → Option Value) (fa : Addr) (h : Heap), YP w h → (K w.params).In h → h.Ns mainGlobals mg → mg d.name = some (.ref fa) → (∀ c P, PySem.W.tabIn (K w.params) y = some (c, P) → PySem.W.CodeHd h c P ∧ h.get? P = some (PySem.W.tabObj #[])) → LawAtS l w (K w.params) (CX w) k n x mg fa h)
    (hCX : ∀ (w : World) (H : Hp) (s : Shared) (e : Value) (s' : Shared), CX w [] H s (fun _ _ _ => False) e s' → False) :
    PySem.W.WalkO q loose XP YP l.row.toRowW d [] (fun f vs => PySem.call f vs) := by
  refine Att.attach_callB hn hdf fun w s₀ s₁ mg mb fa o pm cd doc a vs ns G Y ho hd hcd hmg hobj hints hlen hbits hg => ?_
  have KX := hY w _ Y
  obtain ⟨dL, hdL⟩ := Option.isSome_iff_exists.mp hrec
  obtain ⟨fd, cs, sp, hT, nT, C, hb, hsp, hF⟩ := F w mg fa _ Y KX G.T.g hmg fun c P ht => PySem.W.tab_of G.T KX hdL ht
  exact law_callTs KX G.T.g G.T.b G.T.builtins G.T.nolimit hg hT nT C G.T.bmain hobj hints (Nat.le_trans hlen hn2) hr hF hb (fun H hH hS => hsp H a ns hlen hbits hH hS) fun H e s' => hCX w H s₁ e s'
theorem one1 {α : Type} {p : α → Prop} {a : α} (h : p a) : ∀ b ∈ [a], p b := fun b hb => by rw [List.mem_singleton.mp hb]; exact h
def quad (a b c d : Addr) : Nat → Addr
  | 0 => a
  | 1 => b
  | 2 => c
  | _ => d
theorem all4 {p : Nat → Prop} (h0 : p 0) (h1 : p 1) (h2 : p 2) (h3 : p 3) : ∀ i, i < 4 → p i
  | 0, _ => h0
  | 1, _ => h1
  | 2, _ => h2
  | 3, _ => h3
  | _ + 4, h => absurd h (by omega)
theorem all44 {p : Nat → Nat → Prop} (a0 : p 0 0) (a1 : p 0 1) (a2 : p 0 2) (a3 : p 0 3) (b0 : p 1 0) (b1 : p 1 1) (b2 : p 1 2) (b3 : p 1 3) (c0 : p 2 0) (c1 : p 2 1) (c2 : p 2 2) (c3 : p 2 3) (d0 : p 3 0) (d1 : p 3 1) (d2 : p 3 2) (d3 : p 3 3) : ∀ i j, i < 4 → j < 4 → p i j := fun i j hi hj =>
  all4 (p := fun i => p i j) (all4 (p := p 0) a0 a1 a2 a3 j hj) (all4 (p := p 1) b0 b1 b2 b3 j hj) (all4 (p := p 2) c0 c1 c2 c3 j hj) (all4 (p := p 3) d0 d1 d2 d3 j hj) i hi
theorem tabIn_of {K : PySem.W.Frag} {y : Str} {f c P : Addr} {oc : Value} {od : Option Addr} {fd : FuncData} {sl sl' : Array (Option Value)} {e : Value} {dd : Option Addr} {vs : Array Value} (a : PySem.W.nsIn K mainGlobals y = some (some (.ref f))) (b : K.lookup f = some ⟨oc, od, .func fd, sl⟩) (c1 : fd.code = .ref c)
    (l : K.lookup c = some ⟨e, dd, .fields vs, sl'⟩) (v : vs[11]? = some (.ref P)) : PySem.W.tabIn K y = some (c, P) := by
  unfold PySem.W.tabIn
  rw [a]
  dsimp only
  rw [b]
  dsimp only
  rw [c1]
  dsimp only
  rw [l]
  dsimp only
  rw [v]
theorem kit_own {K : PySem.W.Frag} {C : Addr} {t : Value} (hh : PySem.W.hasDictIn K C = true) (ht : PySem.W.typeIn K (.ref C) = some (.type "type")) (hs : PySem.W.subIn K t (.ref C) = some false) (hn : (t == .ref C) = false) : PySem.W.kitOne K t (.ref C) = some false := by
  have hc : (PySem.W.clsIn K C).isSome = true := by
    obtain ⟨cd, hc, _⟩ := PySem.W.any_some hh
    rw [hc]
    rfl
  unfold PySem.W.kitOne
  rw [hn]
  show (if ((PySem.W.clsIn K C).isSome && PySem.W.typeIn K (.ref C) == some (.type "type")) = true then PySem.W.subIn K t (.ref C) else none) = some false
  rw [hc, ht, hs]
  rfl
theorem nal_nil {K : PySem.W.Frag} {C : Addr} : ∀ n ∈ ([] : List Str), NoAttr K C n := fun n h => by cases h
theorem nal_cons {K : PySem.W.Frag} {C : Addr} {a : Str} {l : List Str} (h : NoAttr K C a) (t : ∀ n ∈ l, NoAttr K C n) : ∀ n ∈ a :: l, NoAttr K C n := fun n hn => by
  rcases List.mem_cons.mp hn with rfl | hn
  · exact h
  · exact t n hn
section
variable {K : PySem.W.Frag}
theorem nfT {C : Addr} {t : Value} (h : PySem.W.subIn K t (.ref C) = some false) : PySem.W.notFirst K C t = true := by
  unfold PySem.W.notFirst
  rw [h]
  simp
end
theorem all_mk {l : PySem.W.OpenLaw} {w : World} {K : PySem.W.Frag} {h : Heap} {mg : Str → Option Value} {fa C0 C1 C2 C3 CT fName fStep fBad fNum fOwner fAt fPool fTxt fFree fState fDigit fNodes fI0 fI1 fI2 fI3 fTI fQ0 fQ1 fQ2 fQ3 fQ4 fMay fStood fFF fBy c0 P0 fMade fWE fWN fET fCN fCF fTree fTu fFl fDu fOd fLaw : Addr} (X : K.In h) (G : h.Ns mainGlobals mg) (hfa : mg "law" = some (.ref fa)) {tLN tLL tRO : Tok} {od_fName an_fName od_fStep an_fStep od_fBad an_fBad od_fNum an_fNum od_fOwner an_fOwner od_fAt an_fAt od_fPool an_fPool od_fTxt an_fTxt od_fFree an_fFree od_fState an_fState od_fDigit an_fDigit od_fNodes an_fNodes od_fI0 an_fI0 od_fI1 an_fI1 od_fI2 an_fI2 od_fI3 an_fI3 od_fTI an_fTI od_fQ0 an_fQ0 od_fQ1 an_fQ1 od_fQ2 an_fQ2 od_fQ3 an_fQ3 od_fQ4 an_fQ4 od_fMay an_fMay od_fStood an_fStood od_fFF an_fFF od_fBy an_fBy dB od_fMade an_fMade od_fWE an_fWE od_fWN an_fWN od_fET an_fET od_fCN an_fCN od_fCF an_fCF od_fTree an_fTree od_fTu an_fTu od_fFl an_fFl od_fDu an_fDu od_fOd an_fOd od_fLaw an_fLaw : Option Addr} {sl_fName sl_fStep sl_fBad sl_fNum sl_fOwner sl_fAt sl_fPool sl_fTxt sl_fFree sl_fState sl_fDigit sl_fNodes sl_fI0 sl_fI1 sl_fI2 sl_fI3 sl_fTI sl_fQ0 sl_fQ1 sl_fQ2 sl_fQ3 sl_fQ4 sl_fMay sl_fStood sl_fFF sl_fBy slB sl_fMade sl_fWE sl_fWN sl_fET sl_fCN sl_fCF sl_fTree sl_fTu sl_fFl sl_fDu sl_fOd sl_fLaw : Array (Option Value)} {oc_fName kV_fName dc_fName pm_fName cd_fName ct_fName oc_fStep kV_fStep dc_fStep pm_fStep cd_fStep ct_fStep oc_fBad kV_fBad dc_fBad pm_fBad cd_fBad ct_fBad oc_fNum kV_fNum dc_fNum pm_fNum cd_fNum ct_fNum oc_fOwner kV_fOwner dc_fOwner pm_fOwner cd_fOwner ct_fOwner oc_fAt kV_fAt dc_fAt pm_fAt cd_fAt ct_fAt oc_fPool kV_fPool dc_fPool pm_fPool cd_fPool ct_fPool oc_fTxt kV_fTxt dc_fTxt pm_fTxt cd_fTxt ct_fTxt oc_fFree kV_fFree dc_fFree pm_fFree cd_fFree ct_fFree oc_fState kV_fState dc_fState pm_fState cd_fState ct_fState oc_fDigit kV_fDigit dc_fDigit pm_fDigit cd_fDigit ct_fDigit oc_fNodes kV_fNodes dc_fNodes pm_fNodes cd_fNodes ct_fNodes oc_fI0 kV_fI0 dc_fI0 pm_fI0 cd_fI0 ct_fI0 oc_fI1 kV_fI1 dc_fI1 pm_fI1 cd_fI1 ct_fI1 oc_fI2 kV_fI2 dc_fI2 pm_fI2 cd_fI2 ct_fI2 oc_fI3 kV_fI3 dc_fI3 pm_fI3 cd_fI3 ct_fI3 oc_fTI kV_fTI dc_fTI pm_fTI cd_fTI ct_fTI oc_fQ0 kV_fQ0 dc_fQ0 pm_fQ0 cd_fQ0 ct_fQ0 oc_fQ1 kV_fQ1 dc_fQ1 pm_fQ1 cd_fQ1 ct_fQ1 oc_fQ2 kV_fQ2 dc_fQ2 pm_fQ2 cd_fQ2 ct_fQ2 oc_fQ3 kV_fQ3 dc_fQ3 pm_fQ3 cd_fQ3 ct_fQ3 oc_fQ4 kV_fQ4 dc_fQ4 pm_fQ4 cd_fQ4 ct_fQ4 oc_fMay kV_fMay dc_fMay pm_fMay cd_fMay ct_fMay oc_fStood kV_fStood dc_fStood pm_fStood cd_fStood ct_fStood oc_fFF kV_fFF dc_fFF pm_fFF cd_fFF ct_fFF oc_fBy kV_fBy dc_fBy pm_fBy cd_fBy ct_fBy eB oc_fMade kV_fMade dc_fMade pm_fMade cd_fMade ct_fMade oc_fWE kV_fWE dc_fWE pm_fWE cd_fWE ct_fWE oc_fWN kV_fWN dc_fWN pm_fWN cd_fWN ct_fWN oc_fET kV_fET dc_fET pm_fET cd_fET ct_fET oc_fCN kV_fCN dc_fCN pm_fCN cd_fCN ct_fCN oc_fCF kV_fCF dc_fCF pm_fCF cd_fCF ct_fCF oc_fTree kV_fTree dc_fTree pm_fTree cd_fTree ct_fTree oc_fTu kV_fTu dc_fTu pm_fTu cd_fTu ct_fTu oc_fFl kV_fFl dc_fFl pm_fFl cd_fFl ct_fFl oc_fDu kV_fDu dc_fDu pm_fDu cd_fDu ct_fDu oc_fOd kV_fOd dc_fOd pm_fOd cd_fOd ct_fOd oc_fLaw kV_fLaw dc_fLaw pm_fLaw cd_fLaw ct_fLaw : Value} {vsB : Array Value}
    (tb : ∀ c P, PySem.W.tabIn K "by_names" = some (c, P) → PySem.W.CodeHd h c P ∧ h.get? P = some (PySem.W.tabObj #[]))
    (a_C0 : PySem.W.nsIn K mainGlobals "Folder" = some (some (.ref C0)))
    (k_C0 : PySem.W.keepIn K (.ref C0) = true)
    (pg_C0 : PySem.W.plainGet K C0 Str.empty = true)
    (hd_C0 : PySem.W.hasDictIn K C0 = true)
    (po_C0 : PySem.W.plainOver K C0 = true)
    (sa_C0 : PySem.W.findIn K (.ref C0) "__setattr__" = some (some (.builtin "object.__setattr__")))
    (mk_C0 : PySem.W.makesIn K C0 = true)
    (na_C0_owner : PySem.W.findIn K (.ref C0) "owner" = some none)
    (na_C0_entries : PySem.W.findIn K (.ref C0) "entries" = some none)
    (e3_C0 : PySem.W.mroIn K C0 (.type "object") = some true)
    (e1_C0 : PySem.W.findIn K (.ref C0) "__class__" = some (some (.builtin "object.__class__")))
    (tp_C0 : PySem.W.typeIn K (.ref C0) = some (.type "type"))
    (a_C1 : PySem.W.nsIn K mainGlobals "File" = some (some (.ref C1)))
    (k_C1 : PySem.W.keepIn K (.ref C1) = true)
    (pg_C1 : PySem.W.plainGet K C1 Str.empty = true)
    (hd_C1 : PySem.W.hasDictIn K C1 = true)
    (po_C1 : PySem.W.plainOver K C1 = true)
    (sa_C1 : PySem.W.findIn K (.ref C1) "__setattr__" = some (some (.builtin "object.__setattr__")))
    (mk_C1 : PySem.W.makesIn K C1 = true)
    (na_C1_owner : PySem.W.findIn K (.ref C1) "owner" = some none)
    (e3_C1 : PySem.W.mroIn K C1 (.type "object") = some true)
    (e1_C1 : PySem.W.findIn K (.ref C1) "__class__" = some (some (.builtin "object.__class__")))
    (tp_C1 : PySem.W.typeIn K (.ref C1) = some (.type "type"))
    (a_C2 : PySem.W.nsIn K mainGlobals "Link" = some (some (.ref C2)))
    (k_C2 : PySem.W.keepIn K (.ref C2) = true)
    (pg_C2 : PySem.W.plainGet K C2 Str.empty = true)
    (hd_C2 : PySem.W.hasDictIn K C2 = true)
    (po_C2 : PySem.W.plainOver K C2 = true)
    (sa_C2 : PySem.W.findIn K (.ref C2) "__setattr__" = some (some (.builtin "object.__setattr__")))
    (mk_C2 : PySem.W.makesIn K C2 = true)
    (na_C2_owner : PySem.W.findIn K (.ref C2) "owner" = some none)
    (na_C2_text : PySem.W.findIn K (.ref C2) "text" = some none)
    (e3_C2 : PySem.W.mroIn K C2 (.type "object") = some true)
    (e1_C2 : PySem.W.findIn K (.ref C2) "__class__" = some (some (.builtin "object.__class__")))
    (tp_C2 : PySem.W.typeIn K (.ref C2) = some (.type "type"))
    (a_C3 : PySem.W.nsIn K mainGlobals "Gone" = some (some (.ref C3)))
    (k_C3 : PySem.W.keepIn K (.ref C3) = true)
    (pg_C3 : PySem.W.plainGet K C3 Str.empty = true)
    (hd_C3 : PySem.W.hasDictIn K C3 = true)
    (po_C3 : PySem.W.plainOver K C3 = true)
    (sa_C3 : PySem.W.findIn K (.ref C3) "__setattr__" = some (some (.builtin "object.__setattr__")))
    (mk_C3 : PySem.W.makesIn K C3 = true)
    (na_C3_owner : PySem.W.findIn K (.ref C3) "owner" = some none)
    (na_C3_above : PySem.W.findIn K (.ref C3) "above" = some none)
    (e3_C3 : PySem.W.mroIn K C3 (.type "object") = some true)
    (e1_C3 : PySem.W.findIn K (.ref C3) "__class__" = some (some (.builtin "object.__class__")))
    (tp_C3 : PySem.W.typeIn K (.ref C3) = some (.type "type"))
    (s_01 : PySem.W.subIn K (.ref C0) (.ref C1) = some false)
    (n_01 : ((Value.ref C0) == .ref C1) = false)
    (s_02 : PySem.W.subIn K (.ref C0) (.ref C2) = some false)
    (n_02 : ((Value.ref C0) == .ref C2) = false)
    (s_03 : PySem.W.subIn K (.ref C0) (.ref C3) = some false)
    (n_03 : ((Value.ref C0) == .ref C3) = false)
    (s_10 : PySem.W.subIn K (.ref C1) (.ref C0) = some false)
    (n_10 : ((Value.ref C1) == .ref C0) = false)
    (s_12 : PySem.W.subIn K (.ref C1) (.ref C2) = some false)
    (n_12 : ((Value.ref C1) == .ref C2) = false)
    (s_13 : PySem.W.subIn K (.ref C1) (.ref C3) = some false)
    (n_13 : ((Value.ref C1) == .ref C3) = false)
    (s_20 : PySem.W.subIn K (.ref C2) (.ref C0) = some false)
    (n_20 : ((Value.ref C2) == .ref C0) = false)
    (s_21 : PySem.W.subIn K (.ref C2) (.ref C1) = some false)
    (n_21 : ((Value.ref C2) == .ref C1) = false)
    (s_23 : PySem.W.subIn K (.ref C2) (.ref C3) = some false)
    (n_23 : ((Value.ref C2) == .ref C3) = false)
    (s_30 : PySem.W.subIn K (.ref C3) (.ref C0) = some false)
    (n_30 : ((Value.ref C3) == .ref C0) = false)
    (s_31 : PySem.W.subIn K (.ref C3) (.ref C1) = some false)
    (n_31 : ((Value.ref C3) == .ref C1) = false)
    (s_32 : PySem.W.subIn K (.ref C3) (.ref C2) = some false)
    (n_32 : ((Value.ref C3) == .ref C2) = false)
    (c2 : PySem.W.specialIn K (.builtin "object.__class__") "__get__" = some (some (.builtin "getset_descriptor.__get__")))
    (c3 : PySem.W.takesIn K (.builtin "object.__class__") = some true)
    (a_CT : PySem.W.nsIn K mainGlobals "Tree" = some (some (.ref CT)))
    (k_CT : PySem.W.keepIn K (.ref CT) = true)
    (pg_CT : PySem.W.plainGet K CT Str.empty = true)
    (hd_CT : PySem.W.hasDictIn K CT = true)
    (po_CT : PySem.W.plainOver K CT = true)
    (sa_CT : PySem.W.findIn K (.ref CT) "__setattr__" = some (some (.builtin "object.__setattr__")))
    (mk_CT : PySem.W.makesIn K CT = true)
    (na_CT_nodes : PySem.W.findIn K (.ref CT) "nodes" = some none)
    (e3_CT : PySem.W.mroIn K CT (.type "object") = some true)
    (e1_CT : PySem.W.findIn K (.ref CT) "__class__" = some (some (.builtin "object.__class__")))
    (tp_CT : PySem.W.typeIn K (.ref CT) = some (.type "type"))
    (ob_0 : PySem.W.subIn K (.ref C0) (.type "object") = some true)
    (ne_0 : PySem.W.findIn K (.ref C0) "__ne__" = some (some (.builtin "object.__ne__")))
    (ob_1 : PySem.W.subIn K (.ref C1) (.type "object") = some true)
    (ne_1 : PySem.W.findIn K (.ref C1) "__ne__" = some (some (.builtin "object.__ne__")))
    (ob_2 : PySem.W.subIn K (.ref C2) (.type "object") = some true)
    (ne_2 : PySem.W.findIn K (.ref C2) "__ne__" = some (some (.builtin "object.__ne__")))
    (ob_3 : PySem.W.subIn K (.ref C3) (.type "object") = some true)
    (ne_3 : PySem.W.findIn K (.ref C3) "__ne__" = some (some (.builtin "object.__ne__")))
    (ob_4 : PySem.W.subIn K (.ref CT) (.type "object") = some true)
    (ne_4 : PySem.W.findIn K (.ref CT) "__ne__" = some (some (.builtin "object.__ne__")))
    (st_T : PySem.W.subIn K (.type "tuple") (.ref CT) = some false)
    (si_1 : PySem.W.subIn K (.type "int") (.ref C1) = some false)
    (gLN : PySem.W.nsIn K mainGlobals "LONGEST_NAME" = some (some (.int 12 tLN)))
    (gLL : PySem.W.nsIn K mainGlobals "NAME_LETTERS" = some (some (.str letters tLL)))
    (gRO : PySem.W.nsIn K mainGlobals "ROOT" = some (some (.int 0 tRO)))
    (z_isinstance : PySem.W.nsIn K mainGlobals "isinstance" = some none)
    (z_str : PySem.W.nsIn K mainGlobals "str" = some none)
    (z_len : PySem.W.nsIn K mainGlobals "len" = some none)
    (z_all : PySem.W.nsIn K mainGlobals "all" = some none)
    (z_int : PySem.W.nsIn K mainGlobals "int" = some none)
    (z_abs : PySem.W.nsIn K mainGlobals "abs" = some none)
    (z_tuple : PySem.W.nsIn K mainGlobals "tuple" = some none)
    (z_range : PySem.W.nsIn K mainGlobals "range" = some none)
    (z_bool : PySem.W.nsIn K mainGlobals "bool" = some none)
    (z_min : PySem.W.nsIn K mainGlobals "min" = some none)
    (z_sorted : PySem.W.nsIn K mainGlobals "sorted" = some none)
    (z_enumerate : PySem.W.nsIn K mainGlobals "enumerate" = some none)
    (z_set : PySem.W.nsIn K mainGlobals "set" = some none)
    (z_list : PySem.W.nsIn K mainGlobals "list" = some none)
    (a_fName : PySem.W.nsIn K mainGlobals "is_name" = some (some (.ref fName)))
    (l_fName : K.lookup fName = some ⟨oc_fName, od_fName, .func (PySem.W.fnOf "is_name" "is_name" (defArgs sName) (defBody sName) (defScope sName) .none kV_fName dc_fName pm_fName an_fName cd_fName ct_fName), sl_fName⟩)
    (c_fName : PySem.W.codeIn K cd_fName "is_name" = true)
    (k_fName : PySem.W.keepIn K (.ref fName) = true)
    (a_fStep : PySem.W.nsIn K mainGlobals "is_step" = some (some (.ref fStep)))
    (l_fStep : K.lookup fStep = some ⟨oc_fStep, od_fStep, .func (PySem.W.fnOf "is_step" "is_step" (defArgs sStep) (defBody sStep) (defScope sStep) .none kV_fStep dc_fStep pm_fStep an_fStep cd_fStep ct_fStep), sl_fStep⟩)
    (c_fStep : PySem.W.codeIn K cd_fStep "is_step" = true)
    (k_fStep : PySem.W.keepIn K (.ref fStep) = true)
    (a_fBad : PySem.W.nsIn K mainGlobals "bad_place" = some (some (.ref fBad)))
    (l_fBad : K.lookup fBad = some ⟨oc_fBad, od_fBad, .func (PySem.W.fnOf "bad_place" "bad_place" (defArgs sBad) (defBody sBad) (defScope sBad) .none kV_fBad dc_fBad pm_fBad an_fBad cd_fBad ct_fBad), sl_fBad⟩)
    (c_fBad : PySem.W.codeIn K cd_fBad "bad_place" = true)
    (k_fBad : PySem.W.keepIn K (.ref fBad) = true)
    (a_fNum : PySem.W.nsIn K mainGlobals "is_number" = some (some (.ref fNum)))
    (l_fNum : K.lookup fNum = some ⟨oc_fNum, od_fNum, .func (PySem.W.fnOf "is_number" "is_number" (defArgs sNum) (defBody sNum) (defScope sNum) .none kV_fNum dc_fNum pm_fNum an_fNum cd_fNum ct_fNum), sl_fNum⟩)
    (c_fNum : PySem.W.codeIn K cd_fNum "is_number" = true)
    (k_fNum : PySem.W.keepIn K (.ref fNum) = true)
    (a_fOwner : PySem.W.nsIn K mainGlobals "is_owner" = some (some (.ref fOwner)))
    (l_fOwner : K.lookup fOwner = some ⟨oc_fOwner, od_fOwner, .func (PySem.W.fnOf "is_owner" "is_owner" (defArgs sOwner) (defBody sOwner) (defScope sOwner) .none kV_fOwner dc_fOwner pm_fOwner an_fOwner cd_fOwner ct_fOwner), sl_fOwner⟩)
    (c_fOwner : PySem.W.codeIn K cd_fOwner "is_owner" = true)
    (k_fOwner : PySem.W.keepIn K (.ref fOwner) = true)
    (a_fAt : PySem.W.nsIn K mainGlobals "is_at" = some (some (.ref fAt)))
    (l_fAt : K.lookup fAt = some ⟨oc_fAt, od_fAt, .func (PySem.W.fnOf "is_at" "is_at" (defArgs sAt) (defBody sAt) (defScope sAt) .none kV_fAt dc_fAt pm_fAt an_fAt cd_fAt ct_fAt), sl_fAt⟩)
    (c_fAt : PySem.W.codeIn K cd_fAt "is_at" = true)
    (k_fAt : PySem.W.keepIn K (.ref fAt) = true)
    (a_fPool : PySem.W.nsIn K mainGlobals "_law_pool" = some (some (.ref fPool)))
    (l_fPool : K.lookup fPool = some ⟨oc_fPool, od_fPool, .func (PySem.W.fnOf "_law_pool" "_law_pool" (defArgs sPool) (defBody sPool) (defScope sPool) .none kV_fPool dc_fPool pm_fPool an_fPool cd_fPool ct_fPool), sl_fPool⟩)
    (c_fPool : PySem.W.codeIn K cd_fPool "_law_pool" = true)
    (k_fPool : PySem.W.keepIn K (.ref fPool) = true)
    (a_fTxt : PySem.W.nsIn K mainGlobals "_law_text" = some (some (.ref fTxt)))
    (l_fTxt : K.lookup fTxt = some ⟨oc_fTxt, od_fTxt, .func (PySem.W.fnOf "_law_text" "_law_text" (defArgs sTxt) (defBody sTxt) (defScope sTxt) .none kV_fTxt dc_fTxt pm_fTxt an_fTxt cd_fTxt ct_fTxt), sl_fTxt⟩)
    (c_fTxt : PySem.W.codeIn K cd_fTxt "_law_text" = true)
    (k_fTxt : PySem.W.keepIn K (.ref fTxt) = true)
    (a_fFree : PySem.W.nsIn K mainGlobals "_law_free_name" = some (some (.ref fFree)))
    (l_fFree : K.lookup fFree = some ⟨oc_fFree, od_fFree, .func (PySem.W.fnOf "_law_free_name" "_law_free_name" (defArgs sFree) (defBody sFree) (defScope sFree) .none kV_fFree dc_fFree pm_fFree an_fFree cd_fFree ct_fFree), sl_fFree⟩)
    (c_fFree : PySem.W.codeIn K cd_fFree "_law_free_name" = true)
    (k_fFree : PySem.W.keepIn K (.ref fFree) = true)
    (a_fState : PySem.W.nsIn K mainGlobals "_law_state" = some (some (.ref fState)))
    (l_fState : K.lookup fState = some ⟨oc_fState, od_fState, .func (PySem.W.fnOf "_law_state" "_law_state" (defArgs sState) (defBody sState) (defScope sState) .none kV_fState dc_fState pm_fState an_fState cd_fState ct_fState), sl_fState⟩)
    (c_fState : PySem.W.codeIn K cd_fState "_law_state" = true)
    (k_fState : PySem.W.keepIn K (.ref fState) = true)
    (a_fDigit : PySem.W.nsIn K mainGlobals "_law_digit" = some (some (.ref fDigit)))
    (l_fDigit : K.lookup fDigit = some ⟨oc_fDigit, od_fDigit, .func (PySem.W.fnOf "_law_digit" "_law_digit" (defArgs sDigit) (defBody sDigit) (defScope sDigit) .none kV_fDigit dc_fDigit pm_fDigit an_fDigit cd_fDigit ct_fDigit), sl_fDigit⟩)
    (c_fDigit : PySem.W.codeIn K cd_fDigit "_law_digit" = true)
    (k_fDigit : PySem.W.keepIn K (.ref fDigit) = true)
    (a_fNodes : PySem.W.nsIn K mainGlobals "_law_nodes" = some (some (.ref fNodes)))
    (l_fNodes : K.lookup fNodes = some ⟨oc_fNodes, od_fNodes, .func (PySem.W.fnOf "_law_nodes" "_law_nodes" (defArgs sNodes) (defBody sNodes) (defScope sNodes) .none kV_fNodes dc_fNodes pm_fNodes an_fNodes cd_fNodes ct_fNodes), sl_fNodes⟩)
    (c_fNodes : PySem.W.codeIn K cd_fNodes "_law_nodes" = true)
    (k_fNodes : PySem.W.keepIn K (.ref fNodes) = true)
    (a_fI0 : PySem.W.findIn K (.ref C0) "__init__" = some (some (.ref fI0)))
    (i_fI0 : PySem.W.isFn K (.ref fI0) = true)
    (l_fI0 : K.lookup fI0 = some ⟨oc_fI0, od_fI0, .func (PySem.W.fnOf "__init__" "Folder.__init__" (defArgs sFolI) (defBody sFolI) (defScope sFolI) .none kV_fI0 dc_fI0 pm_fI0 an_fI0 cd_fI0 ct_fI0), sl_fI0⟩)
    (c_fI0 : PySem.W.codeIn K cd_fI0 "Folder.__init__" = true)
    (k_fI0 : PySem.W.keepIn K (.ref fI0) = true)
    (a_fI1 : PySem.W.findIn K (.ref C1) "__init__" = some (some (.ref fI1)))
    (i_fI1 : PySem.W.isFn K (.ref fI1) = true)
    (l_fI1 : K.lookup fI1 = some ⟨oc_fI1, od_fI1, .func (PySem.W.fnOf "__init__" "File.__init__" (defArgs sFileI) (defBody sFileI) (defScope sFileI) .none kV_fI1 dc_fI1 pm_fI1 an_fI1 cd_fI1 ct_fI1), sl_fI1⟩)
    (c_fI1 : PySem.W.codeIn K cd_fI1 "File.__init__" = true)
    (k_fI1 : PySem.W.keepIn K (.ref fI1) = true)
    (a_fI2 : PySem.W.findIn K (.ref C2) "__init__" = some (some (.ref fI2)))
    (i_fI2 : PySem.W.isFn K (.ref fI2) = true)
    (l_fI2 : K.lookup fI2 = some ⟨oc_fI2, od_fI2, .func (PySem.W.fnOf "__init__" "Link.__init__" (defArgs sLinkI) (defBody sLinkI) (defScope sLinkI) .none kV_fI2 dc_fI2 pm_fI2 an_fI2 cd_fI2 ct_fI2), sl_fI2⟩)
    (c_fI2 : PySem.W.codeIn K cd_fI2 "Link.__init__" = true)
    (k_fI2 : PySem.W.keepIn K (.ref fI2) = true)
    (a_fI3 : PySem.W.findIn K (.ref C3) "__init__" = some (some (.ref fI3)))
    (i_fI3 : PySem.W.isFn K (.ref fI3) = true)
    (l_fI3 : K.lookup fI3 = some ⟨oc_fI3, od_fI3, .func (PySem.W.fnOf "__init__" "Gone.__init__" (defArgs sGoneI) (defBody sGoneI) (defScope sGoneI) .none kV_fI3 dc_fI3 pm_fI3 an_fI3 cd_fI3 ct_fI3), sl_fI3⟩)
    (c_fI3 : PySem.W.codeIn K cd_fI3 "Gone.__init__" = true)
    (k_fI3 : PySem.W.keepIn K (.ref fI3) = true)
    (a_fTI : PySem.W.findIn K (.ref CT) "__init__" = some (some (.ref fTI)))
    (i_fTI : PySem.W.isFn K (.ref fTI) = true)
    (l_fTI : K.lookup fTI = some ⟨oc_fTI, od_fTI, .func (PySem.W.fnOf "__init__" "Tree.__init__" (defArgs sTreeI) (defBody sTreeI) (defScope sTreeI) .none kV_fTI dc_fTI pm_fTI an_fTI cd_fTI ct_fTI), sl_fTI⟩)
    (c_fTI : PySem.W.codeIn K cd_fTI "Tree.__init__" = true)
    (k_fTI : PySem.W.keepIn K (.ref fTI) = true)
    (a_fQ0 : PySem.W.findIn K (.ref C0) "__eq__" = some (some (.ref fQ0)))
    (i_fQ0 : PySem.W.isFn K (.ref fQ0) = true)
    (l_fQ0 : K.lookup fQ0 = some ⟨oc_fQ0, od_fQ0, .func (PySem.W.fnOf "__eq__" "Folder.__eq__" (defArgs sFolderE) (defBody sFolderE) (defScope sFolderE) .none kV_fQ0 dc_fQ0 pm_fQ0 an_fQ0 cd_fQ0 ct_fQ0), sl_fQ0⟩)
    (c_fQ0 : PySem.W.codeIn K cd_fQ0 "Folder.__eq__" = true)
    (k_fQ0 : PySem.W.keepIn K (.ref fQ0) = true)
    (a_fQ1 : PySem.W.findIn K (.ref C1) "__eq__" = some (some (.ref fQ1)))
    (i_fQ1 : PySem.W.isFn K (.ref fQ1) = true)
    (l_fQ1 : K.lookup fQ1 = some ⟨oc_fQ1, od_fQ1, .func (PySem.W.fnOf "__eq__" "File.__eq__" (defArgs sFileE) (defBody sFileE) (defScope sFileE) .none kV_fQ1 dc_fQ1 pm_fQ1 an_fQ1 cd_fQ1 ct_fQ1), sl_fQ1⟩)
    (c_fQ1 : PySem.W.codeIn K cd_fQ1 "File.__eq__" = true)
    (k_fQ1 : PySem.W.keepIn K (.ref fQ1) = true)
    (a_fQ2 : PySem.W.findIn K (.ref C2) "__eq__" = some (some (.ref fQ2)))
    (i_fQ2 : PySem.W.isFn K (.ref fQ2) = true)
    (l_fQ2 : K.lookup fQ2 = some ⟨oc_fQ2, od_fQ2, .func (PySem.W.fnOf "__eq__" "Link.__eq__" (defArgs sLinkE) (defBody sLinkE) (defScope sLinkE) .none kV_fQ2 dc_fQ2 pm_fQ2 an_fQ2 cd_fQ2 ct_fQ2), sl_fQ2⟩)
    (c_fQ2 : PySem.W.codeIn K cd_fQ2 "Link.__eq__" = true)
    (k_fQ2 : PySem.W.keepIn K (.ref fQ2) = true)
    (a_fQ3 : PySem.W.findIn K (.ref C3) "__eq__" = some (some (.ref fQ3)))
    (i_fQ3 : PySem.W.isFn K (.ref fQ3) = true)
    (l_fQ3 : K.lookup fQ3 = some ⟨oc_fQ3, od_fQ3, .func (PySem.W.fnOf "__eq__" "Gone.__eq__" (defArgs sGoneE) (defBody sGoneE) (defScope sGoneE) .none kV_fQ3 dc_fQ3 pm_fQ3 an_fQ3 cd_fQ3 ct_fQ3), sl_fQ3⟩)
    (c_fQ3 : PySem.W.codeIn K cd_fQ3 "Gone.__eq__" = true)
    (k_fQ3 : PySem.W.keepIn K (.ref fQ3) = true)
    (a_fQ4 : PySem.W.findIn K (.ref CT) "__eq__" = some (some (.ref fQ4)))
    (i_fQ4 : PySem.W.isFn K (.ref fQ4) = true)
    (l_fQ4 : K.lookup fQ4 = some ⟨oc_fQ4, od_fQ4, .func (PySem.W.fnOf "__eq__" "Tree.__eq__" (defArgs sTreeE) (defBody sTreeE) (defScope sTreeE) .none kV_fQ4 dc_fQ4 pm_fQ4 an_fQ4 cd_fQ4 ct_fQ4), sl_fQ4⟩)
    (c_fQ4 : PySem.W.codeIn K cd_fQ4 "Tree.__eq__" = true)
    (k_fQ4 : PySem.W.keepIn K (.ref fQ4) = true)
    (a_fMay : PySem.W.nsIn K mainGlobals "may_be_entered" = some (some (.ref fMay)))
    (l_fMay : K.lookup fMay = some ⟨oc_fMay, od_fMay, .func (PySem.W.fnOf "may_be_entered" "may_be_entered" (defArgs sMay) (defBody sMay) (defScope sMay) .none kV_fMay dc_fMay pm_fMay an_fMay cd_fMay ct_fMay), sl_fMay⟩)
    (c_fMay : PySem.W.codeIn K cd_fMay "may_be_entered" = true)
    (k_fMay : PySem.W.keepIn K (.ref fMay) = true)
    (a_fStood : PySem.W.nsIn K mainGlobals "stood_in" = some (some (.ref fStood)))
    (l_fStood : K.lookup fStood = some ⟨oc_fStood, od_fStood, .func (PySem.W.fnOf "stood_in" "stood_in" (defArgs sStood) (defBody sStood) (defScope sStood) .none kV_fStood dc_fStood pm_fStood an_fStood cd_fStood ct_fStood), sl_fStood⟩)
    (c_fStood : PySem.W.codeIn K cd_fStood "stood_in" = true)
    (k_fStood : PySem.W.keepIn K (.ref fStood) = true)
    (a_fFF : PySem.W.nsIn K mainGlobals "found_folders" = some (some (.ref fFF)))
    (l_fFF : K.lookup fFF = some ⟨oc_fFF, od_fFF, .func (PySem.W.fnOf "found_folders" "found_folders" (defArgs sFound) (defBody sFound) (defScope sFound) .none kV_fFF dc_fFF pm_fFF an_fFF cd_fFF ct_fFF), sl_fFF⟩)
    (c_fFF : PySem.W.codeIn K cd_fFF "found_folders" = true)
    (k_fFF : PySem.W.keepIn K (.ref fFF) = true)
    (a_fBy : PySem.W.nsIn K mainGlobals "by_names" = some (some (.ref fBy)))
    (l_fBy : K.lookup fBy = some ⟨oc_fBy, od_fBy, .func (PySem.W.fnOf "by_names" "by_names" (defArgs sBy) (defBody sBy) (defScope sBy) .none kV_fBy dc_fBy pm_fBy an_fBy cd_fBy ct_fBy), sl_fBy⟩)
    (c_fBy : PySem.W.codeIn K cd_fBy "by_names" = true)
    (k_fBy : PySem.W.keepIn K (.ref fBy) = true)
    (cB : cd_fBy = .ref c0)
    (lB : K.lookup c0 = some ⟨eB, dB, .fields vsB, slB⟩)
    (vB : vsB[11]? = some (.ref P0))
    (nB : K.lookup P0 = none)
    (a_fMade : PySem.W.nsIn K mainGlobals "_law_made" = some (some (.ref fMade)))
    (l_fMade : K.lookup fMade = some ⟨oc_fMade, od_fMade, .func (PySem.W.fnOf "_law_made" "_law_made" (defArgs sMade) (defBody sMade) (defScope sMade) .none kV_fMade dc_fMade pm_fMade an_fMade cd_fMade ct_fMade), sl_fMade⟩)
    (c_fMade : PySem.W.codeIn K cd_fMade "_law_made" = true)
    (k_fMade : PySem.W.keepIn K (.ref fMade) = true)
    (a_fWE : PySem.W.nsIn K mainGlobals "wrong_entries" = some (some (.ref fWE)))
    (l_fWE : K.lookup fWE = some ⟨oc_fWE, od_fWE, .func (PySem.W.fnOf "wrong_entries" "wrong_entries" (defArgs sWE) (defBody sWE) (defScope sWE) .none kV_fWE dc_fWE pm_fWE an_fWE cd_fWE ct_fWE), sl_fWE⟩)
    (c_fWE : PySem.W.codeIn K cd_fWE "wrong_entries" = true)
    (k_fWE : PySem.W.keepIn K (.ref fWE) = true)
    (a_fWN : PySem.W.nsIn K mainGlobals "wrong_node" = some (some (.ref fWN)))
    (l_fWN : K.lookup fWN = some ⟨oc_fWN, od_fWN, .func (PySem.W.fnOf "wrong_node" "wrong_node" (defArgs sWN) (defBody sWN) (defScope sWN) .none kV_fWN dc_fWN pm_fWN an_fWN cd_fWN ct_fWN), sl_fWN⟩)
    (c_fWN : PySem.W.codeIn K cd_fWN "wrong_node" = true)
    (k_fWN : PySem.W.keepIn K (.ref fWN) = true)
    (a_fET : PySem.W.nsIn K mainGlobals "entered_times" = some (some (.ref fET)))
    (l_fET : K.lookup fET = some ⟨oc_fET, od_fET, .func (PySem.W.fnOf "entered_times" "entered_times" (defArgs sET) (defBody sET) (defScope sET) .none kV_fET dc_fET pm_fET an_fET cd_fET ct_fET), sl_fET⟩)
    (c_fET : PySem.W.codeIn K cd_fET "entered_times" = true)
    (k_fET : PySem.W.keepIn K (.ref fET) = true)
    (a_fCN : PySem.W.nsIn K mainGlobals "check_nodes" = some (some (.ref fCN)))
    (l_fCN : K.lookup fCN = some ⟨oc_fCN, od_fCN, .func (PySem.W.fnOf "check_nodes" "check_nodes" (defArgs sCN) (defBody sCN) (defScope sCN) .none kV_fCN dc_fCN pm_fCN an_fCN cd_fCN ct_fCN), sl_fCN⟩)
    (c_fCN : PySem.W.codeIn K cd_fCN "check_nodes" = true)
    (k_fCN : PySem.W.keepIn K (.ref fCN) = true)
    (a_fCF : PySem.W.nsIn K mainGlobals "check_folders" = some (some (.ref fCF)))
    (l_fCF : K.lookup fCF = some ⟨oc_fCF, od_fCF, .func (PySem.W.fnOf "check_folders" "check_folders" (defArgs sCF) (defBody sCF) (defScope sCF) .none kV_fCF dc_fCF pm_fCF an_fCF cd_fCF ct_fCF), sl_fCF⟩)
    (c_fCF : PySem.W.codeIn K cd_fCF "check_folders" = true)
    (k_fCF : PySem.W.keepIn K (.ref fCF) = true)
    (a_fTree : PySem.W.nsIn K mainGlobals "_law_tree" = some (some (.ref fTree)))
    (l_fTree : K.lookup fTree = some ⟨oc_fTree, od_fTree, .func (PySem.W.fnOf "_law_tree" "_law_tree" (defArgs sTree) (defBody sTree) (defScope sTree) .none kV_fTree dc_fTree pm_fTree an_fTree cd_fTree ct_fTree), sl_fTree⟩)
    (c_fTree : PySem.W.codeIn K cd_fTree "_law_tree" = true)
    (k_fTree : PySem.W.keepIn K (.ref fTree) = true)
    (a_fTu : PySem.W.nsIn K mainGlobals "_law_turned" = some (some (.ref fTu)))
    (l_fTu : K.lookup fTu = some ⟨oc_fTu, od_fTu, .func (PySem.W.fnOf "_law_turned" "_law_turned" (defArgs sTurn) (defBody sTurn) (defScope sTurn) .none kV_fTu dc_fTu pm_fTu an_fTu cd_fTu ct_fTu), sl_fTu⟩)
    (c_fTu : PySem.W.codeIn K cd_fTu "_law_turned" = true)
    (k_fTu : PySem.W.keepIn K (.ref fTu) = true)
    (a_fFl : PySem.W.nsIn K mainGlobals "_law_fields" = some (some (.ref fFl)))
    (l_fFl : K.lookup fFl = some ⟨oc_fFl, od_fFl, .func (PySem.W.fnOf "_law_fields" "_law_fields" (defArgs sFlds) (defBody sFlds) (defScope sFlds) .none kV_fFl dc_fFl pm_fFl an_fFl cd_fFl ct_fFl), sl_fFl⟩)
    (c_fFl : PySem.W.codeIn K cd_fFl "_law_fields" = true)
    (k_fFl : PySem.W.keepIn K (.ref fFl) = true)
    (a_fDu : PySem.W.nsIn K mainGlobals "_law_due" = some (some (.ref fDu)))
    (l_fDu : K.lookup fDu = some ⟨oc_fDu, od_fDu, .func (PySem.W.fnOf "_law_due" "_law_due" (defArgs sDue) (defBody sDue) (defScope sDue) .none kV_fDu dc_fDu pm_fDu an_fDu cd_fDu ct_fDu), sl_fDu⟩)
    (c_fDu : PySem.W.codeIn K cd_fDu "_law_due" = true)
    (k_fDu : PySem.W.keepIn K (.ref fDu) = true)
    (a_fOd : PySem.W.nsIn K mainGlobals "_law_odd_right" = some (some (.ref fOd)))
    (l_fOd : K.lookup fOd = some ⟨oc_fOd, od_fOd, .func (PySem.W.fnOf "_law_odd_right" "_law_odd_right" (defArgs sOdd) (defBody sOdd) (defScope sOdd) .none kV_fOd dc_fOd pm_fOd an_fOd cd_fOd ct_fOd), sl_fOd⟩)
    (c_fOd : PySem.W.codeIn K cd_fOd "_law_odd_right" = true)
    (k_fOd : PySem.W.keepIn K (.ref fOd) = true)
    (a_fLaw : PySem.W.nsIn K mainGlobals "law" = some (some (.ref fLaw)))
    (l_fLaw : K.lookup fLaw = some ⟨oc_fLaw, od_fLaw, .func (PySem.W.fnOf "law" "law" (defArgs sLaw) (defBody sLaw) (defScope sLaw) .none kV_fLaw dc_fLaw pm_fLaw an_fLaw cd_fLaw ct_fLaw), sl_fLaw⟩)
    (c_fLaw : PySem.W.codeIn K cd_fLaw "law" = true)
    (k_fLaw : PySem.W.keepIn K (.ref fLaw) = true) :
    LawAtS l w K CX0 10 63 "_law_script" mg fa h := by
  have e := hfa.symm.trans (PySem.W.mg_of X G a_fLaw)
  cases e
  have F_fName := fun_mk (st := sName) l_fName c_fName k_fName
  have b_fName := F_fName.binds (ps := ["value"]) fun _ _ _ _ _ _ us hl => match us, hl with | [_], _ => rfl
  have F_fStep := fun_mk (st := sStep) l_fStep c_fStep k_fStep
  have b_fStep := F_fStep.binds (ps := ["value"]) fun _ _ _ _ _ _ us hl => match us, hl with | [_], _ => rfl
  have F_fBad := fun_mk (st := sBad) l_fBad c_fBad k_fBad
  have b_fBad := F_fBad.binds (ps := ["text"]) fun _ _ _ _ _ _ us hl => match us, hl with | [_], _ => rfl
  have F_fNum := fun_mk (st := sNum) l_fNum c_fNum k_fNum
  have b_fNum := F_fNum.binds (ps := ["value"]) fun _ _ _ _ _ _ us hl => match us, hl with | [_], _ => rfl
  have F_fOwner := fun_mk (st := sOwner) l_fOwner c_fOwner k_fOwner
  have b_fOwner := F_fOwner.binds (ps := ["value"]) fun _ _ _ _ _ _ us hl => match us, hl with | [_], _ => rfl
  have F_fAt := fun_mk (st := sAt) l_fAt c_fAt k_fAt
  have b_fAt := F_fAt.binds (ps := ["nodes", "number"]) fun _ _ _ _ _ _ us hl => match us, hl with | [_, _], _ => rfl
  have F_fPool := fun_mk (st := sPool) l_fPool c_fPool k_fPool
  have b_fPool := F_fPool.binds (ps := []) fun _ _ _ _ _ _ us hl => match us, hl with | [], _ => rfl
  have F_fTxt := fun_mk (st := sTxt) l_fTxt c_fTxt k_fTxt
  have b_fTxt := F_fTxt.binds (ps := ["_law_s"]) fun _ _ _ _ _ _ us hl => match us, hl with | [_], _ => rfl
  have F_fFree := fun_mk (st := sFree) l_fFree c_fFree k_fFree
  have b_fFree := F_fFree.binds (ps := ["_law_s", "_law_nodes_here", "_law_folder"]) fun _ _ _ _ _ _ us hl => match us, hl with | [_, _, _], _ => rfl
  have F_fState := fun_mk (st := sState) l_fState c_fState k_fState
  have b_fState := F_fState.binds (ps := ["_law_source"]) fun _ _ _ _ _ _ us hl => match us, hl with | [_], _ => rfl
  have F_fDigit := fun_mk (st := sDigit) l_fDigit c_fDigit k_fDigit
  have b_fDigit := F_fDigit.binds (ps := ["_law_state_here", "_law_base"]) fun _ _ _ _ _ _ us hl => match us, hl with | [_, _], _ => rfl
  have F_fNodes := fun_mk (st := sNodes) l_fNodes c_fNodes k_fNodes
  have b_fNodes := F_fNodes.binds (ps := ["_law_s", "_law_many", "_law_links"]) fun _ _ _ _ _ _ us hl => match us, hl with | [_, _, _], _ => rfl
  have F_fI0 := fun_mk (st := sFolI) l_fI0 c_fI0 k_fI0
  have b_fI0 := F_fI0.binds (ps := ["self", "owner", "entries"]) fun _ _ _ _ _ _ us hl => match us, hl with | [_, _, _], _ => rfl
  have F_fI1 := fun_mk (st := sFileI) l_fI1 c_fI1 k_fI1
  have b_fI1 := F_fI1.binds (ps := ["self", "owner"]) fun _ _ _ _ _ _ us hl => match us, hl with | [_, _], _ => rfl
  have F_fI2 := fun_mk (st := sLinkI) l_fI2 c_fI2 k_fI2
  have b_fI2 := F_fI2.binds (ps := ["self", "owner", "text"]) fun _ _ _ _ _ _ us hl => match us, hl with | [_, _, _], _ => rfl
  have F_fI3 := fun_mk (st := sGoneI) l_fI3 c_fI3 k_fI3
  have b_fI3 := F_fI3.binds (ps := ["self", "owner", "above"]) fun _ _ _ _ _ _ us hl => match us, hl with | [_, _, _], _ => rfl
  have F_fTI := fun_mk (st := sTreeI) l_fTI c_fTI k_fTI
  have b_fTI := F_fTI.binds (ps := ["self", "nodes"]) fun _ _ _ _ _ _ us hl => match us, hl with | [_, _], _ => rfl
  have F_fQ0 := fun_mk (st := sFolderE) l_fQ0 c_fQ0 k_fQ0
  have b_fQ0 := F_fQ0.binds (ps := ["self", "other"]) fun _ _ _ _ _ _ us hl => match us, hl with | [_, _], _ => rfl
  have F_fQ1 := fun_mk (st := sFileE) l_fQ1 c_fQ1 k_fQ1
  have b_fQ1 := F_fQ1.binds (ps := ["self", "other"]) fun _ _ _ _ _ _ us hl => match us, hl with | [_, _], _ => rfl
  have F_fQ2 := fun_mk (st := sLinkE) l_fQ2 c_fQ2 k_fQ2
  have b_fQ2 := F_fQ2.binds (ps := ["self", "other"]) fun _ _ _ _ _ _ us hl => match us, hl with | [_, _], _ => rfl
  have F_fQ3 := fun_mk (st := sGoneE) l_fQ3 c_fQ3 k_fQ3
  have b_fQ3 := F_fQ3.binds (ps := ["self", "other"]) fun _ _ _ _ _ _ us hl => match us, hl with | [_, _], _ => rfl
  have F_fQ4 := fun_mk (st := sTreeE) l_fQ4 c_fQ4 k_fQ4
  have b_fQ4 := F_fQ4.binds (ps := ["self", "other"]) fun _ _ _ _ _ _ us hl => match us, hl with | [_, _], _ => rfl
  have F_fMay := fun_mk (st := sMay) l_fMay c_fMay k_fMay
  have b_fMay := F_fMay.binds (ps := ["nodes", "number"]) fun _ _ _ _ _ _ us hl => match us, hl with | [_, _], _ => rfl
  have F_fStood := fun_mk (st := sStood) l_fStood c_fStood k_fStood
  have b_fStood := F_fStood.binds (ps := ["nodes", "number", "last"]) fun _ _ _ _ _ _ us hl => match us, hl with | [_, _, _], _ => rfl
  have F_fFF := fun_mk (st := sFound) l_fFF c_fFF k_fFF
  have b_fFF := F_fFF.binds (ps := ["nodes"]) fun _ _ _ _ _ _ us hl => match us, hl with | [_], _ => rfl
  have F_fBy := fun_mk (st := sBy) l_fBy c_fBy k_fBy
  have b_fBy := F_fBy.binds (ps := ["entries"]) fun _ _ _ _ _ _ us hl => match us, hl with | [_], _ => rfl
  have F_fMade := fun_mk (st := sMade) l_fMade c_fMade k_fMade
  have b_fMade := F_fMade.binds (ps := ["_law_node"]) fun _ _ _ _ _ _ us hl => match us, hl with | [_], _ => rfl
  have F_fWE := fun_mk (st := sWE) l_fWE c_fWE k_fWE
  have b_fWE := F_fWE.binds (ps := ["nodes", "entries"]) fun _ _ _ _ _ _ us hl => match us, hl with | [_, _], _ => rfl
  have F_fWN := fun_mk (st := sWN) l_fWN c_fWN k_fWN
  have b_fWN := F_fWN.binds (ps := ["nodes", "number"]) fun _ _ _ _ _ _ us hl => match us, hl with | [_, _], _ => rfl
  have F_fET := fun_mk (st := sET) l_fET c_fET k_fET
  have b_fET := F_fET.binds (ps := ["nodes"]) fun _ _ _ _ _ _ us hl => match us, hl with | [_], _ => rfl
  have F_fCN := fun_mk (st := sCN) l_fCN c_fCN k_fCN
  have b_fCN := F_fCN.binds (ps := ["nodes"]) fun _ _ _ _ _ _ us hl => match us, hl with | [_], _ => rfl
  have F_fCF := fun_mk (st := sCF) l_fCF c_fCF k_fCF
  have b_fCF := F_fCF.binds (ps := ["nodes"]) fun _ _ _ _ _ _ us hl => match us, hl with | [_], _ => rfl
  have F_fTree := fun_mk (st := sTree) l_fTree c_fTree k_fTree
  have b_fTree := F_fTree.binds (ps := ["_law_nodes_here"]) fun _ _ _ _ _ _ us hl => match us, hl with | [_], _ => rfl
  have F_fTu := fun_mk (st := sTurn) l_fTu c_fTu k_fTu
  have b_fTu := F_fTu.binds (ps := ["_law_s", "_law_items"]) fun _ _ _ _ _ _ us hl => match us, hl with | [_, _], _ => rfl
  have F_fFl := fun_mk (st := sFlds) l_fFl c_fFl k_fFl
  have b_fFl := F_fFl.binds (ps := ["_law_node"]) fun _ _ _ _ _ _ us hl => match us, hl with | [_], _ => rfl
  have F_fDu := fun_mk (st := sDue) l_fDu c_fDu k_fDu
  have b_fDu := F_fDu.binds (ps := ["_law_node"]) fun _ _ _ _ _ _ us hl => match us, hl with | [_], _ => rfl
  have F_fOd := fun_mk (st := sOdd) l_fOd c_fOd k_fOd
  have b_fOd := F_fOd.binds (ps := ["_law_s"]) fun _ _ _ _ _ _ us hl => match us, hl with | [_], _ => rfl
  have F_fLaw := fun_mk (st := sLaw) l_fLaw c_fLaw k_fLaw
  have b_fLaw := F_fLaw.binds (ps := ["_law_script"]) fun _ _ _ _ _ _ us hl => match us, hl with | [_], _ => rfl
  have TA : TxtA mg := ⟨PySem.W.mg_none_of X G z_int, PySem.W.mg_none_of X G z_abs⟩
  have TN : TxtN K mg fName fStep := ⟨PySem.W.mg_none_of X G z_isinstance, PySem.W.mg_none_of X G z_str, PySem.W.mg_none_of X G z_len, PySem.W.mg_none_of X G z_all, ⟨_, PySem.W.mg_of X G gLN⟩, ⟨_, PySem.W.mg_of X G gLL⟩, PySem.W.mg_of X G a_fName, k_fName, PySem.W.mg_of X G a_fStep, k_fStep⟩
  have TK : TxtK K mg fNum fAt fDigit fPool := ⟨PySem.W.mg_none_of X G z_isinstance, PySem.W.mg_none_of X G z_int, PySem.W.mg_none_of X G z_bool, PySem.W.mg_none_of X G z_len, PySem.W.mg_none_of X G z_range, PySem.W.mg_none_of X G z_min, PySem.W.mg_of X G a_fNum, k_fNum, PySem.W.mg_of X G a_fAt, k_fAt, PySem.W.mg_of X G a_fDigit, k_fDigit, PySem.W.mg_of X G a_fPool, k_fPool⟩
  have TD : TxtD K mg fTxt fFree := ⟨PySem.W.mg_none_of X G z_enumerate, PySem.W.mg_of X G a_fTxt, k_fTxt, PySem.W.mg_of X G a_fFree, k_fFree⟩
  have TG : TxtG K mg (quad C0 C1 C2 C3) := ⟨all4 (⟨pg_C0, hd_C0, po_C0, sa_C0⟩) (⟨pg_C1, hd_C1, po_C1, sa_C1⟩) (⟨pg_C2, hd_C2, po_C2, sa_C2⟩) (⟨pg_C3, hd_C3, po_C3, sa_C3⟩), all4 (⟨e1_C0, c2, c3, e3_C0⟩) (⟨e1_C1, c2, c3, e3_C1⟩) (⟨e1_C2, c2, c3, e3_C2⟩) (⟨e1_C3, c2, c3, e3_C3⟩), all44 (kit_self) (kit_own hd_C1 tp_C1 s_01 n_01) (kit_own hd_C2 tp_C2 s_02 n_02) (kit_own hd_C3 tp_C3 s_03 n_03) (kit_own hd_C0 tp_C0 s_10 n_10) (kit_self) (kit_own hd_C2 tp_C2 s_12 n_12) (kit_own hd_C3 tp_C3 s_13 n_13) (kit_own hd_C0 tp_C0 s_20 n_20) (kit_own hd_C1 tp_C1 s_21 n_21) (kit_self) (kit_own hd_C3 tp_C3 s_23 n_23) (kit_own hd_C0 tp_C0 s_30 n_30) (kit_own hd_C1 tp_C1 s_31 n_31) (kit_own hd_C2 tp_C2 s_32 n_32) (kit_self), PySem.W.mg_of X G a_C0, PySem.W.mg_of X G a_C1, PySem.W.mg_of X G a_C2, PySem.W.mg_of X G a_C3, ⟨_, PySem.W.mg_of X G gRO⟩, all4 (na_C0_owner) (na_C1_owner) (na_C2_owner) (na_C3_owner), na_C0_entries, na_C2_text, na_C3_above⟩
  have TS : TxtS K mg fBy := ⟨PySem.W.mg_none_of X G z_all, PySem.W.mg_none_of X G z_isinstance, PySem.W.mg_none_of X G z_str, PySem.W.mg_none_of X G z_tuple, PySem.W.mg_none_of X G z_sorted, PySem.W.mg_of X G a_fBy, k_fBy⟩
  have TM : Makers K (quad C0 C1 C2 C3) (quad fI0 fI1 fI2 fI3) := ⟨all4 (⟨mk_C0, a_fI0, i_fI0, k_C0⟩) (⟨mk_C1, a_fI1, i_fI1, k_C1⟩) (⟨mk_C2, a_fI2, i_fI2, k_C2⟩) (⟨mk_C3, a_fI3, i_fI3, k_C3⟩)⟩
  have TW : TxtW K mg fMay fWE fStood fBad fOwner fWN := ⟨PySem.W.mg_none_of X G z_set, PySem.W.mg_of X G a_fMay, k_fMay, PySem.W.mg_of X G a_fWE, k_fWE, PySem.W.mg_of X G a_fStood, k_fStood, PySem.W.mg_of X G a_fBad, k_fBad, PySem.W.mg_of X G a_fOwner, k_fOwner, PySem.W.mg_of X G a_fWN, k_fWN⟩
  have TT : TxtT K mg fET fFF fCN fCF := ⟨PySem.W.mg_none_of X G z_enumerate, PySem.W.mg_of X G a_fET, k_fET, PySem.W.mg_of X G a_fFF, k_fFF, PySem.W.mg_of X G a_fCN, k_fCN, PySem.W.mg_of X G a_fCF, k_fCF⟩
  have TV : TxtV K mg fMade CT := ⟨PySem.W.mg_of X G a_CT, PySem.W.mg_of X G a_fMade, k_fMade⟩
  have M0 : Mk K ((quad C0 C1 C2 C3) 0) ((quad fI0 fI1 fI2 fI3) 0) := ⟨mk_C0, a_fI0, i_fI0, k_C0⟩
  have M1 : Mk K ((quad C0 C1 C2 C3) 1) ((quad fI0 fI1 fI2 fI3) 1) := ⟨mk_C1, a_fI1, i_fI1, k_C1⟩
  have M2 : Mk K ((quad C0 C1 C2 C3) 2) ((quad fI0 fI1 fI2 fI3) 2) := ⟨mk_C2, a_fI2, i_fI2, k_C2⟩
  have M3 : Mk K ((quad C0 C1 C2 C3) 3) ((quad fI0 fI1 fI2 fI3) 3) := ⟨mk_C3, a_fI3, i_fI3, k_C3⟩
  have MT : Mk K CT fTI := ⟨mk_CT, a_fTI, i_fTI, k_CT⟩
  have T4 : TxtE4 K (quad C0 C1 C2 C3) (quad fQ0 fQ1 fQ2 fQ3) := ⟨all4 (⟨a_fQ0, i_fQ0, ob_0, ne_0⟩) (⟨a_fQ1, i_fQ1, ob_1, ne_1⟩) (⟨a_fQ2, i_fQ2, ob_2, ne_2⟩) (⟨a_fQ3, i_fQ3, ob_3, ne_3⟩), all44 (nf_self) (nfT s_10) (nfT s_20) (nfT s_30) (nfT s_01) (nf_self) (nfT s_21) (nfT s_31) (nfT s_02) (nfT s_12) (nf_self) (nfT s_32) (nfT s_03) (nfT s_13) (nfT s_23) (nf_self)⟩
  have TE : EqC K CT fQ4 := ⟨a_fQ4, i_fQ4, ob_4, ne_4⟩
  have TC : TyC K CT := ⟨e1_CT, c2, c3, e3_CT⟩
  have TL : TxtL K mg fState fNodes fTree fFl fDu fTu fOd := ⟨PySem.W.mg_none_of X G z_list, PySem.W.mg_of X G a_fState, k_fState, PySem.W.mg_of X G a_fNodes, k_fNodes, PySem.W.mg_of X G a_fTree, k_fTree, PySem.W.mg_of X G a_fFl, k_fFl, PySem.W.mg_of X G a_fDu, k_fDu, PySem.W.mg_of X G a_fTu, k_fTu, PySem.W.mg_of X G a_fOd, k_fOd⟩
  have tb := tb c0 P0 (tabIn_of a_fBy l_fBy cB lB vB)
  refine ⟨PySem.W.fnOf "law" "law" (defArgs sLaw) (defBody sLaw) (defScope sLaw) .none kV_fLaw dc_fLaw pm_fLaw an_fLaw cd_fLaw ct_fLaw, [(c0, P0)], spLaw K P0, one1 tb.2, one1 nB, one1 tb.1, fun s u => .of_eq rfl, fun H a ns hl _ hH hS => ⟨a, ns, rfl, hS, hl, one1 (TabS.nil (hH _ List.mem_cons_self)), fun _ => rfl⟩, fun base _ _ tbb => ?_⟩
  have TB : TabB base mg c0 P0 := tbb _ List.mem_cons_self
  have g_name := ok_name (P := l.prog) (w := w) (base := base) F_fName TN
  have g_step := ok_step F_fStep TN g_name b_fName
  have g_bad := ok_bad F_fBad TN g_step b_fStep
  have g_num := ok_num (P := l.prog) (w := w) (base := base) F_fNum TK
  have g_owner := ok_owner F_fOwner TK g_num b_fNum
  have g_at := ok_at F_fAt TK g_num b_fNum
  have g_pool := ok_pool (P := l.prog) (w := w) (base := base) (mg := mg) F_fPool
  have g_state := ok_state (P := l.prog) (w := w) (base := base) F_fState TA
  have g_digit := ok_digit (P := l.prog) (w := w) (base := base) F_fDigit TA
  have g_txt := ok_txt F_fTxt TK g_digit b_fDigit
  have g_free := ok_free F_fFree TK g_digit b_fDigit g_pool b_fPool
  have g_nodes := ok_nodes F_fNodes TK TD g_digit b_fDigit g_txt b_fTxt g_free b_fFree
  have g_f1 := ok_fileI (P := l.prog) (w := w) (base := base) (mg := mg) F_fI1 ⟨pg_C1, hd_C1, po_C1, sa_C1⟩ na_C1_owner
  have g_f2 := ok_linkI (P := l.prog) (w := w) (base := base) (mg := mg) F_fI2 ⟨pg_C2, hd_C2, po_C2, sa_C2⟩ na_C2_owner na_C2_text
  have g_f3 := ok_goneI (P := l.prog) (w := w) (base := base) (mg := mg) F_fI3 ⟨pg_C3, hd_C3, po_C3, sa_C3⟩ na_C3_owner na_C3_above
  have g_may := ok_may F_fMay TK TG g_at b_fAt
  have g_stood := ok_stood F_fStood TK TG g_at b_fAt
  have g_ff := ok_found (P := l.prog) (w := w) (base := base) F_fFF TK TG
  have g_by := ok_by (P := l.prog) (w := w) F_fBy cB TS TB
  have g_byO := ok_byO (P := l.prog) (w := w) F_fBy cB TS TB
  have g_f0 := ok_folI F_fI0 TS ⟨pg_C0, hd_C0, po_C0, sa_C0⟩ na_C0_owner na_C0_entries g_by b_fBy
  have g_f0O := ok_folO F_fI0 TS ⟨pg_C0, hd_C0, po_C0, sa_C0⟩ na_C0_owner na_C0_entries g_byO b_fBy
  have g_made := ok_made F_fMade TG TM g_f0 b_fI0 g_f1 b_fI1 g_f2 b_fI2 g_f3 b_fI3
  have g_we := ok_we F_fWE TK TS TN TW g_name b_fName g_may b_fMay
  have g_wn := ok_wn F_fWN TK TG TW g_owner b_fOwner g_we b_fWE g_bad b_fBad g_stood b_fStood
  have g_et := ok_et (P := l.prog) (w := w) (base := base) F_fET TK TG
  have g_cn := ok_cn F_fCN TK TG TW g_wn b_fWN
  have g_cf := ok_cf F_fCF TK TT TG g_et b_fET g_ff b_fFF
  have g_ti := ok_treeI F_fTI TS TT ⟨pg_CT, hd_CT, po_CT, sa_CT⟩ na_CT_nodes g_cn b_fCN g_cf b_fCF
  have g_tt := ok_treeT F_fTI TS TT ⟨pg_CT, hd_CT, po_CT, sa_CT⟩ na_CT_nodes g_cn b_fCN g_cf b_fCF
  have g_tree := ok_tree F_fTree TV MT g_made b_fMade g_ti b_fTI
  have hE : EqF4 l.prog w K mg base (quad C0 C1 C2 C3) (quad fQ0 fQ1 fQ2 fQ3) := all4 (⟨_, eq_Folder F_fQ0 (PySem.W.mg_none_of X G z_isinstance) (PySem.W.mg_of X G a_C0) ⟨pg_C0, hd_C0, po_C0, sa_C0⟩ ⟨e1_C0, c2, c3, e3_C0⟩ (nal_cons na_C0_owner (nal_cons na_C0_entries nal_nil)), b_fQ0⟩) (⟨_, eq_File F_fQ1 (PySem.W.mg_none_of X G z_isinstance) (PySem.W.mg_of X G a_C1) ⟨pg_C1, hd_C1, po_C1, sa_C1⟩ ⟨e1_C1, c2, c3, e3_C1⟩ (nal_cons na_C1_owner nal_nil), b_fQ1⟩) (⟨_, eq_Link F_fQ2 (PySem.W.mg_none_of X G z_isinstance) (PySem.W.mg_of X G a_C2) ⟨pg_C2, hd_C2, po_C2, sa_C2⟩ ⟨e1_C2, c2, c3, e3_C2⟩ (nal_cons na_C2_owner (nal_cons na_C2_text nal_nil)), b_fQ2⟩) (⟨_, eq_Gone F_fQ3 (PySem.W.mg_none_of X G z_isinstance) (PySem.W.mg_of X G a_C3) ⟨pg_C3, hd_C3, po_C3, sa_C3⟩ ⟨e1_C3, c2, c3, e3_C3⟩ (nal_cons na_C3_owner (nal_cons na_C3_above nal_nil)), b_fQ3⟩)
  have g_te := ok_treeE F_fQ4 (PySem.W.mg_none_of X G z_isinstance) (PySem.W.mg_of X G a_CT) ⟨pg_CT, hd_CT, po_CT, sa_CT⟩ TC na_CT_nodes TG T4 hE
  have g_tu := ok_turn F_fTu TK (PySem.W.mg_none_of X G z_list) g_digit b_fDigit
  have g_fl := ok_flds (P := l.prog) (w := w) (base := base) F_fFl TK TG
  have g_du := ok_due (P := l.prog) (w := w) (base := base) F_fDu TS
  have g_od := ok_odd F_fOd TK TS TG M0 g_digit b_fDigit g_f0 g_f0O b_fI0
  exact ok_law (fi := (quad fI0 fI1 fI2 fI3)) F_fLaw TK TS TG TV TL T4 hE TE TC ⟨pg_CT, hd_CT, po_CT, sa_CT⟩ na_CT_nodes (nfT st_T) (kit_own hd_CT tp_CT st_T rfl) (nfT si_1) (kit_own hd_C1 tp_C1 si_1 rfl) MT M0 M1 M2 M3 g_state b_fState g_digit b_fDigit g_nodes b_fNodes g_made b_fMade g_tree b_fTree g_fl b_fFl g_du b_fDu g_tu b_fTu g_od b_fOd g_ti g_tt b_fTI g_te b_fQ4 g_f0 b_fI0 g_f1 b_fI1 g_f2 b_fI2 g_f3 b_fI3
theorem walk {l : PySem.W.OpenLaw} {q : Program} {loose : List Str} {XP : (Str → Option Value) → Heap → Prop} {YP : World → Heap → Prop} {d : DefRec} {K : Params → PySem.W.Frag} (hn : l.most = some 63) (hdf : d.params.defaults = []) (hrec : ((recsOf q).find? fun e => e.name == ("by_names" : Str)).isSome = true)
    (hY : ∀ (w : World) (h : Heap), YP w h → (K w.params).In h)
    (F : ∀ (w : World) (mg : Str → Option Value) (fa : Addr) (h : Heap), (K w.params).In h → h.Ns mainGlobals mg → mg d.name = some (.ref fa) → (∀ c P, PySem.W.tabIn (K w.params) "by_names" = some (c, P) → PySem.W.CodeHd h c P ∧ h.get? P = some (PySem.W.tabObj #[])) →
      LawAtS l w (K w.params) CX0 10 63 "_law_script" mg fa h) :
    PySem.W.WalkO q loose XP YP l.row.toRowW d [] (fun f vs => PySem.call f vs) :=
  walk_tab (n := 63) (k := 10) (x := "_law_script") (CX := fun _ => CX0) hn (by decide) hdf ⟨rfl, by decide, by decide⟩ hrec hY (fun w mg fa h _ KX G hm t => F w mg fa h KX G hm t) fun _ _ _ _ _ z => z
end NW

open PySem PySem.W PyProof.Rows
set_option maxRecDepth 100000 in
set_option maxHeartbeats 0 in
theorem PySem.Challenge.cw_namewalk_k04_trees_as_things_holds : PySem.Challenge.rw_namewalk_k04_trees_as_things.Holds := by
  w_on; o_law; k_head; (case hw => w_witness2)
  k_fill
  refine NW.walk (l := PySem.Challenge.rw_namewalk_k04_trees_as_things) rfl rfl (by rfl) (fun w h Y => PySem.W.km_in_of Y) ?F
  case F =>
    intro w mg fa h KX G hmg tb
    refine' NW.all_mk KX G hmg tb ?a_C0 ?k_C0 ?pg_C0 ?hd_C0 ?po_C0 ?sa_C0 ?mk_C0 ?na_C0_owner ?na_C0_entries ?e3_C0 ?e1_C0 ?tp_C0 ?a_C1 ?k_C1 ?pg_C1 ?hd_C1 ?po_C1 ?sa_C1 ?mk_C1 ?na_C1_owner ?e3_C1 ?e1_C1 ?tp_C1 ?a_C2 ?k_C2 ?pg_C2 ?hd_C2 ?po_C2 ?sa_C2 ?mk_C2 ?na_C2_owner ?na_C2_text ?e3_C2 ?e1_C2 ?tp_C2 ?a_C3 ?k_C3 ?pg_C3 ?hd_C3 ?po_C3 ?sa_C3 ?mk_C3 ?na_C3_owner ?na_C3_above ?e3_C3 ?e1_C3 ?tp_C3 ?s_01 ?n_01 ?s_02 ?n_02 ?s_03 ?n_03 ?s_10 ?n_10 ?s_12 ?n_12 ?s_13 ?n_13 ?s_20 ?n_20 ?s_21 ?n_21 ?s_23 ?n_23 ?s_30 ?n_30 ?s_31 ?n_31 ?s_32 ?n_32 ?c2 ?c3 ?a_CT ?k_CT ?pg_CT ?hd_CT ?po_CT ?sa_CT ?mk_CT ?na_CT_nodes ?e3_CT ?e1_CT ?tp_CT ?ob_0 ?ne_0 ?ob_1 ?ne_1 ?ob_2 ?ne_2 ?ob_3 ?ne_3 ?ob_4 ?ne_4 ?st_T ?si_1 ?gLN ?gLL ?gRO ?z_isinstance ?z_str ?z_len ?z_all ?z_int ?z_abs ?z_tuple ?z_range ?z_bool ?z_min ?z_sorted ?z_enumerate ?z_set ?z_list ?a_fName ?l_fName ?c_fName ?k_fName ?a_fStep ?l_fStep ?c_fStep ?k_fStep ?a_fBad ?l_fBad ?c_fBad ?k_fBad ?a_fNum ?l_fNum ?c_fNum ?k_fNum ?a_fOwner ?l_fOwner ?c_fOwner ?k_fOwner ?a_fAt ?l_fAt ?c_fAt ?k_fAt ?a_fPool ?l_fPool ?c_fPool ?k_fPool ?a_fTxt ?l_fTxt ?c_fTxt ?k_fTxt ?a_fFree ?l_fFree ?c_fFree ?k_fFree ?a_fState ?l_fState ?c_fState ?k_fState ?a_fDigit ?l_fDigit ?c_fDigit ?k_fDigit ?a_fNodes ?l_fNodes ?c_fNodes ?k_fNodes ?a_fI0 ?i_fI0 ?l_fI0 ?c_fI0 ?k_fI0 ?a_fI1 ?i_fI1 ?l_fI1 ?c_fI1 ?k_fI1 ?a_fI2 ?i_fI2 ?l_fI2 ?c_fI2 ?k_fI2 ?a_fI3 ?i_fI3 ?l_fI3 ?c_fI3 ?k_fI3 ?a_fTI ?i_fTI ?l_fTI ?c_fTI ?k_fTI ?a_fQ0 ?i_fQ0 ?l_fQ0 ?c_fQ0 ?k_fQ0 ?a_fQ1 ?i_fQ1 ?l_fQ1 ?c_fQ1 ?k_fQ1 ?a_fQ2 ?i_fQ2 ?l_fQ2 ?c_fQ2 ?k_fQ2 ?a_fQ3 ?i_fQ3 ?l_fQ3 ?c_fQ3 ?k_fQ3 ?a_fQ4 ?i_fQ4 ?l_fQ4 ?c_fQ4 ?k_fQ4 ?a_fMay ?l_fMay ?c_fMay ?k_fMay ?a_fStood ?l_fStood ?c_fStood ?k_fStood ?a_fFF ?l_fFF ?c_fFF ?k_fFF ?a_fBy ?l_fBy ?c_fBy ?k_fBy ?cB ?lB ?vB ?nB ?a_fMade ?l_fMade ?c_fMade ?k_fMade ?a_fWE ?l_fWE ?c_fWE ?k_fWE ?a_fWN ?l_fWN ?c_fWN ?k_fWN ?a_fET ?l_fET ?c_fET ?k_fET ?a_fCN ?l_fCN ?c_fCN ?k_fCN ?a_fCF ?l_fCF ?c_fCF ?k_fCF ?a_fTree ?l_fTree ?c_fTree ?k_fTree ?a_fTu ?l_fTu ?c_fTu ?k_fTu ?a_fFl ?l_fFl ?c_fFl ?k_fFl ?a_fDu ?l_fDu ?c_fDu ?k_fDu ?a_fOd ?l_fOd ?c_fOd ?k_fOd ?a_fLaw ?l_fLaw ?c_fLaw ?k_fLaw
    (case a_C0 => k_is)
    (case k_C0 => k_is)
    (case pg_C0 => k_is)
    (case hd_C0 => k_is)
    (case po_C0 => k_is)
    (case sa_C0 => k_is)
    (case mk_C0 => k_is)
    (case na_C0_owner => k_is)
    (case na_C0_entries => k_is)
    (case e3_C0 => k_is)
    (case e1_C0 => k_is)
    (case tp_C0 => k_is)
    (case a_C1 => k_is)
    (case k_C1 => k_is)
    (case pg_C1 => k_is)
    (case hd_C1 => k_is)
    (case po_C1 => k_is)
    (case sa_C1 => k_is)
    (case mk_C1 => k_is)
    (case na_C1_owner => k_is)
    (case e3_C1 => k_is)
    (case e1_C1 => k_is)
    (case tp_C1 => k_is)
    (case a_C2 => k_is)
    (case k_C2 => k_is)
    (case pg_C2 => k_is)
    (case hd_C2 => k_is)
    (case po_C2 => k_is)
    (case sa_C2 => k_is)
    (case mk_C2 => k_is)
    (case na_C2_owner => k_is)
    (case na_C2_text => k_is)
    (case e3_C2 => k_is)
    (case e1_C2 => k_is)
    (case tp_C2 => k_is)
    (case a_C3 => k_is)
    (case k_C3 => k_is)
    (case pg_C3 => k_is)
    (case hd_C3 => k_is)
    (case po_C3 => k_is)
    (case sa_C3 => k_is)
    (case mk_C3 => k_is)
    (case na_C3_owner => k_is)
    (case na_C3_above => k_is)
    (case e3_C3 => k_is)
    (case e1_C3 => k_is)
    (case tp_C3 => k_is)
    (case s_01 => k_is)
    (case n_01 => first | rfl | decide)
    (case s_02 => k_is)
    (case n_02 => first | rfl | decide)
    (case s_03 => k_is)
    (case n_03 => first | rfl | decide)
    (case s_10 => k_is)
    (case n_10 => first | rfl | decide)
    (case s_12 => k_is)
    (case n_12 => first | rfl | decide)
    (case s_13 => k_is)
    (case n_13 => first | rfl | decide)
    (case s_20 => k_is)
    (case n_20 => first | rfl | decide)
    (case s_21 => k_is)
    (case n_21 => first | rfl | decide)
    (case s_23 => k_is)
    (case n_23 => first | rfl | decide)
    (case s_30 => k_is)
    (case n_30 => first | rfl | decide)
    (case s_31 => k_is)
    (case n_31 => first | rfl | decide)
    (case s_32 => k_is)
    (case n_32 => first | rfl | decide)
    (case c2 => k_is)
    (case c3 => k_is)
    (case a_CT => k_is)
    (case k_CT => k_is)
    (case pg_CT => k_is)
    (case hd_CT => k_is)
    (case po_CT => k_is)
    (case sa_CT => k_is)
    (case mk_CT => k_is)
    (case na_CT_nodes => k_is)
    (case e3_CT => k_is)
    (case e1_CT => k_is)
    (case tp_CT => k_is)
    (case ob_0 => k_is)
    (case ne_0 => k_is)
    (case ob_1 => k_is)
    (case ne_1 => k_is)
    (case ob_2 => k_is)
    (case ne_2 => k_is)
    (case ob_3 => k_is)
    (case ne_3 => k_is)
    (case ob_4 => k_is)
    (case ne_4 => k_is)
    (case st_T => k_is)
    (case si_1 => k_is)
    (case gLN => k_is)
    (case gLL => k_is)
    (case gRO => k_is)
    (case z_isinstance => k_is)
    (case z_str => k_is)
    (case z_len => k_is)
    (case z_all => k_is)
    (case z_int => k_is)
    (case z_abs => k_is)
    (case z_tuple => k_is)
    (case z_range => k_is)
    (case z_bool => k_is)
    (case z_min => k_is)
    (case z_sorted => k_is)
    (case z_enumerate => k_is)
    (case z_set => k_is)
    (case z_list => k_is)
    (case a_fName => k_is)
    (case l_fName => k_is)
    (case c_fName => k_is)
    (case k_fName => k_is)
    (case a_fStep => k_is)
    (case l_fStep => k_is)
    (case c_fStep => k_is)
    (case k_fStep => k_is)
    (case a_fBad => k_is)
    (case l_fBad => k_is)
    (case c_fBad => k_is)
    (case k_fBad => k_is)
    (case a_fNum => k_is)
    (case l_fNum => k_is)
    (case c_fNum => k_is)
    (case k_fNum => k_is)
    (case a_fOwner => k_is)
    (case l_fOwner => k_is)
    (case c_fOwner => k_is)
    (case k_fOwner => k_is)
    (case a_fAt => k_is)
    (case l_fAt => k_is)
    (case c_fAt => k_is)
    (case k_fAt => k_is)
    (case a_fPool => k_is)
    (case l_fPool => k_is)
    (case c_fPool => k_is)
    (case k_fPool => k_is)
    (case a_fTxt => k_is)
    (case l_fTxt => k_is)
    (case c_fTxt => k_is)
    (case k_fTxt => k_is)
    (case a_fFree => k_is)
    (case l_fFree => k_is)
    (case c_fFree => k_is)
    (case k_fFree => k_is)
    (case a_fState => k_is)
    (case l_fState => k_is)
    (case c_fState => k_is)
    (case k_fState => k_is)
    (case a_fDigit => k_is)
    (case l_fDigit => k_is)
    (case c_fDigit => k_is)
    (case k_fDigit => k_is)
    (case a_fNodes => k_is)
    (case l_fNodes => k_is)
    (case c_fNodes => k_is)
    (case k_fNodes => k_is)
    (case a_fI0 => k_is)
    (case i_fI0 => k_is)
    (case l_fI0 => k_is)
    (case c_fI0 => k_is)
    (case k_fI0 => k_is)
    (case a_fI1 => k_is)
    (case i_fI1 => k_is)
    (case l_fI1 => k_is)
    (case c_fI1 => k_is)
    (case k_fI1 => k_is)
    (case a_fI2 => k_is)
    (case i_fI2 => k_is)
    (case l_fI2 => k_is)
    (case c_fI2 => k_is)
    (case k_fI2 => k_is)
    (case a_fI3 => k_is)
    (case i_fI3 => k_is)
    (case l_fI3 => k_is)
    (case c_fI3 => k_is)
    (case k_fI3 => k_is)
    (case a_fTI => k_is)
    (case i_fTI => k_is)
    (case l_fTI => k_is)
    (case c_fTI => k_is)
    (case k_fTI => k_is)
    (case a_fQ0 => k_is)
    (case i_fQ0 => k_is)
    (case l_fQ0 => k_is)
    (case c_fQ0 => k_is)
    (case k_fQ0 => k_is)
    (case a_fQ1 => k_is)
    (case i_fQ1 => k_is)
    (case l_fQ1 => k_is)
    (case c_fQ1 => k_is)
    (case k_fQ1 => k_is)
    (case a_fQ2 => k_is)
    (case i_fQ2 => k_is)
    (case l_fQ2 => k_is)
    (case c_fQ2 => k_is)
    (case k_fQ2 => k_is)
    (case a_fQ3 => k_is)
    (case i_fQ3 => k_is)
    (case l_fQ3 => k_is)
    (case c_fQ3 => k_is)
    (case k_fQ3 => k_is)
    (case a_fQ4 => k_is)
    (case i_fQ4 => k_is)
    (case l_fQ4 => k_is)
    (case c_fQ4 => k_is)
    (case k_fQ4 => k_is)
    (case a_fMay => k_is)
    (case l_fMay => k_is)
    (case c_fMay => k_is)
    (case k_fMay => k_is)
    (case a_fStood => k_is)
    (case l_fStood => k_is)
    (case c_fStood => k_is)
    (case k_fStood => k_is)
    (case a_fFF => k_is)
    (case l_fFF => k_is)
    (case c_fFF => k_is)
    (case k_fFF => k_is)
    (case a_fBy => k_is)
    (case l_fBy => k_is)
    (case c_fBy => k_is)
    (case k_fBy => k_is)
    (case cB => rfl)
    (case lB => k_is)
    (case vB => rfl)
    (case nB => first | k_is | rfl | kernel_rfl)
    (case a_fMade => k_is)
    (case l_fMade => k_is)
    (case c_fMade => k_is)
    (case k_fMade => k_is)
    (case a_fWE => k_is)
    (case l_fWE => k_is)
    (case c_fWE => k_is)
    (case k_fWE => k_is)
    (case a_fWN => k_is)
    (case l_fWN => k_is)
    (case c_fWN => k_is)
    (case k_fWN => k_is)
    (case a_fET => k_is)
    (case l_fET => k_is)
    (case c_fET => k_is)
    (case k_fET => k_is)
    (case a_fCN => k_is)
    (case l_fCN => k_is)
    (case c_fCN => k_is)
    (case k_fCN => k_is)
    (case a_fCF => k_is)
    (case l_fCF => k_is)
    (case c_fCF => k_is)
    (case k_fCF => k_is)
    (case a_fTree => k_is)
    (case l_fTree => k_is)
    (case c_fTree => k_is)
    (case k_fTree => k_is)
    (case a_fTu => k_is)
    (case l_fTu => k_is)
    (case c_fTu => k_is)
    (case k_fTu => k_is)
    (case a_fFl => k_is)
    (case l_fFl => k_is)
    (case c_fFl => k_is)
    (case k_fFl => k_is)
    (case a_fDu => k_is)
    (case l_fDu => k_is)
    (case c_fDu => k_is)
    (case k_fDu => k_is)
    (case a_fOd => k_is)
    (case l_fOd => k_is)
    (case c_fOd => k_is)
    (case k_fOd => k_is)
    (case a_fLaw => k_is)
    (case l_fLaw => k_is)
    (case c_fLaw => k_is)
    (case k_fLaw => k_is)
