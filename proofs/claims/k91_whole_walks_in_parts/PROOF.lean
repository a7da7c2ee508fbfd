import PyProof.Rows.All
import Wide.All
import OpenK.AllK
import Wide.FinOn
import HandS.ForMost
import HandS.IsInst
import HandS.Walk
import HandS.ForExc
import HandS.Small
import HandS.OwnEq
import PyProof.InstNe
import HandS.Sort
import KE.SortData
import KE.SortKeyHeap
import HandS.Lambda
import HandS.SortKw
import HandS.Strs
import KE.GoesEnum
import HandS.CallLocal
import HandS.ExcField
import HandS.ExcOwn
import HandS.Dict
import KE.KDictPairs
import HandS.DictComp
import HandS.ExcInit
import HandS.Codes
import HandS.Iter
import HandS.Text
import HandS.Flow
import HandS.TupAny
import HandS.Conv
import HandS.Style
import HandS.EndOwn
import PySem.Challenge.RW_namewalk_k91_whole_walks_in_parts
set_option Elab.async false
set_option maxRecDepth 100000
set_option maxHeartbeats 4000000
/-! NG: general lemmas over the hand layer -/
namespace NG
open PySem L2
theorem Same.upd {H : Hp} {p : Addr} {o : HO} (h : H p = none) : Same H (upd H p o) := fun a u e => by rw [upd_ne (ne_of_none e h)]; exact e
theorem Same.sqT {K : PySem.W.Frag} {H H' : Hp} {a : Addr} {xs : List V} (e : Same H H') (h : SqT K H a xs) : SqT K H' a xs := by
  rcases h with (h | ⟨o, h⟩) | h
  · exact .inl (.inl (e _ _ h))
  · exact .inl (.inr ⟨o, e _ _ h⟩)
  · exact .inr h
/-- all but p as it was -/
def But (p : Addr) (H H' : Hp) : Prop := ∀ b o, H b = some o → b ≠ p → H' b = some o
theorem But.refl (p : Addr) (H : Hp) : But p H H := fun _ _ h _ => h
theorem But.trans {p : Addr} {H H1 H2 : Hp} (a : But p H H1) (b : But p H1 H2) : But p H H2 := fun c o h n => b c o (a c o h n) n
theorem But.same {p : Addr} {H H1 H2 : Hp} (a : But p H H1) (b : Same H1 H2) : But p H H2 := fun c o h n => b c o (a c o h n)
theorem But.ofSame {p : Addr} {H H1 : Hp} (a : Same H H1) : But p H H1 := fun c o h _ => a c o h
theorem But.upd {p : Addr} {H H1 : Hp} {o : HO} (a : But p H H1) : But p H (L2.upd H1 p o) := fun c u h n => by rw [upd_ne n]; exact a c u h n
theorem But.sqT {K : PySem.W.Frag} {p dx C : Addr} {fs : List (Str × V)} {H H' : Hp} {a : Addr} {xs : List V} (hp : H p = some (.ins C dx fs)) (e : But p H H') (h : SqT K H a xs) : SqT K H' a xs := by
  rcases h with (h | ⟨o, h⟩) | h
  · exact .inl (.inl (e _ _ h (ne_of h hp (by intro z; cases z))))
  · exact .inl (.inr ⟨o, e _ _ h (ne_of h hp (by intro z; cases z))⟩)
  · exact .inr h
theorem len_putF (f : Str) (v : V) : ∀ fs : List (Str × V), (putF f v fs).length ≤ fs.length + 1
  | [] => by unfold putF; simp
  | (g, w) :: r => by
    have := len_putF f v r
    unfold putF
    split
    · simp
    · simp only [List.length_cons]; omega
theorem take_succ {α : Type} {l : List α} {i : Nat} {x : α} (h : l[i]? = some x) : l.take (i + 1) = l.take i ++ [x] := by rw [List.take_add_one, h]; rfl
/-- a comprehension of one clause over what a walk gives: items f x for those of xs with p x; tests and items may lay new objects -/
theorem lc_gen {J : It} {xs : List V} {G : Hp → Prop} (w : Walk J xs.length G (YAt xs)) {tt : TT} {te : TE} {i : Nat} {σ : St} {H1 : Hp} {D : Addr} {Q : Hp → Prop} (p : V → Bool) (f : V → V) (hx : xs.length < sizeLine) (hD : H1 D = none) (hG : ∀ H, Same H1 H → G H)
    (ht : ∀ (k : Nat) (x : V) (H : Hp) (R : Bool → Hp → Prop), xs[k]? = some x → Same H1 H → (∀ H', Same H H' → R (p x) H') → tt ((wipe σ [i]).set i (some x)) H R)
    (he : ∀ (k : Nat) (x : V) (H : Hp) (R : V → Hp → Prop), xs[k]? = some x → p x = true → Same H1 H → (∀ H', Same H H' → R (f x) H') → te ((wipe σ [i]).set i (some x)) H R)
    (hd : ∀ H, Same H1 H → H D = some (.lst ((xs.filter p).map f)) → Q H) :
    ∃ W : Nat → Nat → Hp → Prop, (∃ m, W 0 m (L2.upd H1 D (.lst []))) ∧ ∀ k m H, W k m H →
      (J.stop k H ∧ Q H) ∨ (J.go k H ∧ ∃ Nx : Hp → Prop, (∀ H', Nx H' → ∃ m', m' < m ∧ W (k + 1) m' H') ∧ ∀ x H', J.yld k H x H' → gName i x (wipe σ [i]) H' fun σ2 H2 => wipe σ2 [i] = wipe σ [i] ∧ tt σ2 H2 fun b H3 =>
        if b = true then te σ2 H3 fun y H4 => ∃ acc, H4 D = some (.lst acc) ∧ acc.length < sizeLine ∧ Nx (L2.upd H4 D (.lst (acc ++ [y]))) else Nx H3) := by
  refine lc_it w (fun k H => Same H1 H ∧ H D = some (.lst (((xs.take k).filter p).map f))) ⟨Same.upd hD, by rw [upd_same]; simp⟩ (fun _ H _ h => hG H h.1) ?_ ?_
  · rintro k x H H' hk ⟨s1, eD⟩ ⟨rfl, hxk⟩
    refine ⟨?_, ?_⟩
    · show List.set (List.set (List.set σ i none) i _) i none = List.set σ i none
      rw [List.set_set, List.set_set]
    · have et := take_succ hxk
      have ll : (((xs.take k).filter p).map f).length < sizeLine := by
        rw [List.length_map]
        have := List.length_filter_le p (xs.take k)
        have := List.length_take_le k xs
        omega
      refine ht k x _ _ hxk s1 (fun H3 s3 => ?_)
      have eD3 := s3 _ _ eD
      have s13 := s1.trans s3
      refine ite2 (fun hp => ?_) (fun hp => ?_)
      · refine he k x _ _ hxk hp s13 (fun H4 s4 => ⟨_, s4 _ _ eD3, ll, ?_, ?_⟩)
        · intro b o e
          have hb : b ≠ D := ne_of_none e hD
          rw [upd_ne hb]
          exact s4 _ _ (s13 _ _ e)
        · rw [upd_same, et, List.filter_append, List.map_append]
          congr 2
          congr 1
          have : [x].filter p = [x] := by simp [hp]
          rw [this]
          rfl
      · refine ⟨s13, ?_⟩
        rw [et, List.filter_append, List.map_append]
        have : [x].filter p = [] := by simp [hp]
        rw [this]
        simpa using eD3
  · rintro H ⟨s1, eD⟩
    rw [List.take_length] at eD
    exact hd H s1 eD
/-- the same without a test -/
theorem lc_map {J : It} {xs : List V} {G : Hp → Prop} (w : Walk J xs.length G (YAt xs)) {te : TE} {i : Nat} {σ : St} {H1 : Hp} {D : Addr} {Q : Hp → Prop} (f : V → V) (hx : xs.length < sizeLine) (hD : H1 D = none) (hG : ∀ H, Same H1 H → G H)
    (he : ∀ (k : Nat) (x : V) (H : Hp) (R : V → Hp → Prop), xs[k]? = some x → Same H1 H → (∀ H', Same H H' → R (f x) H') → te ((wipe σ [i]).set i (some x)) H R)
    (hd : ∀ H, Same H1 H → H D = some (.lst (xs.map f)) → Q H) :
    ∃ W : Nat → Nat → Hp → Prop, (∃ m, W 0 m (L2.upd H1 D (.lst []))) ∧ ∀ k m H, W k m H →
      (J.stop k H ∧ Q H) ∨ (J.go k H ∧ ∃ Nx : Hp → Prop, (∀ H', Nx H' → ∃ m', m' < m ∧ W (k + 1) m' H') ∧ ∀ x H', J.yld k H x H' → gName i x (wipe σ [i]) H' fun σ2 H2 => wipe σ2 [i] = wipe σ [i] ∧ tYes σ2 H2 fun b H3 =>
        if b = true then te σ2 H3 fun y H4 => ∃ acc, H4 D = some (.lst acc) ∧ acc.length < sizeLine ∧ Nx (L2.upd H4 D (.lst (acc ++ [y]))) else Nx H3) :=
  lc_gen w (fun _ => true) f hx hD hG (fun _ _ H _ _ _ h => h H (L2.Same.refl H)) (fun k x H R h _ s r => he k x H R h s r) (fun H s e => hd H s (by rw [List.filter_eq_self.mpr (fun _ _ => rfl)] at e; exact e))
end NG

set_option maxRecDepth 100000
set_option maxHeartbeats 4000000
/-! == and != by an own __eq__, both answers -/
namespace NG
open PySem PySem.W PySem.Calls PyProof.Rows Builtin
section
variable {prog : Program} {w : World} {A : Around} {E : Value → Shared → Prop} {s : Shared} {K : Frag} {x C f : Addr} {ox : Obj} {od : Option Obj} {name : Str} {b tb : Value}
theorem ifBound_B {M : Model} {id : String} {args : List Value} {Q : Option Value → Shared → Prop} (X : K.In s.heap) (I : InstAt s.heap x ox C od) (hs : findIn K (.ref C) name = some (some (.builtin id)))
    (hb : ∀ self, bindSpecial (.builtin id) self = pure (.builtin id, [self]))
    (h : wpAny M A (call (.builtin id) (.ref x :: args)) (fun v => Q (some v)) E s) : wpAny M A (callSpecialIfBound? (.ref x) name args) Q E s := by
  simp only [callSpecialIfBound?, bindSpecialIfBound?]
  refine wpAny_holding (wpAny_bind (wpAny_bind (wpAny_bind (I.type.here ((looks_findIn X hs).here ?_)))))
  simp only [hb]
  refine wpAny_bind (wpAny_askSetting (wpAny_ite ?_))
  have fin : wpAny M A (call (.builtin id) ([.ref x] ++ args) >>= fun v => pure (some v)) Q E s := wpAny_bind (wpAny_mono h (fun v s' h' => wpAny_pure h') fun _ _ h' => h')
  split
  · exact wpAny_bind (wpAny_pure (wpAny_pure fin))
  · exact wpAny_tryCatch (wpAny_bind (wpAny_pure (wpAny_pure fin)))
theorem objNe_K (X : K.In s.heap) (I : InstAt s.heap x ox C od) (hs : findIn K (.ref C) "__eq__" = some (some (.ref f))) (hf : isFn K (.ref f) = true) (hu : A.units < cLine) {Q : Fin → Shared → Prop}
    (hcall : wpAny (model prog w) A (call (.ref f) [.ref x, b]) (fun v s' => ∃ r, v = .bool r ∧ Q (.done (.ret (.bool (!r)))) s') E s) :
    wpAny (model prog w) A (Builtin.«object.__ne__» ⟨[.ref x, b], []⟩) Q E s := by
  obtain ⟨h, g, d, t, os⟩ := s
  unfold Builtin.«object.__ne__»
  repeat (first
    | with_reducible refine wpAny_cRoomFor hu ?_
    | (refine wpAny_bind (m := callSpecialIfBound? (.ref x) (Str.ofString "__eq__") [b])
        (ifBound_K X I hs hf (wpAny_mono hcall (fun r s' hr => by
          obtain ⟨b, rfl, hq⟩ := hr
          repeat (first | exact hq | exact wpAny_pure hq | exact wpAny_truthy_bool hq | (refine wpAny_bind (m := truthy (.bool _)) (wpAny_truthy_bool ?_)) | wp_step)) fun _ _ e => e)))
    | wp_step)
theorem ne_K {Q : Value → Shared → Prop} (hu : A.units + 1 < cLine) (X : K.In s.heap) (I : InstAt s.heap x ox C od) (hb : Looks (model prog w) s.heap (typeOf b) tb) (hn : notFirst K C tb = true)
    (ho : subIn K (.ref C) (.type "object") = some true) (hne : findIn K (.ref C) "__ne__" = some (some (.builtin "object.__ne__")))
    (hs : findIn K (.ref C) "__eq__" = some (some (.ref f))) (hf : isFn K (.ref f) = true)
    (h : wpAny (model prog w) A.in1 (call (.ref f) [.ref x, b]) (fun v s' => ∃ r, v = .bool r ∧ Q (.bool (!r)) s') E s) : wpAny (model prog w) A (richCompare .NotEq (.ref x) b) Q E s := by
  have one : wpAny (model prog w) A (tryCompare (.ref x) "__ne__" b) (fun r s' => ∃ v, r = some v ∧ Q v s') E s := by
    unfold tryCompare
    refine wpAny_bind (ifBound_B X I hne F.cmp_object.ne.bind (wpAny_call (codeAny_call_builtin F.cmp_object.ne.plain F.cmpEntry_ne
      (check_slot F.cmpKind_ne F.cmpSplit_ne (I.type.andThen (looks_subIn X ho)) (F.cmpArgs_ne _ _) (objNe_K (A := A.in1) X I hs hf (by exact hu) (wpAny_mono h (fun v s' hv => ?_) fun _ _ e => e))))))
    obtain ⟨r, rfl, hq⟩ := hv
    first | exact ⟨r, rfl, wpAny_pure ⟨_, rfl, hq⟩⟩ | exact ⟨r, rfl, wpAny_pure (wpAny_pure ⟨_, rfl, hq⟩)⟩ | exact ⟨r, rfl, _, rfl, hq⟩
  unfold richCompare
  simp only [oneThing_ref]
  refine wpAny_holding (wpAny_bind (wpAny_cRoomFor (Nat.lt_of_succ_lt hu) ?_))
  rw [cmpInfo_NotEq]
  dsimp only
  refine wpAny_bind (I.type.here (wpAny_bind (hb.here ?_)))
  split
  · rename_i q
    have e : subIn K tb (.ref C) = some false := by
      rcases Bool.or_eq_true_iff.mp hn with e | e
      · rw [beq_iff_eq.mp e] at q; simp at q
      · exact beq_iff_eq.mp e
    refine wpAny_bind ((looks_subIn X e).here ?_)
    simp only [Bool.false_eq_true, if_false]
    refine wpAny_bind (wpAny_mono one (fun r s' z => ?_) fun _ _ e => e)
    obtain ⟨v, rfl, hq⟩ := z
    exact wpAny_pure hq
  · refine wpAny_bind (wpAny_pure ?_)
    simp only [Bool.false_eq_true, if_false]
    refine wpAny_bind (wpAny_mono one (fun r s' z => ?_) fun _ _ e => e)
    obtain ⟨v, rfl, hq⟩ := z
    exact wpAny_pure hq
end
end NG

namespace NG
open PySem L2
section
variable {X : Cx} {n : Nat} {C f : Addr} {fd : FuncData} {ps : List Str} {sp : Sp} {CX : CXT} {E : XK}
/-- x == y, x of a class with its own == : what that def promises of the two -/
def rOwn (K : PySem.W.Frag) (C : Addr) (sp : Sp) (E : XK) (g : Bool → Bool) : R2 := fun x y H Q => ∃ (a dx : Addr) (fs : List (Str × V)) (t : Value), x = .ref a ∧ H a = some (.ins C dx fs) ∧ TyX K H y t ∧ PySem.W.notFirst K C t = true ∧ sp [x, y] H (fun v H' => ∃ k, v = .bl k ∧ Q (.bl (g k)) H') E
theorem own_run (F : FnOk X.prog X.w X.K X.mg X.base CX n f fd ps sp) (hb : Binds X.K fd ps []) (hx : Passes CX X E) {A : Around} {pins : List (Addr × Obj)} {s : Shared} {σ : St} {H : Hp} {a : Addr} {y : V} {u : Value} {R : Bool → Hp → Prop} (sb : Sub X n A) (I : Inv X pins σ H s) (ry : RelV y u)
    (hsp : sp [.ref a, y] H (fun v H' => ∃ k, v = .bl k ∧ R k H') E) :
    wpAny (model X.prog X.w) A (call (.ref f) [.ref a, u]) (fun v s' => ∃ k, v = .bool k ∧ ∃ H', Inv X pins σ H' s' ∧ R k H') X.xe s := by
  have e0 : Env0 X.prog X.w X.K X.mg X.base A X.stack s H := by
    have e := I.env0
    exact ⟨by rw [sb.fr]; exact e.frames, e.mod, e.bs, e.bsz, e.funs, e.frf, e.hok, e.bare⟩
  have hl := F.len _ _ _ _ hsp
  have r2 : Vals [V.ref a, y] [Value.ref a, u] := .cons rfl (.cons ry .nil)
  refine wpAny_call (codeAny_mono (F.run A X.stack s H ⟨[.ref a, u], []⟩ [.ref a, u] [.ref a, y] _ E sb.room e0 (by
    have := hb s [.ref a, u] I.kIn (by simpa using hl)
    simpa using this) r2 hsp) fun r s' hq => ?_)
  cases r with
  | error e => exact hx pins σ H s e s' I hq
  | ok fl =>
    cases fl with
    | ret w =>
      obtain ⟨z, H', I', rz, k, ez, q⟩ := I.after hq
      subst ez
      cases rz
      exact ⟨k, rfl, H', I', q⟩
    | next => exact False.elim hq
    | brk => exact False.elim hq
    | cont => exact False.elim hq
theorem op_eqOwn (F : FnOk X.prog X.w X.K X.mg X.base CX n f fd ps sp) (hr : Room n X.A) (hs : PySem.W.findIn X.K (.ref C) "__eq__" = some (some (.ref f))) (hf : PySem.W.isFn X.K (.ref f) = true) (hb : Binds X.K fd ps []) (hx : Passes CX X E) :
    OpR X (compareOp .Eq) (rOwn X.K C sp E fun k => k) := by
  intro pins s σ H x y v u Q I rx ry h
  obtain ⟨a, dx, fs, t, rfl, ha, ty, hn, hsp⟩ := h
  cases rx
  obtain ⟨mA, J, _⟩ := ins_get I.hok ha
  obtain ⟨od, J, _⟩ := J.look
  obtain ⟨P, Z, p, _⟩ := kit_of I ry ty
  obtain ⟨m, hF⟩ := I.fr
  show wpAny (model X.prog X.w) X.A (richCompare .Eq (.ref a) u) (EP X pins σ Q) X.xe s
  refine PySem.W.cmp_K (op := .Eq) (tb := t) hr.units0 hF I.ok.mod.kin J (Z.ty _ _ I.kIn p) hn hs hf ?_
  refine wpAny_mono (own_run F hb hx ⟨hr, rfl⟩ I ry hsp) (fun r s' z => ?_) fun _ _ x => x
  obtain ⟨k, rfl, H', I', q⟩ := z
  exact ⟨.bl k, H', I', rfl, q⟩
theorem op_neOwn (F : FnOk X.prog X.w X.K X.mg X.base CX n f fd ps sp) (hr : Room (n + 1) X.A) (hs : PySem.W.findIn X.K (.ref C) "__eq__" = some (some (.ref f))) (hf : PySem.W.isFn X.K (.ref f) = true)
    (ho : PySem.W.subIn X.K (.ref C) (.type "object") = some true) (hne : PySem.W.findIn X.K (.ref C) "__ne__" = some (some (.builtin "object.__ne__"))) (hb : Binds X.K fd ps []) (hx : Passes CX X E) :
    OpR X (compareOp .NotEq) (rOwn X.K C sp E fun k => !k) := by
  intro pins s σ H x y v u Q I rx ry h
  obtain ⟨a, dx, fs, t, rfl, ha, ty, hn, hsp⟩ := h
  cases rx
  obtain ⟨mA, J, _⟩ := ins_get I.hok ha
  obtain ⟨od, J, _⟩ := J.look
  obtain ⟨P, Z, p, _⟩ := kit_of I ry ty
  show wpAny (model X.prog X.w) X.A (richCompare .NotEq (.ref a) u) (EP X pins σ Q) X.xe s
  refine ne_K (tb := t) (by have := hr.un; omega) I.kIn J (Z.ty _ _ I.kIn p) hn ho hne hs hf ?_
  refine wpAny_mono (own_run F hb hx (A := X.A.in1) ⟨hr.in1, rfl⟩ I ry hsp) (fun r s' z => ?_) fun _ _ x => x
  obtain ⟨k, rfl, H', I', q⟩ := z
  exact ⟨k, rfl, .bl (!k), H', I', rfl, q⟩
end
end NG

set_option maxRecDepth 100000
set_option maxHeartbeats 4000000
namespace NG
open PySem L2
section
variable {X : Cx}
theorem op_mulStr : OpR X (binaryOp .Mult) (fun x y H Q => ∃ (i : Str) (n : Int), x = .str i ∧ y = .int n ∧ MulOk i n ∧ Q (.str (Txt.mul i n)) H) := by
  intro pins s σ H x y v u Q I rx ry h
  obtain ⟨i, n, rfl, rfl, hm, q⟩ := h
  obtain ⟨t, rfl⟩ := rx
  obtain ⟨t', rfl⟩ := ry
  exact SB.mul hm fun t' k => ⟨.str (Txt.mul i n), H, I.tok _, ⟨_, rfl⟩, q⟩
end
theorem foldl_app (a : Array Nat) : ∀ (k : Nat) (b : Array Nat), ((List.replicate k a).foldl (· ++ ·) b).toList = b.toList ++ (List.replicate k a.toList).flatten
  | 0, b => by simp
  | k + 1, b => by
    rw [List.replicate_succ, List.foldl_cons, foldl_app a k, List.replicate_succ, List.flatten_cons]
    simp
theorem pick {α : Type} {xs : List α} {d : Int} (h0 : 0 ≤ d) (h1 : d < (xs.length : Nat)) : ∃ v, v ∈ xs ∧ atI xs d = some v := by
  obtain ⟨k, rfl⟩ : ∃ k : Nat, d = (k : Int) := ⟨d.toNat, by omega⟩
  have hk : k < xs.length := by omega
  exact ⟨xs[k], List.getElem_mem hk, atI_nat (List.getElem?_eq_getElem hk)⟩
/-- a text's signs, as texts -/
def sgs (z : Str) : List V := z.cps.toList.map fun c => .str ⟨#[c]⟩
theorem sgs_len (z : Str) : (sgs z).length = z.length := by unfold sgs; simp [Str.length]
theorem walk_sgs {z : Str} : Walk (Its z) (sgs z).length (fun _ => True) (YAt (sgs z)) := by
  rw [sgs_len]
  refine Walk.mono (walk_str (z := z)) (fun _ h => h) (fun i H x H' hi _ ⟨e, c, hc, hx⟩ => ⟨e, ?_⟩)
  unfold sgs
  rw [List.getElem?_map]
  have : z.cps.toList[i]? = some c := by simpa using hc
  rw [this, hx]
  rfl
theorem sgs_get {z : Str} {k : Nat} {x : V} (h : (sgs z)[k]? = some x) : ∃ c, x = .str ⟨#[c]⟩ ∧ c ∈ z.cps.toList := by
  unfold sgs at h
  rw [List.getElem?_map] at h
  cases e : z.cps.toList[k]? with
  | none => rw [e] at h; cases h
  | some c => rw [e] at h; exact ⟨c, (Option.some.inj h).symm, List.mem_of_getElem? e⟩
/-! ### draws in loops: p holds the numbers' state -/
def DSo (o : HO) : Prop := ∃ a m c : Int, o = .lst [.int a, .int m, .int c] ∧ 0 ≤ a ∧ 7 ≤ m ∧ m < 2147483636 ∧ 0 ≤ c ∧ c < 2147483587
structure Dr (p : Addr) (H H' : Hp) : Prop where
  but : But p H H'
  st : ∃ o, H' p = some o ∧ DSo o
theorem Dr.refl {p : Addr} {H : Hp} {o : HO} (h : H p = some o) (d : DSo o) : Dr p H H := ⟨But.refl _ _, o, h, d⟩
theorem Dr.trans {p : Addr} {H H1 H2 : Hp} (a : Dr p H H1) (b : Dr p H1 H2) : Dr p H H2 := ⟨a.but.trans b.but, b.st⟩
theorem Dr.same {p : Addr} {H H1 H2 : Hp} (a : Dr p H H1) (b : Same H1 H2) : Dr p H H2 := ⟨a.but.same b, let ⟨o, h, d⟩ := a.st; ⟨o, b _ _ h, d⟩⟩
theorem Dr.next {p : Addr} {H H1 : Hp} {o : HO} (a : Dr p H H1) (d : DSo o) : Dr p H (L2.upd H1 p o) := ⟨a.but.upd, o, upd_same, d⟩
/-- a comprehension over range(n) whose items are drawn -/
theorem lc_draw {lo : Int} {n : Nat} {te : TE} {i : Nat} {σ : St} {p : Addr} {H1 : Hp} {D : Addr} {Q : Hp → Prop} (Px : V → Hp → Prop) (hn : n < sizeLine) (hD : H1 D = none) (h0 : Dr p H1 H1) (hm : ∀ x H H', But D H H' → Px x H → Px x H') (hm2 : ∀ x H H', Dr p H H' → Px x H → Px x H')
    (he : ∀ (k : Nat) (H : Hp) (R : V → Hp → Prop), k < n → Dr p H1 H → (∀ x H', Px x H' → Dr p H H' → R x H') → te ((wipe σ [i]).set i (some (.int (lo + k)))) H R)
    (hd : ∀ H xs, Dr p H1 H → H D = some (.lst xs) → xs.length = n → (∀ x ∈ xs, Px x H) → Q H) :
    ∃ W : Nat → Nat → Hp → Prop, (∃ m, W 0 m (L2.upd H1 D (.lst []))) ∧ ∀ k m H, W k m H →
      ((Itr lo n).stop k H ∧ Q H) ∨ ((Itr lo n).go k H ∧ ∃ Nx : Hp → Prop, (∀ H', Nx H' → ∃ m', m' < m ∧ W (k + 1) m' H') ∧ ∀ x H', (Itr lo n).yld k H x H' → gName i x (wipe σ [i]) H' fun σ2 H2 => wipe σ2 [i] = wipe σ [i] ∧ tYes σ2 H2 fun b H3 =>
        if b = true then te σ2 H3 fun y H4 => ∃ acc, H4 D = some (.lst acc) ∧ acc.length < sizeLine ∧ Nx (L2.upd H4 D (.lst (acc ++ [y]))) else Nx H3) := by
  obtain ⟨o0, ep0, d0⟩ := h0.st
  have npD : p ≠ D := ne_of_none ep0 hD
  refine lc_range (fun k H => Dr p H1 H ∧ ∃ acc, H D = some (.lst acc) ∧ acc.length = k ∧ ∀ x ∈ acc, Px x H) ⟨⟨But.ofSame (Same.upd hD), o0, by rw [upd_ne npD]; exact ep0, d0⟩, [], upd_same, rfl, by simp⟩ ?_ ?_
  · rintro k H hk ⟨dr, acc, eD, el, hx⟩
    refine ⟨?_, ?_⟩
    · show List.set (List.set (List.set σ i none) i _) i none = List.set σ i none
      rw [List.set_set, List.set_set]
    · refine he k H _ hk dr (fun x H' hpx dr' => ?_)
      have eD' : H' D = some (.lst acc) := dr'.but _ _ eD npD.symm
      have bD : But D H' (L2.upd H' D (.lst (acc ++ [x]))) := (But.refl D H').upd
      refine ⟨acc, eD', by omega, ⟨fun b o e n => ?_, ?_⟩, acc ++ [x], upd_same, by simp [el], fun y hy => ?_⟩
      · have hb : b ≠ D := ne_of_none e hD
        rw [upd_ne hb]
        exact (dr.trans dr').but _ _ e n
      · obtain ⟨o, e, d⟩ := dr'.st
        exact ⟨o, by rw [upd_ne npD]; exact e, d⟩
      · refine hm y _ _ bD ?_
        rcases List.mem_append.mp hy with h | h
        · exact hm2 y _ _ dr' (hx y h)
        · rw [List.mem_singleton.mp h]; exact hpx
  · rintro H ⟨dr, acc, eD, el, hx⟩
    exact hd H acc dr eD el hx
end NG

set_option maxRecDepth 100000
set_option maxHeartbeats 4000000
/-! a try whose first clause takes whatever the body lets out; further clauses are not met -/
namespace NG
open PySem PySem.Spec PyProof.Rows L2
def wFirst (K : PySem.W.Frag) (c : Value) (i : Nat) (ts : Addr → Value → Option Addr → TS) (D : Ends) : WX := fun cls d σ H =>
  PySem.W.exmOne K cls c = some true ∧ ∀ a, H a = none → ts a cls d ⟨fun σ1 H1 => D.nx (σ1.set i none) H1, D.rt, fun σ1 H1 => D.bk (σ1.set i none) H1, fun σ1 H1 => D.ct (σ1.set i none) H1⟩ (σ.set i (some (.ref a))) H
section
variable {X : Cx} {x n : Str} {c : Value} {i : Nat} {body suite : List Stmt} {b₀ : Stmt} {np pos pos1 : Pos} {tb : WX → TS} {ts : Addr → Value → Option Addr → TS} {more : List ExceptHandler}
theorem ps_try_first (stk : X.stack = X.env :: X.outer) (frm : X.env.frame = some X.env.locals) (hN : X.N.Nodup) (hi : X.N[i]? = some n) (hln : X.env.kindOf n = some .local) (hc : Names X x c)
    (hb : ∀ (W : WX) (pn : List (Addr × Obj)) (xe : Value → Shared → Prop), Takes (X.tr pn xe) W → PassesOwn (model X.prog X.w) X.A X.env xe → PSs (X.tr pn xe) body (tb W))
    (hsu : ∀ (a : Addr) (oe : Obj) (cls : Value) (d : Option Addr) (pn : List (Addr × Obj)), Zc cls d oe → (∃ vs, oe.data = .fields vs) → PSs (X.suite a ((a, oe) :: pn)) (b₀ :: suite) (ts a cls d)) :
    PS X (.Try body (.ExceptHandler (some (.Name x np)) (some n) (b₀ :: suite) pos1 :: more) [] [] pos) (fun D σ H => tb (wFirst X.K c i ts D) D σ H) := by
  constructor
  intro pins s σ H D I h
  have ok0 := I.ok
  have afr : X.A.frames = some (X.env :: X.outer) := ok0.frames.trans (congrArg some stk)
  have lcl : Loc X.env.scope n := Or.inl hln
  refine wpAny_Try_except (wpAny_mono ((hb (wFirst X.K c i ts D) (X.pn ++ pins)
    (fun u s1 => wpAny (model X.prog X.w) X.A (noteFrame u X.env) (fun _ s2 => wpAny (model X.prog X.w) X.A (setFlight u none)
      (fun _ s3 => wpAny (model X.prog X.w) X.A (handleBy u X.env (.ExceptHandler (some (.Name x np)) (some n) (b₀ :: suite) pos1 :: more)) (SP X pins D) X.xe s3) X.xe s2) X.xe s1)
    (fun u s1 out => ?_) PassesOwn.looking).run [] s σ H D (I.toTry _) h) (fun fl s1 q => ?_) (fun _ _ q => q))
  case refine_1 =>
    obtain ⟨a, Bs, sJ, pinsJ, σ1, H1, cls, d, rfl, JT, fresh, up1, sky, na, eos, hag, isT, go⟩ := out
    have J : Inv X pins σ1 H1 sJ := JT.ofTry ok0
    rw [stk] at sky
    refine Sky.land Zc.steady afr frm sky fun h3 fly3 up3 => ?_
    have J3 : Inv X pins σ1 H1 { s1 with heap := h3 } := J.landed fresh fly3.1 (up1.trans up3) eos hag
    obtain ⟨oe, vs, at3, z3, dat3⟩ := fly3.there
    have out3 : a ∉ frs (X.env :: X.outer) := fun hm => by
      obtain ⟨_, o2, e2, hnf⟩ := Heap.FunFrames.mem fly3.2.2.1 hm
      cases at3.symm.trans e2
      exact hnf _ dat3
    have nL : a ≠ X.env.locals := fun q => out3 (List.mem_filterMap.mpr ⟨X.env, List.mem_cons_self, q ▸ frm⟩)
    have nF : a ∉ X.fs := fun hm => by
      obtain ⟨v, hv, q⟩ := List.mem_filterMap.mp hm
      exact out3 (List.mem_filterMap.mpr ⟨v, List.mem_cons_of_mem _ hv, q⟩)
    have S3 := J3.suite at3 dat3 na nL nF
    refine wpAny_handleBy_cons (codeAny_handlers_test ?_) (fun q => by cases q)
    have seen : PySem.W.Looks (model X.prog X.w) h3 (typeOf (.ref a)) cls := fun _ _ _ _ k q => wpAny_typeOf_ref (k _ _ at3) (z3.1.symm ▸ q)
    have mat := PySem.W.exm_one (M := model X.prog X.w) J3.kIn seen isT
    have named : ∀ {Q : Value → Shared → Prop} {E : Value → Shared → Prop}, Q c { s1 with heap := h3 } → wpAny (model X.prog X.w) (X.A.mark (some (.ref a))) (eval (.Name x np) X.env) Q E { s1 with heap := h3 } := fun {Q E} q => by
      rcases hc with ⟨hg, hdbg, hm | ⟨hm, hv, hnn⟩⟩
      · exact ld_glob (X := X.suite a ((a, oe) :: (X.pn ++ pins))) S3 hg hm q hdbg
      · exact ld_blt (X := X.suite a ((a, oe) :: (X.pn ++ pins))) S3 hg hm hv q hnn hdbg
    refine named (mat.here (codeAny_handlers_suite_as (HandSPX.lands_againZ fly3 fun h4 fly4 up4 => ?_)))
    have J4 : Inv X pins σ1 H1 { s1 with heap := h4 } := J.landed fresh fly4.1 ((up1.trans up3).trans up4) eos hag
    obtain ⟨oe4, vs4, at4, z4, dat4⟩ := fly4.there
    refine store_ok (X := X.suite a ((a, oe4) :: (X.pn ++ pins))) (v := .ref a) (J4.suite at4 dat4 na nL nF) hN hi lcl rfl (fun s5 S5 => ?_) (.inr hln)
    refine wpAny_mono ((hsu a oe4 cls d (X.pn ++ pins) z4 ⟨_, dat4⟩).run [] s5 _ H1 _ S5 (go a na)) (fun fl s6 q6 => ?_) (fun _ _ q => q.elim)
    have fin : ∀ {σ6 : L2.St} {H6 : Hp} {R : Shared → Prop}, Inv (X.suite a ((a, oe4) :: (X.pn ++ pins))) [] σ6 H6 s6 → (∀ s7, Inv X pins (σ6.set i none) H6 s7 → R s7) →
        wpAny (model X.prog X.w) X.A (do bindName X.env n .none; unbindBehindTheSuite X.env n pos1) (fun _ s7 => R s7) X.xe s6 := fun S6 hq => gone_ok (S6.unsuite ok0) hN hi hln hq
    cases fl with
    | ret u =>
      obtain ⟨v6, σ6, H6, S6, r6, p6⟩ := q6
      exact fin S6 fun _ J7 => ⟨_, _, _, J7, r6, p6⟩
    | next => obtain ⟨σ6, H6, S6, p6⟩ := q6; exact fin S6 fun _ J7 => ⟨_, _, J7, p6⟩
    | brk => obtain ⟨σ6, H6, S6, p6⟩ := q6; exact fin S6 fun _ J7 => ⟨_, _, J7, p6⟩
    | cont => obtain ⟨σ6, H6, S6, p6⟩ := q6; exact fin S6 fun _ J7 => ⟨_, _, J7, p6⟩
  case refine_2 =>
    cases fl with
    | next => obtain ⟨σ1, H1, JT, p⟩ := q; exact wpAny_execs_nil ⟨σ1, H1, JT.ofTry ok0, p⟩
    | ret u => obtain ⟨v, σ1, H1, JT, r, p⟩ := q; exact ⟨v, σ1, H1, JT.ofTry ok0, r, p⟩
    | brk => obtain ⟨σ1, H1, JT, p⟩ := q; exact ⟨σ1, H1, JT.ofTry ok0, p⟩
    | cont => obtain ⟨σ1, H1, JT, p⟩ := q; exact ⟨σ1, H1, JT.ofTry ok0, p⟩
end
end NG

set_option maxRecDepth 100000
set_option maxHeartbeats 4000000
/-! xs + ys of lists that are to be read, locked ones too -/
namespace NG
open PySem L2 PyProof.Rows
def rCatS (K : PySem.W.Frag) : R2 := fun x y H Q => ∃ (l b : Addr) (xs zs : List V), x = .ref l ∧ y = .ref b ∧ SqL K H l xs ∧ SqL K H b zs ∧ xs.length + zs.length ≤ sizeLine ∧ ∀ p, H p = none → Q (.ref p) (L2.upd H p (.lst (xs ++ zs)))
theorem op_catS {X : Cx} : OpR X (binaryOp .Add) (rCatS X.K) := by
  intro pins s σ H x y v u Q I rx ry h
  obtain ⟨l, b, xs, zs, rfl, rfl, h1, h2, hz, q⟩ := h
  cases rx
  cases ry
  obtain ⟨its, r, ⟨⟨c1, d1, t1, s1⟩, n, e, ec, ed, et⟩, _⟩ := I.list h1
  obtain ⟨its2, r2, ⟨⟨c2, d2, t2, s2⟩, n2, e2, ec2, ed2, et2⟩, _⟩ := I.list h2
  simp only at ec ed et ec2 ed2 et2
  subst ec ed et ec2 ed2 et2
  have hl : its.toArray.size + its2.toArray.size ≤ sizeLine := by rw [List.size_toArray, List.size_toArray, ← r.length, ← r2.length]; exact hz
  have ea : its.toArray ++ its2.toArray = (its ++ its2).toArray := by simp
  refine concat_meets ⟨_, e, rfl⟩ ⟨_, e2, rfl⟩ noFill_list_add seq_list_add PySem.F.slot_list_add PySem.F.entry_list_add (PySem.F.args_list_add_2 _ _) (list_addW l b its.toArray its2.toArray n n2 none none s1 s2 hl) ⟨e, e2, ?_⟩
  rw [ea]
  exact ⟨.ref _, _, I.lnew (t' := s.toks) (r.append r2) (by rw [List.length_append]; omega), rfl, q _ I.fresh⟩
end NG

set_option maxRecDepth 100000
set_option maxHeartbeats 4000000
/-! comprehensions over pairs -/
namespace NG
open PySem L2
theorem wipe2 {σ : St} {i j : Nat} (hij : i ≠ j) (a b : Option V) : wipe (((wipe σ [i, j]).set i a).set j b) [i, j] = wipe σ [i, j] := by
  show List.set (List.set (List.set (List.set (List.set (List.set σ j none) i none) i a) j b) j none) i none = List.set (List.set σ j none) i none
  rw [List.set_set, List.set_set, List.set_comm _ _ (Ne.symm hij), List.set_set, List.set_comm _ _ hij, List.set_set]
  all_goals first | rfl | (rw [List.set_comm _ _ hij]; rfl) | skip
theorem lc_pair {K : PySem.W.Frag} {J : It} {xs : List V} {G : Hp → Prop} (w : Walk J xs.length G (YAt xs)) {tt : TT} {te : TE} {i j : Nat} (hij : i ≠ j) {σ : St} {H1 : Hp} {D : Addr} {Q : Hp → Prop} (ps : List (V × V)) (hl : ps.length = xs.length) (p : V × V → Bool) (f : V × V → V)
    (hT : ∀ (k : Nat) (x : V) (q : V × V), xs[k]? = some x → ps[k]? = some q → ∃ t, x = V.ref t ∧ SqT K H1 t [q.1, q.2]) (hx : xs.length < sizeLine) (hD : H1 D = none) (hG : ∀ H, Same H1 H → G H)
    (ht : ∀ (k : Nat) (q : V × V) (H : Hp) (R : Bool → Hp → Prop), ps[k]? = some q → Same H1 H → (∀ H', Same H H' → R (p q) H') → tt (((wipe σ [i, j]).set i (some q.1)).set j (some q.2)) H R)
    (he : ∀ (k : Nat) (q : V × V) (H : Hp) (R : V → Hp → Prop), ps[k]? = some q → p q = true → Same H1 H → (∀ H', Same H H' → R (f q) H') → te (((wipe σ [i, j]).set i (some q.1)).set j (some q.2)) H R)
    (hd : ∀ H, Same H1 H → H D = some (.lst ((ps.filter p).map f)) → Q H) :
    ∃ W : Nat → Nat → Hp → Prop, (∃ m, W 0 m (L2.upd H1 D (.lst []))) ∧ ∀ k m H, W k m H →
      (J.stop k H ∧ Q H) ∨ (J.go k H ∧ ∃ Nx : Hp → Prop, (∀ H', Nx H' → ∃ m', m' < m ∧ W (k + 1) m' H') ∧ ∀ x H', J.yld k H x H' → gTup K 2 (gCons (gName i) (gCons (gName j) gNil)) x (wipe σ [i, j]) H' fun σ2 H2 => wipe σ2 [i, j] = wipe σ [i, j] ∧ tt σ2 H2 fun b H3 =>
        if b = true then te σ2 H3 fun y H4 => ∃ acc, H4 D = some (.lst acc) ∧ acc.length < sizeLine ∧ Nx (L2.upd H4 D (.lst (acc ++ [y]))) else Nx H3) := by
  refine lc_it w (fun k H => Same H1 H ∧ H D = some (.lst (((ps.take k).filter p).map f))) ⟨Same.upd hD, by rw [upd_same]; simp⟩ (fun _ H _ h => hG H h.1) ?_ ?_
  · rintro k x H H' hk ⟨s1, eD⟩ ⟨rfl, hxk⟩
    have hkp : k < ps.length := by omega
    have hq : ps[k]? = some ps[k] := List.getElem?_eq_getElem hkp
    obtain ⟨t, rfl, hT'⟩ := hT k x _ hxk hq
    refine ⟨t, [ps[k].1, ps[k].2], rfl, Same.sqT s1 hT', rfl, _, _, rfl, _, _, rfl, rfl, wipe2 hij _ _, ?_⟩
    have et := take_succ hq
    have ll : (((ps.take k).filter p).map f).length < sizeLine := by
      rw [List.length_map]
      have := List.length_filter_le p (ps.take k)
      have := List.length_take_le k ps
      omega
    refine ht k _ _ _ hq s1 (fun H3 s3 => ?_)
    have eD3 := s3 _ _ eD
    have s13 := s1.trans s3
    refine ite2 (fun hp => ?_) (fun hp => ?_)
    · refine he k _ _ _ hq hp s13 (fun H4 s4 => ⟨_, s4 _ _ eD3, ll, ?_, ?_⟩)
      · intro b o e
        have hb : b ≠ D := ne_of_none e hD
        rw [upd_ne hb]
        exact s4 _ _ (s13 _ _ e)
      · rw [upd_same, et, List.filter_append, List.map_append]
        congr 2
        congr 1
        have : [ps[k]].filter p = [ps[k]] := by simp [hp]
        rw [this]
        rfl
    · refine ⟨s13, ?_⟩
      rw [et, List.filter_append, List.map_append]
      have : [ps[k]].filter p = [] := by simp [hp]
      rw [this]
      simpa using eD3
  · rintro H ⟨s1, eD⟩
    rw [← hl, List.take_length] at eD
    exact hd H s1 eD
end NG

set_option maxRecDepth 100000
set_option maxHeartbeats 4000000
/-! trees as lists of nodes: no heap, no program (LT: what a link's text must be, PL: what a name must be) -/
namespace TR
open PySem
inductive Nd where
  | fol (o : Int) (es : List (Str × Nat))
  | fil (o : Int)
  | lnk (o : Int) (t : Str)
  | gon (o : Int) (ab : Nat)
def Nd.owner : Nd → Int
  | .fol o _ => o
  | .fil o => o
  | .lnk o _ => o
  | .gon o _ => o
def Nd.ents : Nd → List (Str × Nat)
  | .fol _ es => es
  | _ => []
def Nd.isGone : Nd → Bool
  | .gon _ _ => true
  | _ => false
def Nd.isFol : Nd → Bool
  | .fol _ _ => true
  | _ => false
/-- how many entries lead to k -/
def cntE (es : List (Str × Nat)) (k : Nat) : Nat := es.countP fun e => e.2 == k
def cnt (nds : List Nd) (k : Nat) : Nat := (nds.map fun nd => cntE nd.ents k).sum
theorem cnt_nil (k : Nat) : cnt [] k = 0 := rfl
theorem cnt_cons (nd : Nd) (r : List Nd) (k : Nat) : cnt (nd :: r) k = cntE nd.ents k + cnt r k := by unfold cnt; simp
theorem cnt_app (a b : List Nd) (k : Nat) : cnt (a ++ b) k = cnt a k + cnt b k := by unfold cnt; simp
theorem cntE_app (a b : List (Str × Nat)) (k : Nat) : cntE (a ++ b) k = cntE a k + cntE b k := by unfold cntE; rw [List.countP_append]
theorem cntE_one (n : Str) (j k : Nat) : cntE [(n, j)] k = if j = k then 1 else 0 := by
  unfold cntE
  by_cases h : j = k
  · simp [h]
  · simp [h]
theorem cnt_set {nds : List Nd} {i : Nat} {nd nd' : Nd} (h : nds[i]? = some nd) (k : Nat) : cnt (nds.set i nd') k + cntE nd.ents k = cnt nds k + cntE nd'.ents k := by
  induction nds generalizing i with
  | nil => cases h
  | cons x r ih =>
    cases i with
    | zero =>
      have e : x = nd := Option.some.inj h
      subst e
      rw [List.set_cons_zero, cnt_cons, cnt_cons]
      omega
    | succ i =>
      have := ih (i := i) h
      rw [List.set_cons_succ, cnt_cons, cnt_cons]
      omega
theorem cnt_pos {nds : List Nd} {k : Nat} (h : 0 < cnt nds k) : ∃ (i : Nat) (nd : Nd) (e : Str × Nat), nds[i]? = some nd ∧ e ∈ nd.ents ∧ e.2 = k := by
  induction nds with
  | nil => cases h
  | cons x r ih =>
    rw [cnt_cons] at h
    by_cases h0 : 0 < cntE x.ents k
    · obtain ⟨e, he, hk⟩ := List.countP_pos_iff.mp h0
      exact ⟨0, x, e, rfl, he, by simpa using hk⟩
    · obtain ⟨i, nd, e, h1, h2, h3⟩ := ih (by omega)
      exact ⟨i + 1, nd, e, h1, h2, h3⟩
theorem cnt_ge {nds : List Nd} {k i : Nat} {nd : Nd} (h : nds[i]? = some nd) : cntE nd.ents k ≤ cnt nds k := by
  induction nds generalizing i with
  | nil => cases h
  | cons x r ih =>
    rw [cnt_cons]
    cases i with
    | zero => rw [Option.some.inj h]; omega
    | succ i => have := ih (i := i) h; omega
theorem cnt_two {nds : List Nd} {k i j : Nat} {a b : Nd} (hi : nds[i]? = some a) (hj : nds[j]? = some b) (hij : i ≠ j) : cntE a.ents k + cntE b.ents k ≤ cnt nds k := by
  induction nds generalizing i j with
  | nil => cases hi
  | cons x r ih =>
    rw [cnt_cons]
    cases i with
    | zero =>
      cases j with
      | zero => exact absurd rfl hij
      | succ j =>
        rw [Option.some.inj hi]
        have := cnt_ge (k := k) (show r[j]? = some b from hj)
        omega
    | succ i =>
      cases j with
      | zero =>
        rw [Option.some.inj hj]
        have := cnt_ge (k := k) (show r[i]? = some a from hi)
        omega
      | succ j =>
        have := ih (i := i) (j := j) hi hj (by omega)
        omega
/-- what every drawn tree keeps; once: whether the folder k must stand in just one entry -/
structure Base (LT PL : Str → Prop) (nds : List Nd) : Prop where
  root : ∃ o es, nds[0]? = some (.fol o es)
  own : ∀ (i : Nat) (nd : Nd), nds[i]? = some nd → 0 ≤ nd.owner
  ent : ∀ (i : Nat) (nd : Nd), nds[i]? = some nd → ∀ e ∈ nd.ents, PL e.1 ∧ i < e.2 ∧ ∃ nd', nds[e.2]? = some nd' ∧ nd'.isGone = false
  uniq : ∀ (i : Nat) (nd : Nd), nds[i]? = some nd → (nd.ents.map (·.1)).Nodup ∧ nd.ents.length ≤ 12
  lnk : ∀ (i : Nat) (o : Int) (t : Str), nds[i]? = some (.lnk o t) → LT t
  gon : ∀ (i : Nat) (o : Int) (ab : Nat), nds[i]? = some (.gon o ab) → ab < i ∧ ∃ o' es, nds[ab]? = some (.fol o' es)
structure WF (LT PL : Str → Prop) (nds : List Nd) : Prop where
  base : Base LT PL nds
  once : ∀ (k : Nat) (nd : Nd), 0 < k → nds[k]? = some nd → nd.isFol = true → cnt nds k = 1
/-- the last node is a folder that no entry leads to as yet -/
structure Pend (LT PL : Str → Prop) (nds : List Nd) (n : Nat) : Prop where
  base : Base LT PL nds
  len : nds.length = n + 1
  pos : 0 < n
  last : ∃ o, nds[n]? = some (.fol o [])
  none : cnt nds n = 0
  gone : ∀ (i : Nat) (o : Int), nds[i]? ≠ some (.gon o n)
  once : ∀ (k : Nat) (nd : Nd), 0 < k → k < n → nds[k]? = some nd → nd.isFol = true → cnt nds k = 1
section
variable {LT PL : Str → Prop} {nds : List Nd}
theorem Base.nodes (b : Base LT PL nds) : 0 < nds.length := by
  obtain ⟨o, es, h⟩ := b.root
  exact (List.getElem?_eq_some_iff.mp h).1
theorem get_snoc {nd x : Nd} {i : Nat} (h : (nds ++ [x])[i]? = some nd) : nds[i]? = some nd ∨ (i = nds.length ∧ nd = x) := by
  by_cases hi : i < nds.length
  · rw [List.getElem?_append_left hi] at h
    exact .inl h
  · have hl : i < (nds ++ [x]).length := (List.getElem?_eq_some_iff.mp h).1
    rw [List.length_append, List.length_singleton] at hl
    have e : i = nds.length := by omega
    subst e
    rw [List.getElem?_append_right (Nat.le_refl _), Nat.sub_self] at h
    exact .inr ⟨rfl, (Option.some.inj h).symm⟩
theorem get_keep {nd x : Nd} {i : Nat} (h : nds[i]? = some nd) : (nds ++ [x])[i]? = some nd := by
  rw [List.getElem?_append_left (List.getElem?_eq_some_iff.mp h).1]
  exact h
theorem base_snoc (b : Base LT PL nds) {x : Nd} (ho : 0 ≤ x.owner) (he : x.ents = []) (hl : ∀ o t, x = .lnk o t → LT t) (hg : ∀ o ab, x = .gon o ab → ∃ o' es, nds[ab]? = some (.fol o' es)) : Base LT PL (nds ++ [x]) where
  root := let ⟨o, es, h⟩ := b.root; ⟨o, es, get_keep h⟩
  own := fun i nd h => by
    rcases get_snoc h with h | ⟨_, rfl⟩
    · exact b.own i nd h
    · exact ho
  ent := fun i nd h e q => by
    rcases get_snoc h with h | ⟨_, rfl⟩
    · obtain ⟨h1, h2, nd', h3, h4⟩ := b.ent i nd h e q
      exact ⟨h1, h2, nd', get_keep h3, h4⟩
    · rw [he] at q
      cases q
  uniq := fun i nd h => by
    rcases get_snoc h with h | ⟨_, rfl⟩
    · exact b.uniq i nd h
    · rw [he]
      exact ⟨List.nodup_nil, Nat.zero_le _⟩
  lnk := fun i o t h => by
    rcases get_snoc h with h | ⟨_, e⟩
    · exact b.lnk i o t h
    · exact hl o t e.symm
  gon := fun i o ab h => by
    rcases get_snoc h with h | ⟨hi, e⟩
    · obtain ⟨h1, o', es, h2⟩ := b.gon i o ab h
      exact ⟨h1, o', es, get_keep h2⟩
    · obtain ⟨o', es, h2⟩ := hg o ab e.symm
      have := (List.getElem?_eq_some_iff.mp h2).1
      exact ⟨by omega, o', es, get_keep h2⟩
theorem cnt_snoc {x : Nd} (he : x.ents = []) (k : Nat) : cnt (nds ++ [x]) k = cnt nds k := by
  rw [cnt_app, cnt_cons, cnt_nil, he]
  rfl
theorem wf_snoc (b : WF LT PL nds) {x : Nd} (hf : x.isFol = false) (ho : 0 ≤ x.owner) (hl : ∀ o t, x = .lnk o t → LT t) (hg : ∀ o ab, x = .gon o ab → ∃ o' es, nds[ab]? = some (.fol o' es)) : WF LT PL (nds ++ [x]) := by
  have he : x.ents = [] := by cases x <;> first | rfl | cases hf
  refine ⟨base_snoc b.base ho he hl hg, fun k nd hk h f => ?_⟩
  rw [cnt_snoc he]
  rcases get_snoc h with h | ⟨_, rfl⟩
  · exact b.once k nd hk h f
  · rw [hf] at f; cases f
/-- no entry leads behind the nodes -/
theorem cnt_behind (b : Base LT PL nds) {k : Nat} (h : nds.length ≤ k) : cnt nds k = 0 := by
  rcases Nat.eq_zero_or_pos (cnt nds k) with e | e
  · exact e
  · obtain ⟨i, nd, en, h1, h2, h3⟩ := cnt_pos e
    obtain ⟨_, _, nd', h4, _⟩ := b.ent i nd h1 en h2
    have := (List.getElem?_eq_some_iff.mp h4).1
    omega
theorem pend_snoc (b : WF LT PL nds) {o : Int} (ho : 0 ≤ o) : Pend LT PL (nds ++ [.fol o []]) nds.length where
  base := base_snoc b.base ho rfl (fun _ _ e => by cases e) (fun _ _ e => by cases e)
  len := by simp
  pos := b.base.nodes
  last := ⟨o, by rw [List.getElem?_append_right (Nat.le_refl _), Nat.sub_self]; rfl⟩
  none := by rw [cnt_snoc rfl]; exact cnt_behind b.base (Nat.le_refl _)
  gone := fun i o' h => by
    rcases get_snoc h with h | ⟨_, e⟩
    · obtain ⟨h1, _⟩ := b.base.gon i o' _ h
      have := (List.getElem?_eq_some_iff.mp h).1
      omega
    · cases e
  once := fun k nd hk hn h f => by
    rw [cnt_snoc rfl]
    rcases get_snoc h with h | ⟨e, _⟩
    · exact b.once k nd hk h f
    · omega
theorem get_set {nd x : Nd} {i j : Nat} (h : (nds.set i x)[j]? = some nd) : (i = j ∧ nd = x ∧ i < nds.length) ∨ (i ≠ j ∧ nds[j]? = some nd) := by
  by_cases e : i = j
  · subst e
    have hl : i < nds.length := by have := (List.getElem?_eq_some_iff.mp h).1; rwa [List.length_set] at this
    rw [List.getElem?_set_self hl] at h
    exact .inl ⟨rfl, (Option.some.inj h).symm, hl⟩
  · rw [List.getElem?_set_ne e] at h
    exact .inr ⟨e, h⟩
theorem set_at {x : Nd} {i : Nat} (h : i < nds.length) : (nds.set i x)[i]? = some x := List.getElem?_set_self h
/-- an entry more -/
theorem base_ent (b : Base LT PL nds) {i k : Nat} {o : Int} {es : List (Str × Nat)} {n : Str} {nk : Nd} (h : nds[i]? = some (.fol o es)) (hn : PL n) (hu : n ∉ es.map (·.1)) (hl : es.length < 12) (hk : nds[k]? = some nk) (hg : nk.isGone = false) (hik : i < k) :
    Base LT PL (nds.set i (.fol o (es ++ [(n, k)]))) := by
  have hi : i < nds.length := (List.getElem?_eq_some_iff.mp h).1
  -- what stood at j stands there still, but for the entries of i
  have keep : ∀ (j : Nat) (nd : Nd), nds[j]? = some nd → ∃ nd', (nds.set i (.fol o (es ++ [(n, k)])))[j]? = some nd' ∧ nd'.isGone = nd.isGone ∧ nd'.isFol = nd.isFol := fun j nd q => by
    by_cases e : i = j
    · subst e
      rw [h] at q
      cases Option.some.inj q
      exact ⟨_, set_at hi, rfl, rfl⟩
    · exact ⟨nd, by rw [List.getElem?_set_ne e]; exact q, rfl, rfl⟩
  have fol : ∀ (j : Nat) (o' : Int) (es' : List (Str × Nat)), nds[j]? = some (.fol o' es') → ∃ o'' es'', (nds.set i (.fol o (es ++ [(n, k)])))[j]? = some (.fol o'' es'') := fun j o' es' q => by
    obtain ⟨nd', h1, _, h3⟩ := keep j _ q
    cases nd' with
    | fol o'' es'' => exact ⟨o'', es'', h1⟩
    | _ => cases h3
  refine ⟨?_, ?_, ?_, ?_, ?_, ?_⟩
  · obtain ⟨o', es', h0⟩ := b.root
    exact fol 0 o' es' h0
  · intro j nd q
    rcases get_set q with ⟨_, rfl, _⟩ | ⟨_, q⟩
    · have := b.own i (.fol o es) h
      exact this
    · exact b.own j nd q
  · intro j nd q e he
    rcases get_set q with ⟨rfl, rfl, _⟩ | ⟨_, q⟩
    · rcases List.mem_append.mp he with he | he
      · obtain ⟨h1, h2, nd', h3, h4⟩ := b.ent i _ h e he
        obtain ⟨nd'', h5, h6, _⟩ := keep _ _ h3
        exact ⟨h1, h2, nd'', h5, by rw [h6, h4]⟩
      · rw [List.mem_singleton.mp he]
        obtain ⟨nd'', h5, h6, _⟩ := keep _ _ hk
        exact ⟨hn, hik, nd'', h5, by rw [h6, hg]⟩
    · obtain ⟨h1, h2, nd', h3, h4⟩ := b.ent j _ q e he
      obtain ⟨nd'', h5, h6, _⟩ := keep _ _ h3
      exact ⟨h1, h2, nd'', h5, by rw [h6, h4]⟩
  · intro j nd q
    rcases get_set q with ⟨rfl, rfl, _⟩ | ⟨_, q⟩
    · have hb := b.uniq i _ h
      refine ⟨?_, ?_⟩
      · show ((es ++ [(n, k)]).map (·.1)).Nodup
        rw [List.map_append, List.nodup_append]
        refine ⟨hb.1, by simp, fun x hx y hy => ?_⟩
        rw [List.map_cons, List.map_nil, List.mem_singleton] at hy
        subst hy
        intro e
        subst e
        exact hu hx
      · show (es ++ [(n, k)]).length ≤ 12
        rw [List.length_append, List.length_singleton]
        omega
    · exact b.uniq j nd q
  · intro j o' t q
    rcases get_set q with ⟨_, e, _⟩ | ⟨_, q⟩
    · cases e
    · exact b.lnk j o' t q
  · intro j o' ab q
    rcases get_set q with ⟨_, e, _⟩ | ⟨_, q⟩
    · cases e
    · obtain ⟨h1, o'', es'', h2⟩ := b.gon j o' ab q
      exact ⟨h1, fol ab o'' es'' h2⟩
theorem cnt_ent {i k : Nat} {o : Int} {es : List (Str × Nat)} {n : Str} (h : nds[i]? = some (.fol o es)) (j : Nat) : cnt (nds.set i (.fol o (es ++ [(n, k)]))) j = cnt nds j + if k = j then 1 else 0 := by
  have := cnt_set (nd' := .fol o (es ++ [(n, k)])) h j
  have e1 : cntE (Nd.fol o (es ++ [(n, k)])).ents j = cntE es j + if k = j then 1 else 0 := by
    show cntE (es ++ [(n, k)]) j = _
    rw [cntE_app, cntE_one]
  have e2 : cntE (Nd.fol o es).ents j = cntE es j := rfl
  omega
theorem wf_ent (b : WF LT PL nds) {i k : Nat} {o : Int} {es : List (Str × Nat)} {n : Str} {nk : Nd} (h : nds[i]? = some (.fol o es)) (hn : PL n) (hu : n ∉ es.map (·.1)) (hl : es.length < 12) (hk : nds[k]? = some nk) (hg : nk.isGone = false) (hf : nk.isFol = false) (hik : i < k) :
    WF LT PL (nds.set i (.fol o (es ++ [(n, k)]))) := by
  refine ⟨base_ent b.base h hn hu hl hk hg hik, fun j nd hj q f => ?_⟩
  rw [cnt_ent h]
  rcases get_set q with ⟨rfl, rfl, _⟩ | ⟨_, q⟩
  · rw [b.once i _ hj h rfl, if_neg (by omega)]
  · have hkj : k ≠ j := fun e => by
      subst e
      rw [hk] at q
      cases Option.some.inj q
      rw [hf] at f
      cases f
    rw [b.once j nd hj q f, if_neg hkj]
theorem pend_ent {n : Nat} (b : Pend LT PL nds n) {i : Nat} {o : Int} {es : List (Str × Nat)} {x : Str} (h : nds[i]? = some (.fol o es)) (hn : PL x) (hu : x ∉ es.map (·.1)) (hl : es.length < 12) (hi : i < n) : WF LT PL (nds.set i (.fol o (es ++ [(x, n)]))) := by
  obtain ⟨o', hlast⟩ := b.last
  refine ⟨base_ent b.base h hn hu hl hlast rfl hi, fun j nd hj q f => ?_⟩
  rw [cnt_ent h]
  rcases get_set q with ⟨rfl, rfl, _⟩ | ⟨_, q⟩
  · rw [b.once i _ hj hi h rfl, if_neg (by omega)]
  · have hjl := (List.getElem?_eq_some_iff.mp q).1
    rw [b.len] at hjl
    by_cases e : n = j
    · subst e
      rw [b.none, if_pos rfl]
    · rw [b.once j nd hj (by omega) q f, if_neg e]
/-- the pending folder becomes a file -/
theorem pend_file {n : Nat} (b : Pend LT PL nds n) : WF LT PL (nds.set n (.fil 0)) := by
  obtain ⟨o', hlast⟩ := b.last
  have hn : n < nds.length := by rw [b.len]; omega
  have hc : ∀ j, cnt (nds.set n (.fil 0)) j = cnt nds j := fun j => by
    have := cnt_set (nd' := .fil 0) hlast j
    have e1 : cntE (Nd.fil 0).ents j = 0 := rfl
    have e2 : cntE (Nd.fol o' []).ents j = 0 := rfl
    omega
  have ne : ∀ (i : Nat) (nd : Nd), nds[i]? = some nd → ∀ e ∈ nd.ents, e.2 ≠ n := fun i nd q e he z => by
    have h1 := cnt_ge (k := n) q
    rw [b.none] at h1
    have : 0 < cntE nd.ents n := List.countP_pos_iff.mpr ⟨e, he, by simpa using z⟩
    omega
  have keep : ∀ (j : Nat) (nd : Nd), j ≠ n → nds[j]? = some nd → (nds.set n (.fil 0))[j]? = some nd := fun j nd e q => by
    rw [List.getElem?_set_ne (Ne.symm e)]
    exact q
  refine ⟨⟨?_, ?_, ?_, ?_, ?_, ?_⟩, fun j nd hj q f => ?_⟩
  · obtain ⟨o, es, h0⟩ := b.base.root
    exact ⟨o, es, keep 0 _ (by have := b.pos; omega) h0⟩
  · intro j nd q
    rcases get_set q with ⟨_, rfl, _⟩ | ⟨_, q⟩
    · exact Int.le_refl 0
    · exact b.base.own j nd q
  · intro j nd q e he
    rcases get_set q with ⟨_, rfl, _⟩ | ⟨_, q⟩
    · cases he
    · obtain ⟨h1, h2, nd', h3, h4⟩ := b.base.ent j _ q e he
      exact ⟨h1, h2, nd', keep _ _ (ne j nd q e he) h3, h4⟩
  · intro j nd q
    rcases get_set q with ⟨_, rfl, _⟩ | ⟨_, q⟩
    · exact ⟨List.nodup_nil, Nat.zero_le _⟩
    · exact b.base.uniq j nd q
  · intro j o t q
    rcases get_set q with ⟨_, e, _⟩ | ⟨_, q⟩
    · cases e
    · exact b.base.lnk j o t q
  · intro j o ab q
    rcases get_set q with ⟨_, e, _⟩ | ⟨_, q⟩
    · cases e
    · obtain ⟨h1, o'', es'', h2⟩ := b.base.gon j o ab q
      exact ⟨h1, o'', es'', keep _ _ (fun z => b.gone j o (z ▸ q)) h2⟩
  · rw [hc]
    rcases get_set q with ⟨_, rfl, _⟩ | ⟨e, q⟩
    · cases f
    · have hjl := (List.getElem?_eq_some_iff.mp q).1
      rw [b.len] at hjl
      exact b.once j nd hj (by omega) q f
end
end TR

set_option maxRecDepth 100000
set_option maxHeartbeats 4000000
/-! the folders that are found from the root by entries -/
namespace TR
open PySem
/-- a folder stands at k -/
def FolAt (nds : List Nd) (k : Nat) : Prop := ∃ o es, nds[k]? = some (.fol o es)
def folB (nds : List Nd) (k : Nat) : Bool := match nds[k]? with
  | some (.fol _ _) => true
  | _ => false
theorem folB_iff {nds : List Nd} {k : Nat} : folB nds k = true ↔ FolAt nds k := by
  unfold folB FolAt
  constructor
  · intro h
    split at h
    · rename_i o es e
      exact ⟨o, es, e⟩
    · cases h
  · rintro ⟨o, es, e⟩
    rw [e]
/-- the folders to which entries lead -/
def kids (nds : List Nd) (es : List (Str × Nat)) : List Nat := (es.map (·.2)).filter (folB nds)
theorem mem_kids {nds : List Nd} {es : List (Str × Nat)} {k : Nat} : k ∈ kids nds es ↔ (∃ e ∈ es, e.2 = k) ∧ FolAt nds k := by
  unfold kids
  rw [List.mem_filter, folB_iff]
  constructor
  · rintro ⟨h, f⟩
    obtain ⟨e, he, hk⟩ := List.mem_map.mp h
    exact ⟨⟨e, he, hk⟩, f⟩
  · rintro ⟨⟨e, he, hk⟩, f⟩
    exact ⟨List.mem_map.mpr ⟨e, he, hk⟩, f⟩
/-- while the search goes on: W waits (its last is next), F is found -/
structure Srch (nds : List Nd) (W F : List Nat) : Prop where
  fol : ∀ k ∈ W ++ F, FolAt nds k
  nd : (W ++ F).Nodup
  root : 0 ∈ W ++ F
  par : ∀ k ∈ W ++ F, k ≠ 0 → ∃ i ∈ F, ∃ o es, nds[i]? = some (.fol o es) ∧ ∃ e ∈ es, e.2 = k
  closed : ∀ i ∈ F, ∀ o es, nds[i]? = some (.fol o es) → ∀ k ∈ kids nds es, k ∈ W ++ F
section
variable {LT PL : Str → Prop} {nds : List Nd}
theorem srch0 (b : WF LT PL nds) : Srch nds [0] [] where
  fol := fun k h => by
    rw [List.append_nil, List.mem_singleton] at h
    subst h
    exact b.base.root
  nd := by simp
  root := by simp
  par := fun k h hk => by
    rw [List.append_nil, List.mem_singleton] at h
    exact absurd h hk
  closed := fun i h => by cases h
theorem cntE_pos {es : List (Str × Nat)} {k : Nat} (h : ∃ e ∈ es, e.2 = k) : 0 < cntE es k := by
  obtain ⟨e, he, hk⟩ := h
  exact List.countP_pos_iff.mpr ⟨e, he, by simpa using hk⟩
theorem nodup_le1 : ∀ {ks : List Nat}, (∀ k ∈ ks, ks.countP (fun x => x == k) ≤ 1) → ks.Nodup
  | [], _ => List.nodup_nil
  | k :: r, h => by
    rw [List.nodup_cons]
    refine ⟨fun hk => ?_, nodup_le1 fun x hx => ?_⟩
    · have h1 := h k List.mem_cons_self
      have : 0 < r.countP (fun x => x == k) := List.countP_pos_iff.mpr ⟨k, hk, by simp⟩
      rw [List.countP_cons, if_pos (by simp)] at h1
      omega
    · have h1 := h x (List.mem_cons_of_mem _ hx)
      rw [List.countP_cons] at h1
      exact Nat.le_trans (Nat.le_add_right _ _) h1
theorem kids_nodup (b : WF LT PL nds) {i : Nat} {o : Int} {es : List (Str × Nat)} (h : nds[i]? = some (.fol o es)) : (kids nds es).Nodup := by
  refine nodup_le1 fun k hk => ?_
  obtain ⟨⟨e, he, hek⟩, f⟩ := mem_kids.mp hk
  have hik : i < k := by
    have := (b.base.ent i _ h e he).2.1
    omega
  obtain ⟨o', es', hf⟩ := f
  have h1 := b.once k _ (by omega) hf rfl
  have h2 := cnt_ge (k := k) h
  have h3 : (kids nds es).countP (fun x => x == k) ≤ cntE es k := by
    unfold kids cntE
    rw [List.countP_filter]
    refine Nat.le_trans (List.countP_mono_left fun x _ hx => ?_) (Nat.le_of_eq (List.countP_map (p := fun x => x == k) (f := fun e : Str × Nat => e.2) (l := es)))
    simp at hx ⊢
    exact hx.1
  have h4 : cntE (Nd.fol o es).ents k = cntE es k := rfl
  omega
theorem srch_step (b : WF LT PL nds) {W F : List Nat} {n : Nat} (s : Srch nds (W ++ [n]) F) {o : Int} {es : List (Str × Nat)} (h : nds[n]? = some (.fol o es)) : Srch nds (W ++ kids nds es) (n :: F) := by
  have hnd := s.nd
  rw [List.append_assoc, List.nodup_append] at hnd
  obtain ⟨nW, nR, dW⟩ := hnd
  rw [List.singleton_append, List.nodup_cons] at nR
  have hnF : n ∉ F := nR.1
  -- a folder below n is none of those that are known
  have fresh : ∀ k ∈ kids nds es, k ∉ W ∧ k ≠ n ∧ k ∉ F := fun k hk => by
    obtain ⟨he, f⟩ := mem_kids.mp hk
    have hnk : n < k := by
      obtain ⟨e, h1, h2⟩ := he
      have := (b.base.ent n _ h e h1).2.1
      omega
    obtain ⟨o', es', hf⟩ := f
    have c1 := b.once k _ (by omega) hf rfl
    have no : k ∉ (W ++ [n]) ++ F := fun hm => by
      obtain ⟨i, hi, oi, esi, hi2, hi3⟩ := s.par k hm (by omega)
      have hin : i ≠ n := fun e => hnF (e ▸ hi)
      have c2 := cnt_two (k := k) hi2 h hin
      have p1 : 0 < cntE esi k := cntE_pos hi3
      have p2 : 0 < cntE es k := cntE_pos he
      have e1 : cntE (Nd.fol oi esi).ents k = cntE esi k := rfl
      have e2 : cntE (Nd.fol o es).ents k = cntE es k := rfl
      omega
    refine ⟨fun q => no ?_, by omega, fun q => no ?_⟩
    · simp [q]
    · simp [q]
  have sub : ∀ k, k ∈ (W ++ [n]) ++ F → k ∈ (W ++ kids nds es) ++ (n :: F) := fun k hk => by
    simp only [List.mem_append, List.mem_singleton, List.mem_cons] at hk ⊢
    rcases hk with (hk | hk | hk) | hk
    · exact .inl (.inl hk)
    · exact .inr (.inl hk)
    · cases hk
    · exact .inr (.inr hk)
  refine ⟨?_, ?_, sub 0 s.root, ?_, ?_⟩
  · intro k hk
    simp only [List.mem_append, List.mem_cons] at hk
    rcases hk with (hk | hk) | hk | hk
    · exact s.fol k (by simp [hk])
    · exact (mem_kids.mp hk).2
    · exact s.fol k (by simp [hk])
    · exact s.fol k (by simp [hk])
  · rw [List.nodup_append, List.nodup_append]
    refine ⟨⟨nW, kids_nodup b h, fun x hx y hy e => ?_⟩, List.nodup_cons.mpr nR, fun x hx y hy e => ?_⟩
    · subst e
      exact (fresh x hy).1 hx
    · subst e
      rcases List.mem_append.mp hx with hx | hx
      · exact dW x hx x (by simpa using hy) rfl
      · rcases List.mem_cons.mp hy with hy | hy
        · exact (fresh x hx).2.1 hy
        · exact (fresh x hx).2.2 hy
  · intro k hk hk0
    simp only [List.mem_append, List.mem_cons] at hk
    have old : k ∈ (W ++ [n]) ++ F → ∃ i ∈ n :: F, ∃ o es, nds[i]? = some (.fol o es) ∧ ∃ e ∈ es, e.2 = k := fun hm => by
      obtain ⟨i, hi, r⟩ := s.par k hm hk0
      exact ⟨i, List.mem_cons_of_mem _ hi, r⟩
    rcases hk with (hk | hk) | hk | hk
    · exact old (by simp [hk])
    · exact ⟨n, List.mem_cons_self, o, es, h, (mem_kids.mp hk).1⟩
    · exact old (by simp [hk])
    · exact old (by simp [hk])
  · intro i hi o' es' hi' k hk
    rcases List.mem_cons.mp hi with rfl | hi
    · rw [h] at hi'
      cases Option.some.inj hi'
      simp [hk]
    · exact sub k (s.closed i hi o' es' hi' k hk)
/-- nothing waits: every folder is found -/
theorem srch_end (b : WF LT PL nds) {F : List Nat} (s : Srch nds [] F) : ∀ k, FolAt nds k → k ∈ F := by
  intro k
  induction k using Nat.strongRecOn with
  | _ k ih =>
    rintro ⟨o, es, h⟩
    by_cases h0 : k = 0
    · subst h0
      have := s.root
      simpa using this
    · have c := b.once k _ (by omega) h rfl
      obtain ⟨i, nd, e, h1, h2, h3⟩ := cnt_pos (nds := nds) (k := k) (by omega)
      have hik : i < k := by
        have := (b.base.ent i nd h1 e h2).2.1
        omega
      cases nd with
      | fol oi esi =>
        have hi := ih i hik ⟨oi, esi, h1⟩
        have := s.closed i hi oi esi h1 k (mem_kids.mpr ⟨⟨e, h2, h3⟩, o, es, h⟩)
        simpa using this
      | fil _ => cases h2
      | lnk _ _ => cases h2
      | gon _ _ => cases h2
/-- the found ones are no more than the nodes -/
theorem srch_len {W F : List Nat} (s : Srch nds W F) : (W ++ F).length ≤ nds.length := by
  have h1 : ∀ k ∈ W ++ F, k ∈ List.range nds.length := fun k hk => by
    obtain ⟨o, es, h⟩ := s.fol k hk
    exact List.mem_range.mpr (List.getElem?_eq_some_iff.mp h).1
  have := List.Nodup.length_le_of_subset s.nd h1
  rwa [List.length_range] at this
end
end TR

set_option maxRecDepth 100000
set_option maxHeartbeats 4000000
/-! comprehensions over enumerate of a list -/
namespace NG
open PySem L2
theorem lc_enum {K : PySem.W.Frag} {a : Addr} {xs : List V} {tt : TT} {te : TE} {i j : Nat} (hij : i ≠ j) {σ : St} {H1 : Hp} {D : Addr} {Q : Hp → Prop} (p : Nat → Bool) (f : Nat → V) (hx : xs.length < sizeLine) (hD : H1 D = none) (hG : ∀ H, Same H1 H → SqL K H a xs)
    (ht : ∀ (k : Nat) (x : V) (H : Hp) (R : Bool → Hp → Prop), xs[k]? = some x → Same H1 H → (∀ H', Same H H' → R (p k) H') → tt (((wipe σ [i, j]).set i (some (.int (k : Nat)))).set j (some x)) H R)
    (he : ∀ (k : Nat) (x : V) (H : Hp) (R : V → Hp → Prop), xs[k]? = some x → p k = true → Same H1 H → (∀ H', Same H H' → R (f k) H') → te (((wipe σ [i, j]).set i (some (.int (k : Nat)))).set j (some x)) H R)
    (hd : ∀ H, Same H1 H → H D = some (.lst (((List.range xs.length).filter p).map f)) → Q H) :
    ∃ W : Nat → Nat → Hp → Prop, (∃ m, W 0 m (L2.upd H1 D (.lst []))) ∧ ∀ k m H, W k m H →
      ((Ite K a).stop k H ∧ Q H) ∨ ((Ite K a).go k H ∧ ∃ Nx : Hp → Prop, (∀ H', Nx H' → ∃ m', m' < m ∧ W (k + 1) m' H') ∧ ∀ x H', (Ite K a).yld k H x H' → gTup K 2 (gCons (gName i) (gCons (gName j) gNil)) x (wipe σ [i, j]) H' fun σ2 H2 => wipe σ2 [i, j] = wipe σ [i, j] ∧ tt σ2 H2 fun b H3 =>
        if b = true then te σ2 H3 fun y H4 => ∃ acc, H4 D = some (.lst acc) ∧ acc.length < sizeLine ∧ Nx (L2.upd H4 D (.lst (acc ++ [y]))) else Nx H3) := by
  refine lc_it (walk_enum (K := K) (a := a) (xs := xs)) (fun k H => Same H1 H ∧ H D = some (.lst (((List.range k).filter p).map f))) ⟨Same.upd hD, by rw [upd_same]; simp⟩ (fun _ H _ h => hG H h.1) ?_ ?_
  · rintro k x H H' hk ⟨s1, eD⟩ ⟨T, ki, y, rfl, hT, rfl, h1, h2⟩
    cases Option.some.inj h1
    have sT : Same H (L2.upd H T (.tup [.int (k : Nat), y])) := Same.upd hT
    refine ⟨T, [.int (k : Nat), y], rfl, SqT.of upd_same, rfl, _, _, rfl, _, _, rfl, rfl, wipe2 hij _ _, ?_⟩
    have ll : (((List.range k).filter p).map f).length < sizeLine := by
      rw [List.length_map]
      have := List.length_filter_le p (List.range k)
      rw [List.length_range] at this
      omega
    have s0 := s1.trans sT
    have eD0 := sT _ _ eD
    generalize L2.upd H T (.tup [.int (k : Nat), y]) = H0 at s0 eD0
    refine ht k y _ _ h2 s0 (fun H3 s3 => ?_)
    have eD3 := s3 _ _ eD0
    have s13 := s0.trans s3
    refine ite2 (fun hp => ?_) (fun hp => ?_)
    · refine he k y _ _ h2 hp s13 (fun H4 s4 => ⟨_, s4 _ _ eD3, ll, ?_, ?_⟩)
      · intro b o e
        have hb : b ≠ D := ne_of_none e hD
        rw [upd_ne hb]
        exact s4 _ _ (s13 _ _ e)
      · rw [upd_same, List.range_succ, List.filter_append, List.map_append]
        congr 2
        congr 1
        have : [k].filter p = [k] := by simp [hp]
        rw [this]
        rfl
    · refine ⟨s13, ?_⟩
      rw [List.range_succ, List.filter_append, List.map_append]
      have : [k].filter p = [] := by simp [hp]
      rw [this]
      simpa using eD3
  · rintro H ⟨s1, eD⟩
    exact hd H s1 eD
end NG

set_option maxRecDepth 100000
set_option maxHeartbeats 4000000
/-! sorted of a list of data: texts, numbers, tuples of these -/
namespace NG
open PySem L2 PyProof.Rows
def rSortedD (K : PySem.W.Frag) : List V → Hp → VK → Prop := fun vs H Q => ∃ (a : Addr) (bs : List (V × PyData)), vs = [.ref a] ∧ SqL K H a (bs.map (·.1)) ∧ (∀ b ∈ bs, Dp K H b.1 b.2 ∧ b.2.depth ≤ 60) ∧ PySem.W.AllAlike (bs.map (·.2)) ∧ PySem.W.Sortable (bs.map (·.2)) ∧
  ∀ p, H p = none → Q (.ref p) (L2.upd H p (.lst ((bs.mergeSort (PySem.W.dataLe false (·.2))).map (·.1))))
theorem each_of : ∀ {bs : List (V × PyData)} {its : List Value}, Vals (bs.map (·.1)) its → PySem.W.EachIs (fun v (b : V × PyData) => b ∈ bs ∧ RelV b.1 v) its bs
  | [], _, .nil => .nil
  | b :: r, _ :: _, .cons h t => .cons ⟨List.mem_cons_self, h⟩ ((each_of t).mono fun _ _ ⟨h1, h2⟩ => ⟨List.mem_cons_of_mem _ h1, h2⟩)
theorem vals_each {R : V × PyData → Prop} : ∀ {bs : List (V × PyData)} {its : List Value}, PySem.W.EachIs (fun v (b : V × PyData) => R b ∧ RelV b.1 v) its bs → Vals (bs.map (·.1)) its
  | _, _, .nil => .nil
  | _, _, .cons h t => .cons h.2 (vals_each t)
section
variable {X : Cx}
theorem cr_sortedD (hu : X.A.units + 64 < cLine) : CallR X (.builtin "sorted") (rSortedD X.K) := by
  intro pins s σ H vs us Q I r h
  obtain ⟨a, bs, rfl, hs, hd, hal, hk, q⟩ := h
  obtain ⟨its, rv, hl, hz⟩ := I.list hs
  obtain ⟨u, rfl, ru⟩ := vals1 r
  obtain rfl : u = Value.ref a := ru
  have e := each_of rv
  have er : PySem.W.EachIs (fun v (b : V × PyData) => ∃ as, Reads s.heap v b.2 as) its bs := e.mono fun v b ⟨hb, hr⟩ => Dp.reads I b.2 b.1 v (hd b hb).1 hr
  rw [List.length_map] at hz
  refine PySem.W.sorted_data (enc := fun b : V × PyData => b.2) hl.isList e er hal hk hz (fun b hb => by have := (hd b hb).2; omega) fun out ho eo => ?_
  have rv2 := vals_each eo
  obtain ⟨ep, he'⟩ := PyProof.Rows.sortedAll_at s.heap its out.toArray
  refine ⟨.ref _, _, I.laid (t' := s.toks) (o := .lst ((bs.mergeSort (PySem.W.dataLe false (·.2))).map (·.1))) (fun _ _ => PyProof.Rows.sortedAll_old) (Nat.le_succ _) ⟨?_, out, ep, rv2, he'⟩, rfl, q _ (I.hok.fresh (Nat.le_succ _))⟩
  rw [List.length_map, List.length_mergeSort]
  exact hz
end
end NG

set_option maxRecDepth 100000
set_option maxHeartbeats 4000000
/-! a lambda of one parameter without captured names as a thing that is known; sorted(xs, key=lambda x: x[0]) over sequences whose first items are texts -/
namespace NG
open PySem PySem.Spec PyProof.Rows L2 LamX
/-- the object of a lambda that captures nothing, its code object at c -/
def LamO (f : Addr) (q : Str) (ps : Arguments) (b : Expr) (sc : Scope) (c : Addr) : HO := .ext fun h => ∃ pm ctv, h.get? f = some (PySem.W.kla_obj "<lambda>" q ps b sc [] pm c ctv)
theorem lamO_ok {P : Program} {w : World} {H : Hp} {h : Heap} {f c : Addr} {q : Str} {ps : Arguments} {b : Expr} {sc : Scope} {pm ctv : Value} (e : h.get? f = some (PySem.W.kla_obj "<lambda>" q ps b sc [] pm c ctv)) : ObjOk P w H h f (LamO f q ps b sc c) :=
  ⟨⟨pm, ctv, e⟩, ⟨_, e⟩, fun _ _ ⟨pm, ctv, e⟩ st => ⟨pm, ctv, st _ e⟩⟩
theorem lamO_ne {f c : Addr} {q : Str} {ps : Arguments} {b : Expr} {sc : Scope} (xs : Array Value) : LamO f q ps b sc c ≠ .tbl xs := fun z => by
  unfold LamO at z
  cases z
def tLamE (T : List (Addr × Str)) (q : Str) (ps : Arguments) (b : Expr) (sc : Scope) : TE := fun _ H Q => Tabs T H ∧ ∀ (H1 : Hp) (f c : Addr), ExtN H H1 → Tabs T H1 → H1 f = some (LamO f q ps b sc c) → H1 c = some (CodeO c q) → Q (.ref f) H1
section
variable {X : Cx}
theorem tabs_laid {T : List (Addr × Str)} {H : Hp} {f : Addr} {o : HO} (t : Tabs T H) (n : H f = none) : Tabs T (upd H f o) := t.ext fun b u e => by rw [upd_ne (ne_of_none e n)]; exact e
theorem extN_laid {H : Hp} {f : Addr} {o : HO} (n : H f = none) : ExtN H (upd H f o) := .of fun b u e => by rw [upd_ne (ne_of_none e n)]; exact e
theorem pe_lamE {T : List (Addr × Str)} {q : Str} {c P : Addr} {ps : Arguments} {b : Expr} {sc : Scope} {pos : Pos} (TB : TabB X.base X.mg c P) (hcode : X.env.code = .ref c) (hq : X.env.qual ++ "<lambda>" = q) (hmT : (P, q) ∈ T) (hu : ∀ p ∈ T, p.1 = P → p.2 = q)
    (hdef : defaultsOf ps X.env = ([], [])) (hcl : closureFor sc X.env = pure []) : PE X (.Lambda ps b sc pos) (tLamE T q ps b sc) := by
  refine ⟨fun pins s σ H Q I h => ?_⟩
  obtain ⟨hT, h⟩ := h
  obtain ⟨tb, hP, ht, ha⟩ := hT _ hmT
  replace hP : H P = some (.tbl tb) := hP
  refine PySem.W.kla_eval hdef ?_
  rw [hq]
  have bP : s.heap.BuiltinsAt X.mg P := TB.bm.keeps I.bk
  have hP' : s.heap.get? P = some { cls := .none, data := .fields tb } := I.hok P _ hP
  cases hc : codeAmong pos tb.toList with
  | none =>
    refine PySem.W.kla_makeFunction (mg := X.mg) (c := c) (P := P) (ps := tb) hcl I.ok.glob (I.mod.glob.keeps I.bk) hcode (TB.code.keeps I.bk) hP' ht hc TB.gP bP fun c1 ctv h1 tk hx hge hlt hrec htb => ?_
    obtain ⟨c2, oc, vs, t, e2, hoc, hd, hv⟩ := hrec
    cases e2
    have nC : H c1 = none := I.hok.fresh hge
    have nPc : P ≠ c1 := ne_of_none hP nC
    have I1 := inv_table (t' := tk) (h' := h1) I hP hx htb hge ⟨oc, vs, t, hoc, hd, hv⟩
    have nf : (upd (upd H P (.tbl (tb ++ #[rawInt pos.line, rawInt pos.col, .ref c1]))) c1 (CodeO c1 q)) h1.objs.size = none := I1.hok.fresh (Nat.le_refl _)
    have I2 := I1.laid (h' := h1.push (PySem.W.kla_obj "<lambda>" q ps b sc [] ((X.mg "__name__").getD .none) c1 ctv)) (a := h1.objs.size) (o := LamO h1.objs.size q ps b sc c1) (t' := tk) (fun a u e => Heap.get?_push_of_some _ e) (Nat.le_refl _) (lamO_ok (Heap.get?_push_size _ rfl))
    have e1 : ExtN H (upd (upd H P (.tbl (tb ++ #[rawInt pos.line, rawInt pos.col, .ref c1]))) c1 (CodeO c1 q)) := fun a o e n => by
      have na : a ≠ P := fun z => n tb (by rw [z, hP] at e; exact (Option.some.inj e).symm)
      rw [upd_ne (ne_of_none e nC), upd_ne na]
      exact e
    have tl : (tb ++ #[rawInt pos.line, rawInt pos.col, .ref c1]).toList = tb.toList ++ [rawInt pos.line, rawInt pos.col, .ref c1] := by simp
    have t1 : Tabs T (upd (upd H P (.tbl (tb ++ #[rawInt pos.line, rawInt pos.col, .ref c1]))) c1 (CodeO c1 q)) := fun p hp => by
      by_cases hb : p.1 = P
      · rw [hu p hp hb, hb]
        refine ⟨_, by rw [upd_ne nPc, upd_same], by rw [tl]; exact PySem.TriplesOk_snoc _ _ _ _ ht, fun p' cv hcv => ?_⟩
        rw [tl] at hcv
        rcases among_app _ ht hcv with z | z
        · obtain ⟨c0, d1, d2⟩ := ha p' cv z
          exact ⟨c0, d1, e1 _ _ d2 codeO_ne⟩
        · exact ⟨c1, z, upd_same⟩
      · obtain ⟨tb2, a1, a2, a3⟩ := hT p hp
        refine ⟨tb2, by rw [upd_ne (ne_of_none a1 nC), upd_ne hb]; exact a1, a2, fun p' cv hcv => ?_⟩
        obtain ⟨c0, d1, d2⟩ := a3 p' cv hcv
        exact ⟨c0, d1, e1 _ _ d2 codeO_ne⟩
    have nfc : c1 ≠ h1.objs.size := Nat.ne_of_lt hlt
    exact ⟨.ref _, _, I2, rfl, h _ _ c1 (e1.trans (extN_laid nf)) (tabs_laid t1 nf) upd_same (by rw [upd_ne nfc]; exact upd_same)⟩
  | some cv =>
    obtain ⟨c1, e, hco⟩ := ha pos cv hc
    subst e
    refine PySem.W.kla_makeFunctionHit (mg := X.mg) (c := c) (P := P) (ps := tb) hcl I.ok.glob (I.mod.glob.keeps I.bk) hcode (TB.code.keeps I.bk) hP' ht hc bP fun ctv h1 tk hx hsz => ?_
    have nf : H h1.objs.size = none := I.hok.fresh hsz
    have I2 := I.laid (h' := h1.push (PySem.W.kla_obj "<lambda>" q ps b sc [] ((X.mg "__name__").getD .none) c1 ctv)) (a := h1.objs.size) (o := LamO h1.objs.size q ps b sc c1) (t' := tk) (fun a u e => Heap.get?_push_of_some _ (hx a u e)) hsz (lamO_ok (Heap.get?_push_size _ rfl))
    exact ⟨.ref _, _, I2, rfl, h _ _ c1 (extN_laid nf) (tabs_laid hT nf) upd_same (by rw [upd_ne (ne_of_none hco nf)]; exact hco)⟩
theorem each_of' {α : Type} : ∀ {bs : List (V × α)} {its : List Value}, Vals (bs.map (·.1)) its → PySem.W.EachIs (fun v (b : V × α) => b ∈ bs ∧ RelV b.1 v) its bs
  | [], _, .nil => .nil
  | b :: r, _ :: _, .cons h t => .cons ⟨List.mem_cons_self, h⟩ ((each_of' t).mono fun _ _ ⟨h1, h2⟩ => ⟨List.mem_cons_of_mem _ h1, h2⟩)
theorem vals_each' {α : Type} {R : V × α → Prop} : ∀ {bs : List (V × α)} {its : List Value}, PySem.W.EachIs (fun v (b : V × α) => R b ∧ RelV b.1 v) its bs → Vals (bs.map (·.1)) its
  | _, _, .nil => .nil
  | _, _, .cons h t => .cons h.2 (vals_each' t)
/-- lambda x: x[0] -/
def argOne (x : Str) (p : Pos) : Arguments := { posonlyargs := [], args := [{ arg := x, annotation := none, pos := p }], vararg := none, kwonlyargs := [], kw_defaults := [], kwarg := none, defaults := [] }
def firstOf (x : Str) (p1 p2 p3 : Pos) : Expr := .Subscript (.Name x p1) (.Constant (.int 0) 0 p2) p3
def leStr (x y : V × Str) : Bool := decide (x.2.cps.toList ≤ y.2.cps.toList)
def rSortK (K : PySem.W.Frag) (q : Str) (ps : Arguments) (b : Expr) (sc : Scope) : List V → List V → Hp → VK → Prop := fun vs zs H Q => ∃ (a f c : Addr) (bs : List (V × Str)), vs = [.ref a] ∧ zs = [.ref f] ∧ H f = some (LamO f q ps b sc c) ∧ H c = some (CodeO c q) ∧ SqL K H a (bs.map (·.1)) ∧
  (∀ b ∈ bs, ∃ t r, b.1 = .ref t ∧ SqT K H t (.str b.2 :: r)) ∧ ∀ p, H p = none → Q (.ref p) (upd H p (.lst ((bs.mergeSort leStr).map (·.1))))
theorem cr_sortK (hu : X.A.units + 64 < cLine) (hd : X.A.depth + 8 < recursionLimit) {q x : Str} {p0 p1 p2 p3 : Pos} {sc : Scope} (hsc : sc = { kind := .function, names := [(x, .local)], isGenerator := false, isCoroutine := false, more := [] }) (hx : (x == ("__debug__" : Str)) = false)
    (hbind : ∀ pm cv ctv v : Value, bindArgs (PySem.W.kla_fn "<lambda>" q (argOne x p0) (firstOf x p1 p2 p3) sc [] pm cv ctv) ⟨[v], []⟩ = pure [(x, v)]) :
    CallRK X (.builtin "sorted") [Str.ofString "key"] (rSortK X.K q (argOne x p0) (firstOf x p1 p2 p3) sc) := by
  intro pins s σ H vs zs us ws Q I r rz h
  obtain ⟨a, f, c, bs, rfl, rfl, hf, hc, hs, hb, k⟩ := h
  obtain ⟨its, rv, hl, hz⟩ := I.list hs
  obtain ⟨u, rfl, ru⟩ := vals1 r
  obtain rfl : u = Value.ref a := ru
  obtain ⟨g, rfl, rg⟩ := vals1 rz
  obtain rfl : g = Value.ref f := rg
  have e := each_of' rv
  rw [List.length_map] at hz
  obtain ⟨⟨pm, ctv, ef⟩, _, _⟩ := I.hok f _ hf
  obtain ⟨⟨oc, ovs, t, eoc, edc, evc⟩, _, _⟩ := I.hok c _ hc
  refine PySem.W.sorted_key_data (b := false) (fun b : V × Str => .str b.2) hl.isList e (PySem.W.AllAlike.of fun _ _ => by simp [PySem.W.alike]) (PySem.W.Sortable.others fun _ => ⟨(fun z => by cases z), (fun _ z => by cases z)⟩) hz (fun b _ => ?_) (ksk_s1 _ _) (fun _ => ksk_l1 _ _) (fun _ => ksk_t1 _ _) (fun v y hR _ h0 tk kp => ?_) fun out n h0 tk kp _ hD ho eo => ?_
  · have : (PyData.str b.2).depth = 0 := by simp [PyData.depth]
    omega
  · obtain ⟨hyb, hyv⟩ := hR
    obtain ⟨t0, rest, ey, hT⟩ := hb y hyb
    rw [ey] at hyv
    cases hyv
    obtain ⟨ts, tv, tp, _⟩ := I.tuple hT
    cases tv with
    | cons hn tr =>
    obtain ⟨tn, rfl⟩ := hn
    refine wpAny_call (codeAny_mono (PySem.W.kla_callFunE (R := fun r s' => ∃ u, r = .ok (.ret u) ∧ PySem.W.KeyPure (.str y.2) { s with heap := h0, toks := tk } u s') (by show X.A.depth < _; omega) (kp _ _ ef) rfl (by rw [hsc]) (by rw [hsc]) rfl ⟨c, oc, ovs, t, rfl, kp _ _ eoc, edc, evc⟩ ?_) fun r s' ⟨u, e, k⟩ => by subst e; exact k)
    have eb : bindArgs (PySem.W.kla_fn "<lambda>" q (argOne x p0) (firstOf x p1 p2 p3) sc [] pm (.ref c) ctv) ⟨[.ref t0], []⟩ = pure [(x, .ref t0)] := hbind _ _ _ _
    rw [eb]
    have el : sc.names.lookup x = some .local := by rw [hsc]; simp
    refine wpAny_pure (wpAny_newFunctionEnv (fun y hy => by rw [hsc] at hy; rw [List.mem_singleton.mp hy]; exact fun z => by cases z) (fun y hy => by rw [List.mem_singleton.mp hy]; exact el) (fun h1 hns hsb => ⟨(I.nolimit.keeps kp).fresh _ hsb, ?_⟩) (by rw [hsc]))
    have kp1 : ∀ b o, h0.get? b = some o → h1.get? b = some o := fun b o e => hsb.extBut b o (Nat.ne_of_lt (Heap.lt_size e)) (Heap.get?_push_of_some _ e)
    refine PySem.W.kla_codeExpr (Subscript_ (wpAny_Name (wpAny_loadName_local (v := .ref t0) (by rw [hsc]; rfl) (by exact el) hns (by simp) (wpAny_Constant_int ?_)) hx))
    obtain ⟨otup, ep, ec, n0, ed⟩ := tp
    have tp1 : IsTup h1 t0 (Value.str y.2 tn :: _).toArray := ⟨otup, kp1 _ _ (kp _ _ ep), ec, n0, ed⟩
    refine subscriptTail_builtinR (x := .str y.2 tn) tp1.typeIs slot_tuple_getitem.lookup (PyProof.Rows.getItem_tuple (j := 0) tp1 (by decide) (by decide) (by simp [seqIndex?]) (by simp) ⟨rfl, ?_⟩) (by rfl)
    exact ⟨_, rfl, h1, _, rfl, kp1, .str _ _⟩
  · have rv2 := vals_each' eo
    refine ⟨.ref _, _, I.laid (t' := tk) (o := .lst ((bs.mergeSort leStr).map (·.1))) kp (Nat.le_succ _) ⟨?_, out, n, ?_, hD⟩, rfl, k _ (I.hok.fresh (Nat.le_succ _))⟩
    · rw [List.length_map, List.length_mergeSort]
      exact hz
    · rw [PySem.W.dataLe_str] at rv2
      exact rv2
end
end NG
namespace NG
open PySem PySem.Spec PyProof.Rows L2 LamX
theorem fun_okC {P : Program} {w : World} {K : PySem.W.Frag} {mg : Str → Option Value} {base : Heap} {x qual : Str} {st : Stmt} {f c : Addr} {fd : FuncData} {N ps : List Str} {k : Nat} {sp : Sp} (F : Fun K x qual st f fd) (hc : fd.code = .ref c) (S : FnScope N ps (defScope st)) (len : ∀ vs H Q E, sp vs H Q E → vs.length = ps.length)
    (hbody : ∀ (A : Around) (outer : List Env) (s : Shared) (H : Hp) (vs : List V) (Q : VK) (E : XK), Room k (A.deeper (envOfC qual (defScope st) s.heap.objs.size f (.ref c))) → sp vs H Q E →
      ∃ t, PSs (cxOf C8.CX0 P w K mg base N qual (defScope st) f (.ref c) A outer s H E).nox (defBody st) t ∧ t { nx := fun _ H' => Q .non H', rt := Q } (L2.start N vs) H) : FnOk P w K mg base C8.CX0 (k + 1) f fd ps sp := by
  obtain ⟨oc, od, kV, doc, pm, an, cdv, ct, osl, rfl, lk, hcd⟩ := F.ex
  have e : cdv = .ref c := hc
  subst e
  refine fn_of lk hcd S len fun A outer s H vs Q E hr hsp => ?_
  obtain ⟨t, h, q⟩ := hbody A outer s H vs Q E hr hsp
  exact ⟨t, h.nox, q⟩
theorem hu64 {A : Around} {k : Nat} (hr : Room k A) : A.units + 64 < cLine := by have := hr.un; omega
theorem hd8 {A : Around} {k : Nat} (hr : Room (k + 1) A) : A.depth + 8 < recursionLimit := by have := hr.dp; omega
theorem ExtN.sqT {K : PySem.W.Frag} {H H' : Hp} {a : Addr} {xs : List V} (e : ExtN H H') (h : SqT K H a xs) : SqT K H' a xs := by
  rcases h with (h | ⟨o, h⟩) | h
  · exact .inl (.inl (e _ _ h (fun _ z => by cases z)))
  · exact .inl (.inr ⟨o, e _ _ h (fun _ z => by cases z)⟩)
  · exact .inr h
theorem ExtN.same {H H' : Hp} (s : Same H H') : ExtN H H' := .of fun b o e => s b o e
def tSortBy (K : PySem.W.Frag) (T : List (Addr × Str)) (i : Nat) : TE := fun σ H Q => ∃ a, σ[i]? = some (some (.ref a)) ∧ ∃ bs : List (V × Str), Tabs T H ∧ SqL K H a (bs.map (·.1)) ∧ (∀ b ∈ bs, ∃ t r, b.1 = .ref t ∧ SqT K H t (.str b.2 :: r)) ∧
  ∀ (p : Addr) (H' : Hp), ExtN H H' → Tabs T H' → H' p = some (.lst ((bs.mergeSort leStr).map (·.1))) → Q (.ref p) H'
theorem ExtN.sqL {K : PySem.W.Frag} {H H' : Hp} {a : Addr} {xs : List V} (e : ExtN H H') (h : SqL K H a xs) : SqL K H' a xs := by
  rcases h with (h | ⟨o, h⟩) | h
  · exact .inl (.inl (e _ _ h (fun _ z => by cases z)))
  · exact .inl (.inr ⟨o, e _ _ h (fun _ z => by cases z)⟩)
  · exact .inr h
/-- sorted(xs, key=lambda x: x[0]) -/
theorem pe_sortBy {X : Cx} {T : List (Addr × Str)} {q x : Str} {c P : Addr} {i : Nat} {y : Str} {py : Pos} {sc : Scope} {p p0 p1 p2 p3 lpos kpos cpos : Pos} (he : PE X (.Name y py) (tVar i)) (hu : X.A.units + 64 < cLine) (hd : X.A.depth + 8 < recursionLimit) (hg : Gl X "sorted") (hm : X.mg "sorted" = none)
    (TB : TabB X.base X.mg c P) (hcode : X.env.code = .ref c) (hq : X.env.qual ++ "<lambda>" = q) (hmT : (P, q) ∈ T) (hT : ∀ p ∈ T, p.1 = P → p.2 = q) (hcl : closureFor sc X.env = pure [])
    (hsc : sc = { kind := .function, names := [(x, .local)], isGenerator := false, isCoroutine := false, more := [] }) (hx : (x == ("__debug__" : Str)) = false)
    (hbind : ∀ pm cv ctv v : Value, bindArgs (PySem.W.kla_fn "<lambda>" q (argOne x p0) (firstOf x p1 p2 p3) sc [] pm cv ctv) ⟨[v], []⟩ = pure [(x, v)]) :
    PE X (.Call (.Name "sorted" p) [.Name y py] [⟨some "key", .Lambda (argOne x p0) (firstOf x p1 p2 p3) sc lpos, kpos⟩] cpos) (tSortBy X.K T i) := by
  refine ⟨fun pins s σ H Q I h => ?_⟩
  obtain ⟨a, hi, bs, t0, hL, hP, k⟩ := h
  refine (pe_callBK (cr_sortK (q := q) hu hd hsc hx hbind) hg hm (by decide +kernel) (pa_cons he pa_nil) (pk_cons (pe_lamE (T := T) (q := q) TB hcode hq hmT hT rfl hcl) pk_nil) ).run pins s σ H Q I ?_
  refine ⟨.ref a, hi, t0, fun H1 f c1 e1 t1 hf hc => ?_⟩
  refine ⟨a, f, c1, bs, rfl, rfl, hf, hc, ExtN.sqL e1 hL, fun b hb => let ⟨t, r, h1, h2⟩ := hP b hb; ⟨t, r, h1, ExtN.sqT e1 h2⟩, fun p hp => ?_⟩
  exact k p _ (e1.trans (extN_laid hp)) (tabs_laid t1 hp) upd_same
end NG

set_option maxRecDepth 100000
set_option maxHeartbeats 400000
/-! a comprehension whose items are told by what is true of each (Px), made step by step (S), from H1 on (R) -/
namespace NG
open PySem L2
theorem lc_rel {J : It} {xs : List V} {G : Hp → Prop} (w : Walk J xs.length G (YAt xs)) {te : TE} {i : Nat} {σ : St} {H1 : Hp} {D : Addr} {Q : Hp → Prop} (R : Hp → Prop) (S : Hp → Hp → Prop) (Px : Nat → V → Hp → Prop) (hx : xs.length < sizeLine) (h0 : R (L2.upd H1 D (.lst [])))
    (hG : ∀ H, R H → G H) (hS1 : ∀ H H', R H → S H H' → R H') (hS2 : ∀ H H' acc, R H → S H H' → H D = some (.lst acc) → H' D = some (.lst acc)) (hS3 : ∀ k y H H', S H H' → Px k y H → Px k y H')
    (hU : ∀ H acc y, R H → H D = some (.lst acc) → R (L2.upd H D (.lst (acc ++ [y])))) (hP : ∀ k y H acc acc', H D = some (.lst acc) → Px k y H → Px k y (L2.upd H D (.lst acc')))
    (he : ∀ (k : Nat) (x : V) (H : Hp) (Rk : V → Hp → Prop), xs[k]? = some x → R H → (∀ y H', S H H' → Px k y H' → Rk y H') → te ((wipe σ [i]).set i (some x)) H Rk)
    (hd : ∀ H ys, R H → H D = some (.lst ys) → ys.length = xs.length → (∀ k y, ys[k]? = some y → Px k y H) → Q H) :
    ∃ W : Nat → Nat → Hp → Prop, (∃ m, W 0 m (L2.upd H1 D (.lst []))) ∧ ∀ k m H, W k m H →
      (J.stop k H ∧ Q H) ∨ (J.go k H ∧ ∃ Nx : Hp → Prop, (∀ H', Nx H' → ∃ m', m' < m ∧ W (k + 1) m' H') ∧ ∀ x H', J.yld k H x H' → gName i x (wipe σ [i]) H' fun σ2 H2 => wipe σ2 [i] = wipe σ [i] ∧ tYes σ2 H2 fun b H3 =>
        if b = true then te σ2 H3 fun y H4 => ∃ acc, H4 D = some (.lst acc) ∧ acc.length < sizeLine ∧ Nx (L2.upd H4 D (.lst (acc ++ [y]))) else Nx H3) := by
  refine lc_it w (fun k H => R H ∧ ∃ acc, H D = some (.lst acc) ∧ acc.length = k ∧ ∀ j y, acc[j]? = some y → Px j y H) ⟨h0, [], upd_same, rfl, fun j y h => by cases h⟩ (fun _ H _ h => hG H h.1) ?_ ?_
  · rintro k x H H' hk ⟨r, acc, eD, el, hx'⟩ ⟨rfl, hxk⟩
    refine ⟨?_, ?_⟩
    · show List.set (List.set (List.set σ i none) i _) i none = List.set σ i none
      rw [List.set_set, List.set_set]
    · refine he k x _ _ hxk r (fun y H4 s p => ?_)
      have eD4 := hS2 _ _ _ r s eD
      refine ⟨acc, eD4, by omega, hU _ _ _ (hS1 _ _ r s) eD4, acc ++ [y], upd_same, by rw [List.length_append, el]; rfl, fun j z hz => ?_⟩
      refine hP j z _ _ _ eD4 ?_
      by_cases hj : j < acc.length
      · rw [List.getElem?_append_left hj] at hz
        exact hS3 _ _ _ _ s (hx' j z hz)
      · have hl := (List.getElem?_eq_some_iff.mp hz).1
        rw [List.length_append, List.length_singleton] at hl
        have ej : j = acc.length := by omega
        subst ej
        rw [List.getElem?_append_right (Nat.le_refl _), Nat.sub_self] at hz
        cases Option.some.inj hz
        rw [el]
        exact p
  · rintro H ⟨r, acc, eD, el, hx'⟩
    exact hd H acc r eD el hx'
end NG

set_option maxRecDepth 100000
set_option maxHeartbeats 400000
/-! set(xs) of a list of keys of any one kind, how many there are; len(set(xs)) of texts -/
namespace NG
open PySem PySem.Spec PyProof.Rows L2
/-- the different ones of a list -/
def diff1 {α : Type} [DecidableEq α] (a : List α) (x : α) : List α := if x ∈ a then a else x :: a
def diffs {α : Type} [DecidableEq α] (xs : List α) : List α := xs.foldl diff1 []
theorem diffs_snoc {α : Type} [DecidableEq α] (xs : List α) (x : α) : diffs (xs ++ [x]) = diff1 (diffs xs) x := by unfold diffs; rw [List.foldl_append]; rfl
theorem diffs_le {α : Type} [DecidableEq α] (xs : List α) : (diffs xs).length ≤ xs.length := by
  suffices h : ∀ (ys a : List α), (ys.foldl diff1 a).length ≤ a.length + ys.length by
    have := h xs []
    simpa [diffs] using this
  intro ys
  induction ys with
  | nil => intro a; simp
  | cons y r ih =>
    intro a
    rw [List.foldl_cons]
    refine Nat.le_trans (ih _) ?_
    unfold diff1
    split <;> simp only [List.length_cons] <;> omega
theorem diffs_nodup {α : Type} [DecidableEq α] {xs : List α} (h : xs.Nodup) : (diffs xs).length = xs.length := by
  suffices q : ∀ (ys a : List α), ys.Nodup → (∀ y ∈ ys, y ∉ a) → (ys.foldl diff1 a).length = a.length + ys.length by
    have := q xs [] h (by simp)
    simpa [diffs] using this
  intro ys
  induction ys with
  | nil => intro a _ _; simp
  | cons y r ih =>
    intro a hn ha
    rw [List.nodup_cons] at hn
    rw [List.foldl_cons]
    have e : diff1 a y = y :: a := by unfold diff1; rw [if_neg (ha y List.mem_cons_self)]
    rw [e, ih _ hn.2 (fun z hz q => ?_)]
    · simp only [List.length_cons]; omega
    · rcases List.mem_cons.mp q with rfl | q
      · exact hn.1 hz
      · exact ha z (List.mem_cons_of_mem _ hz) q
section
variable {prog : Program} {w : World} {A : Around} {T : Type} [DecidableEq T] {kd : KeyKind prog w T} {it : Addr} {fp wr : List Addr} {G : Array GenState → Array GenState → Prop} {Pv : Nat → Value → Prop} {St : Nat → Shared → Prop} {R : Result → Shared → Prop}
/-- the set at c holds the first i keys -/
def Holds (kd : KeyKind prog w T) (h : Heap) (c : Addr) (ks : List T) (i : Nat) : Prop := h.SetOf kd c (fun k => decide (k ∈ diffs (ks.take i))) (diffs (ks.take i)).length
theorem Holds.moved {h h' : Heap} {c : Addr} {ks : List T} {i : Nat} (x : Holds kd h c ks i) (e : ∀ o, h.get? c = some o → h'.get? c = some o) : Holds kd h' c ks i := by
  obtain ⟨o, y⟩ := x
  obtain ⟨es, ep, t, ho, y⟩ := y
  exact ⟨o, es, ep, t, e o ho, y⟩
theorem setOf_eq {h : Heap} {c : Addr} {S S2 : T → Bool} {m m2 : Nat} (x : h.SetOf kd c S m) (e : S = S2) (n : m = m2) : h.SetOf kd c S2 m2 := e ▸ n ▸ x
theorem fill_loop {ks : List T} (W : WalksS prog w A.in1 it fp wr G ks.length Pv St) (c : Addr) (hc : c ∉ fp) (hv : ∀ (i : Nat) (v : Value) (k : T), Pv i v → ks[i]? = some k → kd.is k v = true ∧ v.scannable = true) (hb : ks.length + 1 < scanBound) :
    ∀ (left i : Nat) (s : Shared), ks.length = i + left → St i s → Holds kd s.heap c ks i → (∀ s', Moved (c :: wr) G s s' → Holds kd s'.heap c ks ks.length → R (.ok (.ret .none)) s') →
      codeAny (model prog w) A (.builtin "set.update.loop" ⟨[.ref c, .ref it], []⟩) R s := by
  have cw : c ∉ wr := fun z => hc (W.sub _ z)
  have up : ∀ b, b ∈ wr → b ∈ c :: wr := fun b z => List.mem_cons_of_mem c z
  intro left
  induction left with
  | zero =>
    intro i s hi st hs k
    obtain rfl : ks.length = i := by omega
    refine codeAny_builtin F.entry_set_update_loop ?_
    rw [Around.under_plainId F.plain_set_update_loop _]
    refine wpAny_bind (m := pyNext (.ref it)) (W.done s _ _ st fun s1 m1 => wpAny_pure (k s1 (m1.mono up) (hs.moved fun o e => m1.heap c o cw e)))
  | succ left ih =>
    intro i s hi st hs k
    have il : i < ks.length := by omega
    have ek : ks[i]? = some ks[i] := List.getElem?_eq_getElem il
    generalize ks[i] = key at ek
    refine codeAny_builtin F.entry_set_update_loop ?_
    rw [Around.under_plainId F.plain_set_update_loop _]
    refine wpAny_bind (m := pyNext (.ref it)) (W.item i s _ _ il st fun v s1 pv st1 m1 => ?_)
    obtain ⟨vk, vs⟩ := hv i v key pv ek
    have h1 : Holds kd s1.heap c ks i := hs.moved fun o e => m1.heap c o cw e
    refine wpAny_bind (m := holding [v] (setAdd c v)) (wpAny_holding ?_)
    unfold setAdd
    refine wpAny_holding (wpAny_bind (kd.pyHash (k := key) vk ?_))
    have ll : (diffs (ks.take i)).length + 1 < scanBound := by
      have a1 := diffs_le (ks.take i)
      have a2 := List.length_take_le i ks
      omega
    refine wpAny_setAddHashed_of (knd := kd) (s := { s1 with toks := s1.toks + 1 }) vk vs h1 ll fun h2 sb y => ?_
    have et : ks.take (i + 1) = ks.take i ++ [key] := by rw [List.take_add_one, ek]; rfl
    have h3 : Holds kd h2 c ks (i + 1) := by
      unfold Holds
      rw [et, diffs_snoc]
      refine setOf_eq y (funext fun z => ?_) ?_
      · unfold diff1
        by_cases q : key ∈ diffs (ks.take i)
        · rw [if_pos q]
          by_cases e : z = key
          · subst e; simp [q]
          · simp [e]
        · rw [if_neg q, Bool.eq_iff_iff]
          simp [Bool.or_eq_true, List.mem_cons, or_comm]
      · unfold diff1
        by_cases q : key ∈ diffs (ks.take i)
        · simp [q]
        · simp [q]
    refine wpAny_pure ⟨plainId_quiet F.plain_set_update_loop _, ih (i + 1) _ (by omega) (W.frame _ s1 _ _ st1 (Nat.le_succ _) fun b q o e => ?_) h3 fun s4 m4 h4 => k s4 (Moved.trans W.gtrans ((m1.mono up).then_heap (Nat.le_succ _) fun b o q e => ?_) m4) h4⟩
    · rw [sb.2 b fun z => hc (z ▸ q)]; exact e
    · rw [sb.2 b fun z => q (z ▸ List.mem_cons_self)]; exact e
end
section
variable {prog : Program} {w : World} {A : Around} {E : Value → Shared → Prop} {s : Shared} {T : Type} [DecidableEq T] {kd : KeyKind prog w T}
abbrev setO (led : Bool) : Obj := { cls := .type "set", dict := none, data := .set #[] 0 (.fresh 0 0 led) }
set_option maxHeartbeats 3200000 in
theorem set_call {l : Addr} {items : Array Value} {ks : List T} {Q : Value → Shared → Prop} (hh : A.handled = none) (hl : s.heap.IsList l items) (hk : items.size = ks.length)
    (hv : ∀ (i : Nat) (v : Value) (k : T), items[i]? = some v → ks[i]? = some k → kd.is k v = true ∧ v.scannable = true) (hb : ks.length + 1 < scanBound)
    (fin : ∀ (g : Heap) (tk : Nat), Holds kd g s.heap.objs.size ks ks.length → (∀ b o, b < s.heap.objs.size → s.heap.get? b = some o → g.get? b = some o) → Q (.ref s.heap.objs.size) { s with heap := g, toks := tk }) :
    wpAny (model prog w) A (call (.type "set") [.ref l]) Q E s := by
  obtain ⟨c0, t0, mro0⟩ := PySem.F.called_set.mro
  have q1 := PySem.F.called_set.made
  have q2 := PySem.F.called_set.sub
  have q3 := PySem.F.called_set.notType
  have q4 := PySem.F.called_set.canCreate
  have q5 := PySem.F.typeCall_set_1 (.ref l)
  refine wpAny_call (codeAny_of_tree ?_)
  show wpAny _ _ (callAny (.type "set") _) _ _ _
  refine wpAny_pure ⟨Code.quiet_builtin _ (by decide +kernel), codeAny_builtin PySem.F.entry_type_call ?_⟩
  rw [Around.under_plain (weight_type_call_type "set" [.ref l] []) rfl]
  repeat (any_goals (first | assumption | wp_step))
  refine codeAny_mono (code_set_new_1 (.ref l) (E := E) (Q₁ := fun v s1 => ∃ led : Bool, v = .ref s.heap.objs.size ∧ s1 = { s with heap := s.heap.push (setO led) }) fun led => ⟨led, rfl, rfl⟩) fun r s1 hr => ?_
  match r, hr with
  | .ok (.ret v), hr =>
    obtain ⟨led, rfl, rfl⟩ := hr
    have g0 : (s.heap.push (setO led)).get? s.heap.objs.size = some (setO led) := Heap.get?_push_size _ rfl
    have ty : Shared.TypeIs { s with heap := s.heap.push (setO led) } (.ref s.heap.objs.size) "set" := ⟨_, g0, rfl⟩
    have q6 := PySem.F.called_set.init.lookup
    have q7 := PySem.F.called_set.init.bind (.ref s.heap.objs.size)
    repeat (any_goals (first | assumption | wp_step))
    refine codeAny_mono (codeAny_call_builtin (R := wants (fun u s2 => u = .none ∧ ∃ g tk, s2 = { s with heap := g, toks := tk } ∧ Holds kd g s.heap.objs.size ks ks.length ∧ (∀ b o, b < s.heap.objs.size → s.heap.get? b = some o → g.get? b = some o)) E)
      PySem.F.called_set.init.plain PySem.F.entry_set_init (check_set_init_1 ty ?_)) fun r2 s2 hr2 => ?_
    · obtain ⟨⟨lc, ld, lda, lsl⟩, ol, e1, n0, e2⟩ := hl
      simp only at e1 e2
      subst e1 e2
      have ol1 : (s.heap.push (setO led)).get? l = some { cls := .type "list", dict := ld, data := .seq items n0, slots := lsl } := Heap.get?_push_of_some _ ol
      have l1 : (s.heap.push (setO led)).IsList l items := ⟨_, ol1, rfl, n0, rfl⟩
      have q8 := PySem.F.sub_list_set
      have q9 := PySem.F.sub_list_frozenset
      have q10 : (Value.type "list" == Value.type "dict") = false := by decide
      unfold Builtin.«set.__init__» noKeywords Builtin.Frozenset.updateFrom
      generalize hit : pyIter = PI
      wp_walk
      subst hit
      refine wpAny_pyIter_list l1 (wpAny_bind (wpAny_runValue ?_))
      have lt := Heap.lt_size ol
      have sz : (s.heap.push (setO led)).objs.size = s.heap.objs.size + 1 := Heap.size_push ..
      have nl : l ≠ (s.heap.push (setO led)).objs.size := by rw [sz]; exact Nat.ne_of_lt (Nat.lt_succ_of_lt lt)
      have nc : s.heap.objs.size ∉ [(s.heap.push (setO led)).objs.size, l] := by
        rw [sz]
        simp only [List.mem_cons, List.not_mem_nil, or_false, not_or]
        exact ⟨Nat.ne_of_lt (Nat.lt_succ_self _), Nat.ne_of_gt lt⟩
      have Wl := (Walks.list (prog := prog) (w := w) (A := A.in1.in1.in1) (by simp [hh]) _ l nl items).toS
      rw [hk] at Wl
      refine fill_loop (kd := kd) (ks := ks) Wl s.heap.objs.size nc hv hb ks.length 0 _ (by omega) ⟨⟨_, Heap.get?_push_size _ rfl, rfl, rfl⟩, l1.push _⟩ ?_ fun s3 m3 h3 => ?_
      · refine setOf_eq ((setObjOf_fresh (knd := kd) led).setOf (Heap.get?_push_of_some _ g0) (by unfold scanBound; omega)) (funext fun z => ?_) rfl
        simp [diffs]
      · obtain ⟨g, g1, d1, tk, o1⟩ := s3
        obtain rfl : g1 = s.gens := m3.gens
        obtain rfl : d1 = s.drawn := m3.drawn
        obtain rfl : o1 = s.os := m3.os
        refine wpAny_pure (wpAny_pure (show _ from ⟨rfl, g, tk, rfl, h3, fun b o lb e => m3.heap b o ?_ (Heap.get?_push_of_some _ (Heap.get?_push_of_some _ e))⟩))
        simp only [List.mem_cons, List.not_mem_nil, or_false, not_or]
        exact ⟨Nat.ne_of_lt lb, by rw [sz]; exact Nat.ne_of_lt (Nat.lt_succ_of_lt lb)⟩
    · match r2, hr2 with
      | .ok (.ret u), hr2 =>
        obtain ⟨rfl, g, tk, rfl, hg, kp⟩ := hr2
        repeat (any_goals (first | assumption | wp_step))
        exact fin g tk hg kp
      | .ok .next, hr2 => exact hr2.elim
      | .ok .brk, hr2 => exact hr2.elim
      | .ok .cont, hr2 => exact hr2.elim
      | .error e, hr2 => exact hr2
  | .ok .next, hr => exact hr.elim
  | .ok .brk, hr => exact hr.elim
  | .ok .cont, hr => exact hr.elim
  | .error e, hr => exact hr
end
/-- len(set(xs)), xs a list of texts -/
def tLenSetS (K : PySem.W.Frag) (ta : TE) : TE := fun σ H Q => ta σ H fun x H1 => ∃ l, ∃ xs : List Str, x = .ref l ∧ SqL K H1 l (xs.map V.str) ∧ xs.length + 1 < scanBound ∧ Q (.int (diffs xs).length) H1
theorem pe_lenSetS {X : Cx} {a : Expr} {ta : TE} {p p2 q pos : Pos} (hc : X.calm = true) (g1 : Gl X "len") (m1 : X.mg "len" = none) (g2 : Gl X "set") (m2 : X.mg "set" = none) (ha : PE X a ta)
    (na : starEach [a] X.env = (false, eval a X.env) :: starEach [] X.env := by rfl) : PE X (.Call (.Name "len" p) [.Call (.Name "set" p2) [a] [] q] [] pos) (tLenSetS X.K ta) := by
  refine ⟨fun pins s σ H Q I h => ?_⟩
  refine Call_ (ld_blt I g1 m1 boot_len (callWith_builtin1 (args_cons (Call_ (ld_blt I g2 m2 boot_set ?_)) rfl) rfl rfl))
  refine callWith_type1 (args_cons (thn (ha.run pins s σ H _ I h) fun v s1 ⟨x, H1, I1, r1, l, xs, ex, hq, hb, k⟩ => args_nil ?_) na) na rfl
  subst ex
  cases r1
  obtain ⟨its, rv, pl, _⟩ := I1.list hq
  have len : its.toArray.size = xs.length := by rw [List.size_toArray, ← rv.length, List.length_map]
  refine set_call (kd := PySem.strKind X.prog X.w) (ks := xs) (I1.ok.hd hc) pl.isList len (fun i u k e1 e2 => ?_) hb fun g tk hs kp => args_nil ?_
  · obtain ⟨u', e3, t, rfl⟩ := rv.get (i := i) (x := V.str k) (by rw [List.getElem?_map, e2]; rfl)
    have : u = .str k t := by
      have e4 : its[i]? = some u := by simpa using e1
      rw [e3] at e4
      exact (Option.some.inj e4).symm
    subst this
    exact ⟨strKind_is _ _ _ _, rfl⟩
  · have I2 : Inv X pins σ H1 { s1 with heap := g, toks := tk } := I1.kept fun b o e => kp b o (Heap.lt_size e) e
    unfold Holds at hs
    rw [List.take_length] at hs
    obtain ⟨o, es, ep, t, ho, hex, hd, _, _, lt, hf, hn⟩ := hs
    refine call_len_set ho hex hd hf (by unfold scanBound at lt; omega) ⟨.int (diffs xs).length, H1, I2.tok _, ⟨_, by rw [hn]⟩, k⟩
end NG

set_option maxRecDepth 100000
set_option maxHeartbeats 400000
/-! statements that are not come to; xs[i] += e -/
namespace NG
open PySem PyProof.Rows L2
section
variable {X : Cx}
theorem pss_dead {ss : List Stmt} : PSs X ss (fun _ _ _ => False) := ⟨fun _ _ _ _ _ _ h => h.elim⟩
theorem ps_dead {st : Stmt} : PS X st (fun _ _ _ => False) := ⟨fun _ _ _ _ _ _ h => h.elim⟩
def rGetN (K : PySem.W.Frag) : V → V → Hp → VK → Prop := fun o i H Q => ∃ (p : Addr) (xs : List V) (k : Nat) (v : V), o = .ref p ∧ i = .int (k : Nat) ∧ SqL K H p xs ∧ xs[k]? = some v ∧ Q v H
theorem get_listN : PGet X (rGetN X.K) := by
  intro pins s σ H o i ov iv Q I ro ri h
  obtain ⟨p, xs, k, v, rfl, rfl, hs, hv, q⟩ := h
  cases ro
  obtain ⟨t, rfl⟩ := ri
  obtain ⟨its, r, pl, hz⟩ := I.list hs
  obtain ⟨u, hu, ru⟩ := r.get hv
  have hk := (List.getElem?_eq_some_iff.mp hv).1
  have hn := line63
  exact wpAny_getItem_list pl.isList (by omega) (by omega) (by simpa using hu) ⟨v, H, I, ru, q⟩
end
end NG

set_option maxRecDepth 100000
set_option maxHeartbeats 1000000
/-! enumerate over a tuple -/
namespace NG
open PySem PyProof.Rows L2
theorem new_enum {v : Value} {ob : Obj} {Z : Heap → Prop} (B : Begins v ob Z) :
    Meets (Builtin.«enumerate.__new__» ⟨[.type "enumerate", v], []⟩) (fun _ R s => Z s.heap ∧
      R (.ok (.ret (.ref (s.heap.push ob).objs.size))) { s with heap := (s.heap.push ob).push { cls := .type "enumerate", data := .fields #[.none, .bool false, .ref s.heap.objs.size, rawInt 0, .none, .none] } }) :=
  .of_wp fun prog w A R s z => by
    obtain ⟨hp, gs, dr, tk, os⟩ := s
    obtain ⟨z1, z2⟩ := z
    have sub := sub_enumerate
    have step : ∀ {A1 : Around} {E1 Q1 : Value → Shared → Prop}, Q1 (.ref hp.objs.size) ⟨hp.push ob, gs, dr, tk, os⟩ → wpAny (model prog w) A1 (pyIter v) Q1 E1 ⟨hp, gs, dr, tk, os⟩ := fun q => B.iter prog w _ _ ⟨hp, gs, dr, tk, os⟩ _ z1 q
    wp_walk using step
    refine wpAny_stack_any fun st => wpAny_pure ?_
    split
    · rename_i cc _ _ _ _ _
      cases (cc == Value.type "enumerate") <;> (wp_walk using step; exact ⟨_, rfl, z2⟩)
    · wp_walk using step
      exact ⟨_, rfl, z2⟩
section
variable {prog : Program} {w : World} {A : Around} {E : Value → Shared → Prop} {s : Shared}
theorem call_enum {v : Value} {ob : Obj} {Z : Heap → Prop} {Q : Value → Shared → Prop} (B : Begins v ob Z) (hz : Z s.heap)
    (k : ∀ g, IsEnum g (s.heap.objs.size + 1) s.heap.objs.size 0 .none → g.get? s.heap.objs.size = some ob → (∀ b o, s.heap.get? b = some o → g.get? b = some o) → Q (.ref (s.heap.objs.size + 1)) { s with heap := g }) :
    wpAny (model prog w) A (call (.type "enumerate") [v]) Q E s := by
  refine callType_new F.called_enumerate (by decide) (F.typeCall_enumerate_1 _) (F.newCall_enumerate_1 _) (fun u => F.args_object_init_2 u _) F.entry_enumerate_new (new_enum B) ⟨hz, ?_⟩
  have e1 : (s.heap.push ob).objs.size = s.heap.objs.size + 1 := Heap.size_push ..
  show _ ∧ _
  rw [e1]
  have e2 : IsEnum ((s.heap.push ob).push { cls := .type "enumerate", data := .fields #[.none, .bool false, .ref s.heap.objs.size, rawInt 0, .none, .none] }) (s.heap.objs.size + 1) s.heap.objs.size 0 .none := by
    have q := Heap.get?_push_size (s.heap.push ob) (o := { cls := .type "enumerate", data := .fields #[.none, .bool false, .ref s.heap.objs.size, rawInt 0, .none, .none] }) rfl
    rwa [e1] at q
  exact ⟨⟨_, e2, rfl⟩, k _ e2 (Heap.get?_push_of_some _ (Heap.get?_push_size _ B.free)) fun b o e => Heap.get?_push_of_some _ (Heap.get?_push_of_some _ e)⟩
end
/-- what enumerate draws of the tuple at a -/
def IteT (K : PySem.W.Frag) (a : Addr) : It where
  go i H := ∃ (xs : List V) (x : V), SqT K H a xs ∧ xs[i]? = some x
  yld i H v H' := ∃ (T : Addr) (x : V), v = .ref T ∧ H T = none ∧ H' = L2.upd H T (.tup [.int (i : Nat), x]) ∧ ∀ xs, SqT K H a xs → xs[i]? = some x
  stop i H := ∃ xs : List V, SqT K H a xs ∧ xs.length ≤ i
theorem turn_enumT {P : Program} {w : World} {K : PySem.W.Frag} {elts : List Expr} {kk : Nat} {tpos : Pos} (a e it : Addr) :
    Turn P w K (.Tuple elts kk tpos) (IteT K a) [e, it] e (fun i h => (∃ old, IsEnum h e it ((i : Nat) : Int) old) ∧ h.IsTupleIter it a i ∧ e ≠ it ∧ it ≠ a ∧ e ≠ a) where
  mem := by simp
  obj := fun i h st b hb => by
    obtain ⟨⟨old, he⟩, ⟨o, ho, _, hd⟩, _⟩ := st
    rcases (by simpa using hb : b = e ∨ b = it) with rfl | rfl
    · exact ⟨_, he, fun v q => nomatch q⟩
    · exact ⟨o, ho, fun v q => by rw [hd] at q; cases q⟩
  keep := fun i h h' st k => by
    obtain ⟨⟨old, he⟩, ⟨o, ho, r⟩, z⟩ := st
    exact ⟨⟨old, k e (by simp) _ he⟩, ⟨o, k it (by simp) _ ho, r⟩, z⟩
  item := by
    intro X hP hw hK hc i pins s σ H E I hf st hg
    subst hP hw hK
    obtain ⟨⟨old, he⟩, hit, n1, n2, n3⟩ := st
    obtain ⟨xs, x, hq, hx⟩ := hg
    obtain ⟨its, rv, ⟨ot, eo, co, no, d0⟩, hz⟩ := I.tuple hq
    obtain ⟨u, hu, ru⟩ := rv.get hx
    have hi : i < its.toArray.size := by
      have := (List.getElem?_eq_some_iff.mp hu).1
      simpa using this
    have D := Draws.tuple (prog := X.prog) (w := X.w) (A := X.A.in1) (I.ok.hd hc) it a (Ne.symm n2) its.toArray
    refine wpAny_pyNext_enum_itemD D he ⟨hit, ot, eo, co, no, d0⟩ hi n1 (by simp [n1, n3]) fun y g tk hy hg1 hg2 hg3 hg4 hg5 => ?_
    have ey : y = u := by
      have e1 : its[i]? = some y := by simpa using hy
      rw [hu] at e1
      exact (Option.some.inj e1).symm
    subst ey
    have lt1 : e < s.heap.objs.size := Heap.lt_size he
    have lt2 : it < s.heap.objs.size := by obtain ⟨_, q, _⟩ := hit; exact Heap.lt_size q
    refine ⟨_, rfl, wpAny_letOwnedTupleGo_enum (s := { s with heap := g, toks := tk + 1 }) hg1 fun g2 he2 sb => ?_⟩
    have tup : g2.get? s.heap.objs.size = some { cls := .type "tuple", data := .seq #[.int i tk, y] } := (sb.2 _ (Nat.ne_of_gt lt1)).trans hg3
    have new : ObjOk X.prog X.w (L2.upd H s.heap.objs.size (.tup [.int (i : Nat), x])) g2 s.heap.objs.size (.tup [.int (i : Nat), x]) :=
      ⟨by show 2 ≤ sizeLine; decide, [.int i tk, y], .cons ⟨_, rfl⟩ (.cons ru .nil), ⟨_, tup, rfl, _, rfl⟩⟩
    have I1 : Inv X pins σ (L2.upd H s.heap.objs.size (.tup [.int (i : Nat), x])) { s with heap := g2, toks := tk + 1 } :=
      I.turnedNew (ch := [e, it]) (fun b o hb q => (sb.2 b fun z => hb (by simp [z])).trans (hg5 b o (fun z => hb (by simp [z])) (fun z => hb (by simp [z])) q)) hf (Nat.le_refl _) new
    refine ⟨.ref s.heap.objs.size, _, I1, rfl, ⟨_, x, rfl, I.hok.fresh (Nat.le_refl _), rfl, fun ys hy => by rw [I.tuple_inj hy hq]; exact hx⟩, ⟨⟨y, ?_⟩, hg2.1.extBut sb.extBut (Ne.symm n1), n1, n2, n3⟩, fun b hb => ?_⟩
    · have : ((i + 1 : Nat) : Int) = (i : Int) + 1 := by omega
      rw [this]; exact he2
    · have lb : b < s.heap.objs.size := by
        rcases (by simpa using hb : b = e ∨ b = it) with rfl | rfl
        · exact lt1
        · exact lt2
      rw [L2.upd_ne (Nat.ne_of_lt lb)]
      exact (hf b hb).1
  done := by
    intro X hP hw hK hc i pins s σ H E I hf st hg
    subst hP hw hK
    obtain ⟨⟨old, he⟩, hit, n1, n2, n3⟩ := st
    obtain ⟨xs, hq, hx⟩ := hg
    obtain ⟨its, rv, ⟨ot, eo, co, no, d0⟩, hz⟩ := I.tuple hq
    obtain ⟨f0, f1, f2, f3, f4, f5⟩ := hf it (by simp)
    have hn : its.toArray[i]? = none := by
      have := rv.length
      rw [List.getElem?_toArray]
      exact List.getElem?_eq_none (by omega)
    have D : Draws X.prog X.w X.A.in1 it [it, a] i (fun _ _ => False) (fun j h => j = i ∧ h.IsTupleIter it a i ∧ h.IsTuple a its.toArray) := {
      live := fun j h z => let ⟨o, e, _⟩ := z.2.1; ⟨o, e⟩
      frame := fun j h h' z k => ⟨z.1, let ⟨o, e, r⟩ := z.2.1; ⟨o, k it (by simp) _ e, r⟩, let ⟨o, e, r⟩ := z.2.2; ⟨o, k a (by simp) _ e, r⟩⟩
      item := fun j s1 Q1 E1 hj z _ => absurd z.1 (Nat.ne_of_lt hj)
      done := fun s1 Q1 E1 z k => wpAny_nextOf_tuple_end (I.ok.hd hc) z.2.1 z.2.2 hn k }
    exact wpAny_pyNext_enum_endD D he ⟨rfl, hit, ot, eo, co, no, d0⟩ fun g eb => ⟨rfl, I.turned (t' := s.toks) (fun b o hb q => eb b o hb q) f0 f1 f3 f4 f5⟩
  self := fun A i s Q E st h => let ⟨⟨_, he⟩, _⟩ := st; wpAny_pyIter_enum he h
def iEnumT (K : PySem.W.Frag) (ta : TA) : TI := fun σ H R => ta σ H fun vs H1 => ∃ (a : Addr) (xs : List V), vs = [.ref a] ∧ SqT K H1 a xs ∧ R (IteT K a) H1
theorem pi_enumT {X : Cx} {e : Expr} {ta : TA} {p pos tpos : Pos} {elts : List Expr} {kk : Nat} (hg : Gl X "enumerate") (hm : X.mg "enumerate" = none) (ha : PA X [e] ta) (hs : starEach [e] X.env = [(false, eval e X.env)] := by rfl) :
    PI X (.Tuple elts kk tpos) (.Call (.Name "enumerate" p) [e] [] pos) (iEnumT X.K ta) := by
  refine ⟨fun pins s σ H R I h => ?_⟩
  refine Call_ (ld_blt I hg hm boot_enumerate (callWith_type1 (thn (ha.run pos pins s σ H _ I h) fun us s1 ⟨vs, H1, I1, r1, a, xs, ex, hq, q⟩ => ?_) hs rfl))
  subst ex
  obtain ⟨u, rfl, ru⟩ := vals1 r1
  obtain rfl : u = Value.ref a := ru
  obtain ⟨its, rv, tp, _⟩ := I1.tuple hq
  refine call_enum (begins_tuple a its.toArray) tp fun g g1 g2 g3 => wpAny_pyIter_enum g1 ?_
  have I2 : Inv X pins σ H1 { s1 with heap := g } := I1.kept (t' := s1.toks) g3
  have la : a < s1.heap.objs.size := by obtain ⟨o, e, _⟩ := tp; exact Heap.lt_size e
  refine ⟨s1.heap.objs.size + 1, [s1.heap.objs.size + 1, s1.heap.objs.size], _, _, H1, rfl, I2, turn_enumT a (s1.heap.objs.size + 1) s1.heap.objs.size, ⟨⟨.none, g1⟩, ⟨_, g2, rfl, rfl⟩, Nat.succ_ne_self _, Nat.ne_of_gt la, Nat.ne_of_gt (Nat.lt_succ_of_lt la)⟩, fun b hb => ?_, q⟩
  have lb : s1.heap.objs.size ≤ b := by
    rcases (by simpa using hb : b = s1.heap.objs.size + 1 ∨ b = s1.heap.objs.size) with rfl | rfl
    · exact Nat.le_succ _
    · exact Nat.le_refl _
  exact I1.fpOk lb (I1.hok.fresh lb)
theorem walk_enumT {K : PySem.W.Frag} {a : Addr} {xs : List V} : Walk (IteT K a) xs.length (fun H => SqT K H a xs) (YPair (fun i => some (.int (i : Nat))) (fun i => xs[i]?)) :=
  ⟨fun i _ hi q => ⟨xs, xs[i], q, List.getElem?_eq_getElem hi⟩, fun _ q => ⟨xs, q, Nat.le_refl _⟩, fun i H v H' _ q ⟨T, x, h1, h2, h3, h4⟩ => ⟨T, .int (i : Nat), x, h1, h2, h3, rfl, h4 xs q⟩⟩
theorem lc_enumT {K : PySem.W.Frag} {a : Addr} {xs : List V} {tt : TT} {te : TE} {i j : Nat} (hij : i ≠ j) {σ : L2.St} {H1 : Hp} {D : Addr} {Q : Hp → Prop} (p : Nat → Bool) (f : Nat → V) (hx : xs.length < sizeLine) (hD : H1 D = none) (hG : ∀ H, Same H1 H → SqT K H a xs)
    (ht : ∀ (k : Nat) (x : V) (H : Hp) (R : Bool → Hp → Prop), xs[k]? = some x → Same H1 H → (∀ H', Same H H' → R (p k) H') → tt (((wipe σ [i, j]).set i (some (.int (k : Nat)))).set j (some x)) H R)
    (he : ∀ (k : Nat) (x : V) (H : Hp) (R : V → Hp → Prop), xs[k]? = some x → p k = true → Same H1 H → (∀ H', Same H H' → R (f k) H') → te (((wipe σ [i, j]).set i (some (.int (k : Nat)))).set j (some x)) H R)
    (hd : ∀ H, Same H1 H → H D = some (.lst (((List.range xs.length).filter p).map f)) → Q H) :
    ∃ W : Nat → Nat → Hp → Prop, (∃ m, W 0 m (L2.upd H1 D (.lst []))) ∧ ∀ k m H, W k m H →
      ((IteT K a).stop k H ∧ Q H) ∨ ((IteT K a).go k H ∧ ∃ Nx : Hp → Prop, (∀ H', Nx H' → ∃ m', m' < m ∧ W (k + 1) m' H') ∧ ∀ x H', (IteT K a).yld k H x H' → gTup K 2 (gCons (gName i) (gCons (gName j) gNil)) x (wipe σ [i, j]) H' fun σ2 H2 => wipe σ2 [i, j] = wipe σ [i, j] ∧ tt σ2 H2 fun b H3 =>
        if b = true then te σ2 H3 fun y H4 => ∃ acc, H4 D = some (.lst acc) ∧ acc.length < sizeLine ∧ Nx (L2.upd H4 D (.lst (acc ++ [y]))) else Nx H3) := by
  refine lc_it (walk_enumT (K := K) (a := a) (xs := xs)) (fun k H => Same H1 H ∧ H D = some (.lst (((List.range k).filter p).map f))) ⟨Same.upd hD, by rw [upd_same]; simp⟩ (fun _ H _ h => hG H h.1) ?_ ?_
  · rintro k x H H' hk ⟨s1, eD⟩ ⟨T, ki, y, rfl, hT, rfl, h1, h2⟩
    cases Option.some.inj h1
    have sT : Same H (L2.upd H T (.tup [.int (k : Nat), y])) := Same.upd hT
    refine ⟨T, [.int (k : Nat), y], rfl, SqT.of upd_same, rfl, _, _, rfl, _, _, rfl, rfl, wipe2 hij _ _, ?_⟩
    have ll : (((List.range k).filter p).map f).length < sizeLine := by
      rw [List.length_map]
      have := List.length_filter_le p (List.range k)
      rw [List.length_range] at this
      omega
    have s0 := s1.trans sT
    have eD0 := sT _ _ eD
    generalize L2.upd H T (.tup [.int (k : Nat), y]) = H0 at s0 eD0
    refine ht k y _ _ h2 s0 (fun H3 s3 => ?_)
    have eD3 := s3 _ _ eD0
    have s13 := s0.trans s3
    refine ite2 (fun hp => ?_) (fun hp => ?_)
    · refine he k y _ _ h2 hp s13 (fun H4 s4 => ⟨_, s4 _ _ eD3, ll, ?_, ?_⟩)
      · intro b o e
        have hb : b ≠ D := ne_of_none e hD
        rw [upd_ne hb]
        exact s4 _ _ (s13 _ _ e)
      · rw [upd_same, List.range_succ, List.filter_append, List.map_append]
        congr 2
        congr 1
        have : [k].filter p = [k] := by simp [hp]
        rw [this]
        rfl
    · refine ⟨s13, ?_⟩
      rw [List.range_succ, List.filter_append, List.map_append]
      have : [k].filter p = [] := by simp [hp]
      rw [this]
      simpa using eD3
  · rintro H ⟨s1, eD⟩
    exact hd H s1 eD
end NG

set_option maxRecDepth 100000
set_option maxHeartbeats 400000
/-! a comprehension over pairs whose items are new things, each told by Px -/
namespace NG
open PySem L2
theorem lc_pairR {K : PySem.W.Frag} {J : It} {xs : List V} {G : Hp → Prop} (w : Walk J xs.length G (YAt xs)) {tt : TT} {te : TE} {i j : Nat} (hij : i ≠ j) {σ : St} {H1 : Hp} {D : Addr} {Q : Hp → Prop} (ps : List (V × V)) (hl : ps.length = xs.length) (p : V × V → Bool) (Px : V × V → V → Hp → Prop)
    (hT : ∀ (k : Nat) (x : V) (q : V × V), xs[k]? = some x → ps[k]? = some q → ∃ t, x = V.ref t ∧ SqT K H1 t [q.1, q.2]) (hx : xs.length < sizeLine) (hD : H1 D = none) (hG : ∀ H, Same H1 H → G H)
    (hm : ∀ q y H H', Same H H' → Px q y H → Px q y H') (hm2 : ∀ q y H acc acc', H D = some (.lst acc) → Px q y H → Px q y (L2.upd H D (.lst acc')))
    (ht : ∀ (k : Nat) (q : V × V) (H : Hp) (R : Bool → Hp → Prop), ps[k]? = some q → Same H1 H → (∀ H', Same H H' → R (p q) H') → tt (((wipe σ [i, j]).set i (some q.1)).set j (some q.2)) H R)
    (he : ∀ (k : Nat) (q : V × V) (H : Hp) (R : V → Hp → Prop), ps[k]? = some q → p q = true → Same H1 H → (∀ y H', Same H H' → Px q y H' → R y H') → te (((wipe σ [i, j]).set i (some q.1)).set j (some q.2)) H R)
    (hd : ∀ H ys, Same H1 H → H D = some (.lst ys) → ys.length = (ps.filter p).length → (∀ (k : Nat) (y : V) (q : V × V), ys[k]? = some y → (ps.filter p)[k]? = some q → Px q y H) → Q H) :
    ∃ W : Nat → Nat → Hp → Prop, (∃ m, W 0 m (L2.upd H1 D (.lst []))) ∧ ∀ k m H, W k m H →
      (J.stop k H ∧ Q H) ∨ (J.go k H ∧ ∃ Nx : Hp → Prop, (∀ H', Nx H' → ∃ m', m' < m ∧ W (k + 1) m' H') ∧ ∀ x H', J.yld k H x H' → gTup K 2 (gCons (gName i) (gCons (gName j) gNil)) x (wipe σ [i, j]) H' fun σ2 H2 => wipe σ2 [i, j] = wipe σ [i, j] ∧ tt σ2 H2 fun b H3 =>
        if b = true then te σ2 H3 fun y H4 => ∃ acc, H4 D = some (.lst acc) ∧ acc.length < sizeLine ∧ Nx (L2.upd H4 D (.lst (acc ++ [y]))) else Nx H3) := by
  refine lc_it w (fun k H => Same H1 H ∧ ∃ ys, H D = some (.lst ys) ∧ ys.length = ((ps.take k).filter p).length ∧ ∀ (m : Nat) (y : V) (q : V × V), ys[m]? = some y → ((ps.take k).filter p)[m]? = some q → Px q y H) ⟨Same.upd hD, [], upd_same, by simp, fun m y q h => by cases h⟩ (fun _ H _ h => hG H h.1) ?_ ?_
  · rintro k x H H' hk ⟨s1, ys, eD, yl, hy⟩ ⟨rfl, hxk⟩
    have hkp : k < ps.length := by omega
    have hq : ps[k]? = some ps[k] := List.getElem?_eq_getElem hkp
    generalize ps[k] = q0 at hq
    obtain ⟨t, rfl, hT'⟩ := hT k x q0 hxk hq
    refine ⟨t, [q0.1, q0.2], rfl, Same.sqT s1 hT', rfl, _, _, rfl, _, _, rfl, rfl, wipe2 hij _ _, ?_⟩
    have et := take_succ hq
    have ll : ys.length < sizeLine := by
      rw [yl]
      have := List.length_filter_le p (ps.take k)
      have := List.length_take_le k ps
      omega
    refine ht k q0 _ _ hq s1 (fun H3 s3 => ?_)
    have eD3 := s3 _ _ eD
    have s13 := s1.trans s3
    have hy3 : ∀ (m : Nat) (y : V) (q : V × V), ys[m]? = some y → ((ps.take k).filter p)[m]? = some q → Px q y H3 := fun m y q a b => hm q y _ _ s3 (hy m y q a b)
    refine ite2 (fun hp => ?_) (fun hp => ?_)
    · refine he k q0 _ _ hq hp s13 (fun y H4 s4 hP => ⟨ys, s4 _ _ eD3, ll, ?_, ys ++ [y], upd_same, ?_, fun m z q a b => ?_⟩)
      · intro b o e
        rw [upd_ne (ne_of_none e hD)]
        exact s4 _ _ (s13 _ _ e)
      · rw [et, List.filter_append, List.length_append, List.length_append, yl]
        have : [q0].filter p = [q0] := by simp [hp]
        rw [this]
        rfl
      · refine hm2 q z _ _ _ (s4 _ _ eD3) ?_
        rw [et, List.filter_append, show [q0].filter p = [q0] by simp [hp]] at b
        by_cases hlt : m < ys.length
        · rw [List.getElem?_append_left hlt] at a
          rw [List.getElem?_append_left (by rw [← yl]; exact hlt)] at b
          exact hm q z _ _ s4 (hy3 m z q a b)
        · have hl2 := (List.getElem?_eq_some_iff.mp a).1
          rw [List.length_append, List.length_singleton] at hl2
          have em : m = ys.length := by omega
          subst em
          rw [List.getElem?_append_right (Nat.le_refl _), Nat.sub_self] at a
          rw [yl, List.getElem?_append_right (Nat.le_refl _), Nat.sub_self] at b
          cases Option.some.inj a
          cases Option.some.inj b
          exact hP
    · refine ⟨s13, ys, eD3, ?_, fun m y q a b => ?_⟩
      · rw [et, List.filter_append, show [q0].filter p = [] by simp [hp], List.append_nil]
        exact yl
      · rw [et, List.filter_append, show [q0].filter p = [] by simp [hp], List.append_nil] at b
        exact hy3 m y q a b
  · rintro H ⟨s1, ys, eD, yl, hy⟩
    rw [← hl, List.take_length] at yl hy
    exact hd H ys s1 eD yl hy
end NG

set_option maxRecDepth 100000
set_option maxHeartbeats 400000
/-! a local name that holds a def which may raise is called in a try body; == of data where the written part is named -/
namespace NG
open PySem PySem.Spec PyProof.Rows L2
def tCallLS (i : Nat) (f : Addr) (sp : Sp) (E : L2.St → XK) (t : TA) : TE := fun σ H Q => σ[i]? = some (some (.ref f)) ∧ t σ H fun vs H1 => sp vs H1 Q (E σ)
section
variable {X : Cx} {CX : CXT} {k i : Nat} {f : Addr} {fd : FuncData} {ps : List Str} {sp : Sp} {E : L2.St → XK} {x : Str} {p pos : Pos} {e : Expr} {es : List Expr} {t : TA}
theorem pe_callLS (F : FnOk X.prog X.w X.K X.mg X.base CX k f fd ps sp) (hr : Room k X.A) (hN : X.N[i]? = some x) (hv : Vis X.env.scope x) (hk : PySem.W.keepIn X.K (.ref f) = true) (hb : Binds X.K fd ps []) (hx : ∀ σ, PassesAt CX X σ (E σ)) (ha : PA X (e :: es) t)
    (hdb : (x == ("__debug__" : Str)) = false := by decide) (hcd : (x == ("__classdict__" : Str)) = false := by decide)
    (he : starEach (e :: es) X.env = (false, eval e X.env) :: starEach es X.env := by rfl) (hpl : (backTo pos (starEach es X.env)).any (·.1) = false := by rfl) : PE X (.Call (.Name x p) (e :: es) [] pos) (tCallLS i f sp E t) := by
  refine ⟨fun pins s σ H Q I h => ?_⟩
  obtain ⟨h1, h2⟩ := h
  have here := (pe_var (pos := p) hN hv hdb hcd).run pins s σ H (fun v Hv => v = .ref f ∧ Hv = H) I ⟨.ref f, h1, rfl, rfl⟩
  refine wpAny_Call_Name_kw (thn here fun u s1 ⟨v, Hv, I1, r1, ev, eH⟩ => ?_)
  subst ev eH
  cases r1
  refine PySem.W.callWith_K (h₀ := X.base) I.ok.mod.kin hk (thn (ha.run pos pins s1 σ _ _ I1 h2) fun us s2 ⟨vs, H2, I2, r, q⟩ => ⟨I2.kIn, ?_⟩) he hpl
  exact run_fnS F hr hb (hx σ) I2 r q
theorem op_eqDK {K : PySem.W.Frag} (hK : X.K = K) (hu : X.A.units + 64 < cLine) : OpR X (compareOp .Eq) (rEqD K) := by subst hK; exact op_eqD hu
theorem call_isiK {K : PySem.W.Frag} (hK : X.K = K) : CallR X (.builtin "isinstance") (rIsi K) := by subst hK; exact call_isi
end
end NG

set_option maxRecDepth 100000
set_option maxHeartbeats 4000000
/-! tuples made by tuple(..) of which it is known that they have no dict of their own; dict(such a tuple of pairs) -/
namespace NG
open PySem PySem.Spec PyProof.Rows L2
/-- a tuple without a dict of its own -/
def PlT (H : Hp) (a : Addr) (xs : List V) : Prop := ∃ o : Obj, H a = some (.frz o (.tup xs)) ∧ o.dict = none ∧ o.cls = .type "tuple"
theorem PlT.sqT {K : PySem.W.Frag} {H : Hp} {a : Addr} {xs : List V} (h : PlT H a xs) : SqT K H a xs := let ⟨o, e, _⟩ := h; .inl (.inr ⟨o, e⟩)
theorem PlT.keep {H H' : Hp} {a : Addr} {xs : List V} (h : PlT H a xs) (k : ∀ o, H a = some (.frz o (.tup xs)) → H' a = some (.frz o (.tup xs))) : PlT H' a xs := let ⟨o, e, r⟩ := h; ⟨o, k o e, r⟩
theorem PlT.same {H H' : Hp} {a : Addr} {xs : List V} (h : PlT H a xs) (s : Same H H') : PlT H' a xs := h.keep fun _ e => s _ _ e
def rTupP (K : PySem.W.Frag) : List V → Hp → VK → Prop := fun vs H Q => ∃ (p : Addr) (ys : List V), vs = [.ref p] ∧ SqL K H p ys ∧ ∀ (l : Addr) (o : Obj), H l = none → o.dict = none → o.cls = .type "tuple" → Q (.ref l) (upd H l (.frz o (.tup ys)))
section
variable {X : Cx}
theorem call_tuple_ofP : CallR X (.type "tuple") (rTupP X.K) := by
  intro pins s σ H xs us Q I r h
  obtain ⟨p, ys, rfl, hq, q⟩ := h
  obtain ⟨u, rfl, rx⟩ := vals1 r
  cases rx
  obtain ⟨its, r', pl, hz⟩ := I.list hq
  have hlen := r'.length
  refine call_tuple_list pl.isList (fun h' kp => ?_) (by simp only [List.size_toArray]; omega)
  have I1 : Inv X pins σ H { s with heap := h' } := I.kept (t' := s.toks) kp
  have I2 := I1.laid (t' := s.toks) (a := h'.objs.size) (o := .frz { cls := .type "tuple", data := .seq its.toArray } (.tup ys)) (h' := h'.push { cls := .type "tuple", data := .seq its.toArray }) (fun b o e => Heap.get?_push_of_some _ e) (Nat.le_refl _) ⟨Heap.get?_push_size _ rfl, hz, its, r', IsTup.new _ _⟩
  exact ⟨.ref h'.objs.size, _, I2, rfl, q _ _ (I1.hok.fresh (Nat.le_refl _)) rfl rfl⟩
def rDictT (K : PySem.W.Frag) : List V → Hp → VK → Prop := fun vs H Q => ∃ (a : Addr) (ps : List Addr) (kvs : List (Key × V)), vs = [.ref a] ∧ PlT H a (ps.map V.ref) ∧ Paired (fun p kv => SqT K H p [kV kv.1, kv.2]) ps kvs ∧
  ∀ p, H p = none → Q (.ref p) (upd H p (.dK (mergeK [] kvs)))
/-- dict(xs), xs a tuple of pairs (key, value) -/
theorem call_dictT (hcalm : X.calm = true) : CallR X (.type "dict") (rDictT X.K) := by
  intro pins s σ H xs us Q I r h
  obtain ⟨a, ps, kvs, rfl, ⟨o, ea, hd, hc⟩, hp, q⟩ := h
  obtain ⟨u, rfl, rx⟩ := vals1 r
  cases rx
  obtain ⟨ho, hz, its, rv, oT, hoT, hcT, n, hdT⟩ := I.hok a _ ea
  rw [ho] at hoT
  cases hoT
  have ei := refs_at rv
  subst ei
  rw [List.length_map] at hz
  obtain ⟨prs, rel, hl, hpr⟩ := pairs_of I hp
  have ex : ∀ j : Nat, ∃ q : Value × Value, ∀ p, prs[j]? = some p → q.2 = p.2 ∧ ∃ b, ps[j]? = some b ∧ IsTup s.heap b #[q.1, q.2] ∧ keyIs p.1 q.1 = true := fun j => by
    cases e : prs[j]? with
    | none => exact ⟨(.none, .none), fun p z => by cases z⟩
    | some p =>
      obtain ⟨b, u, e1, e2, e3⟩ := hpr j p e
      exact ⟨(u, p.2), fun p' z => by cases Option.some.inj z; exact ⟨rfl, b, e1, e2, e3⟩⟩
  obtain ⟨f, hf⟩ := Classical.skolem.mp ex
  have lk : ∀ (j : Nat) (k v : Value), ((List.range prs.length).map f)[j]? = some (k, v) → j < prs.length ∧ f j = (k, v) := fun j k v e => by
    rw [List.getElem?_map] at e
    cases e2 : (List.range prs.length)[j]? with
    | none => rw [e2] at e; cases e
    | some i =>
      rw [e2] at e
      have e3 := List.getElem?_eq_some_iff.mp e2
      obtain ⟨h1, h2⟩ := e3
      rw [List.getElem_range] at h2
      subst h2
      rw [List.length_range] at h1
      exact ⟨h1, Option.some.inj e⟩
  have ll : ((List.range prs.length).map f).length = prs.length := by rw [List.length_map, List.length_range]
  refine PySem.call_dict_pairs (knd := mixKind X.prog X.w) (kvs := prs) (PySem.PairArg.tuple a ((ps.map Value.ref).toArray) (fun j => (ps[j]?).getD 0) ((List.range prs.length).map f)) (I.ok.hd hcalm) ⟨⟨_, n, ho, hc, hd, hdT⟩, ?_, fun j k v e => ?_⟩ ⟨ll.symm, fun i key v e => ?_⟩ (by rw [ll, hl]; exact hz) fun h' tk hd' k => ?_
  · rw [ll, hl, List.size_toArray, List.length_map]
  · obtain ⟨h1, h2⟩ := lk j k v e
    obtain ⟨h3, b, h4, h5, _⟩ := hf j _ (List.getElem?_eq_getElem h1)
    rw [h2] at h5
    refine ⟨?_, .inl ?_⟩
    · show _ = some (Value.ref ((ps[j]?).getD 0))
      rw [List.getElem?_toArray, List.getElem?_map, h4]; rfl
    · show IsTup s.heap ((ps[j]?).getD 0) _
      rw [h4]; exact h5
  · obtain ⟨h1, h2⟩ := lk i key v e
    obtain ⟨h3, b, h4, h5, h6⟩ := hf i _ (List.getElem?_eq_getElem h1)
    rw [h2] at h3 h6
    exact ⟨prs[i].1, by rw [List.getElem?_eq_getElem h1]; exact congrArg some (Prod.ext rfl h3.symm), h6⟩
  · have hm : (s.heap.objs.size == sysModules) = false := beq_eq_false_iff_ne.mpr (Nat.ne_of_gt I.big)
    have hlen : (mergeK [] kvs).length ≤ sizeLine := by
      refine Nat.le_trans (length_mergeK kvs []) ?_
      rw [List.length_nil, Nat.zero_add, rel.length, hl]
      exact hz
    exact ⟨.ref s.heap.objs.size, _, I.laid (t' := tk) (o := .dK (mergeK [] kvs)) (fun b o e => k b o (fun h => nomatch h) e) (Nat.le_refl _) ⟨hlen, hm, merged [] prs, KV.merge rel .nil, hd'⟩, rfl, q _ (I.hok.fresh (Nat.le_refl _))⟩
end
end NG

set_option maxRecDepth 100000
set_option maxHeartbeats 4000000
/-! dict comprehensions by any walk; over an enumerated tuple -/
namespace NG
open PySem L2
theorem dc_walk {J : It} {n : Nat} {G : Hp → Prop} {Y : Nat → Hp → V → Hp → Prop} (w : Walk J n G Y) {g : TG} {tt : TT} {tk tv : TE} {ws : List Nat} {σ : L2.St} {H1 : Hp} {D : Addr} {Z : Hp → Prop} (Pv : Nat → Hp → Prop) (h0 : Pv 0 (L2.upd H1 D (.dK []))) (hG : ∀ i H, i ≤ n → Pv i H → G H)
    (hs : ∀ i x H H', i < n → Pv i H → Y i H x H' → g x (wipe σ ws) H' fun τ H2 => wipe τ ws = wipe σ ws ∧ tt τ H2 fun b H3 =>
      if b = true then tk τ H3 fun y H4 => tv τ H4 fun z H5 => ∃ kvs k, y = kV k ∧ H5 D = some (.dK kvs) ∧ kvs.length < sizeLine ∧ Pv (i + 1) (L2.upd H5 D (.dK (putK kvs k z))) else Pv (i + 1) H3) (hd : ∀ H, Pv n H → Z H) :
    ∃ W : Nat → Nat → Hp → Prop, (∃ m, W 0 m (L2.upd H1 D (.dK []))) ∧ ∀ i m H, W i m H →
      (J.stop i H ∧ Z H) ∨ (J.go i H ∧ ∃ Nx : Hp → Prop, (∀ H', Nx H' → ∃ m', m' < m ∧ W (i + 1) m' H') ∧ ∀ x H', J.yld i H x H' → g x (wipe σ ws) H' fun τ H2 => wipe τ ws = wipe σ ws ∧ tt τ H2 fun b H3 =>
        if b = true then tk τ H3 fun y H4 => tv τ H4 fun z H5 => ∃ kvs k, y = kV k ∧ H5 D = some (.dK kvs) ∧ kvs.length < sizeLine ∧ Nx (L2.upd H5 D (.dK (putK kvs k z))) else Nx H3) := by
  refine ⟨fun i m H => m = n - i ∧ i ≤ n ∧ Pv i H, ⟨n, (Nat.sub_zero n).symm, Nat.zero_le n, h0⟩, fun i m H hW => ?_⟩
  obtain ⟨em, hi, hp⟩ := hW
  have hg := hG i H hi hp
  rcases Nat.lt_or_ge i n with hlt | hge
  · exact .inr ⟨w.goes i H hlt hg, Pv (i + 1), fun H' q => ⟨n - (i + 1), by omega, rfl, hlt, q⟩, fun x H' hy => hs i x H H' hlt hp (w.yields i H x H' hlt hg hy)⟩
  · cases (Nat.le_antisymm hi hge)
    exact .inl ⟨w.stops H hg, hd H hp⟩
theorem dc_enumT {K : PySem.W.Frag} {a : Addr} {xs : List V} {tt : TT} {tk tv : TE} {i j : Nat} (hij : i ≠ j) {σ : L2.St} {H1 : Hp} {D : Addr} {Z : Hp → Prop} (p : Nat → Bool) (hx : xs.length < sizeLine) (hD : H1 D = none) (hG : ∀ H, Same H1 H → SqT K H a xs)
    (ht : ∀ (k : Nat) (x : V) (H : Hp) (R : Bool → Hp → Prop), xs[k]? = some x → Same H1 H → (∀ H', Same H H' → R (p k) H') → tt (((wipe σ [i, j]).set i (some (.int (k : Nat)))).set j (some x)) H R)
    (hk : ∀ (k : Nat) (x : V) (H : Hp) (R : V → Hp → Prop), xs[k]? = some x → R (.int (k : Nat)) H → tk (((wipe σ [i, j]).set i (some (.int (k : Nat)))).set j (some x)) H R)
    (hv : ∀ (k : Nat) (x : V) (H : Hp) (R : V → Hp → Prop), xs[k]? = some x → p k = true → Same H1 H → (∀ y H', Same H H' → R y H') → tv (((wipe σ [i, j]).set i (some (.int (k : Nat)))).set j (some x)) H R)
    (hd : ∀ H kvs, Same H1 H → H D = some (.dK kvs) → Z H) :
    ∃ W : Nat → Nat → Hp → Prop, (∃ m, W 0 m (L2.upd H1 D (.dK []))) ∧ ∀ k m H, W k m H →
      ((IteT K a).stop k H ∧ Z H) ∨ ((IteT K a).go k H ∧ ∃ Nx : Hp → Prop, (∀ H', Nx H' → ∃ m', m' < m ∧ W (k + 1) m' H') ∧ ∀ x H', (IteT K a).yld k H x H' → gTup K 2 (gCons (gName i) (gCons (gName j) gNil)) x (wipe σ [i, j]) H' fun τ H2 => wipe τ [i, j] = wipe σ [i, j] ∧ tt τ H2 fun b H3 =>
        if b = true then tk τ H3 fun y H4 => tv τ H4 fun z H5 => ∃ kvs q, y = kV q ∧ H5 D = some (.dK kvs) ∧ kvs.length < sizeLine ∧ Nx (L2.upd H5 D (.dK (putK kvs q z))) else Nx H3) := by
  refine dc_walk (walk_enumT (K := K) (a := a) (xs := xs)) (fun k H => Same H1 H ∧ ∃ kvs, H D = some (.dK kvs) ∧ kvs.length ≤ k) ⟨Same.upd hD, [], upd_same, Nat.le_refl _⟩ (fun _ H _ h => hG H h.1) ?_ ?_
  · rintro k x H H' hlt ⟨s1, kvs, eD, el⟩ ⟨T, ki, y, rfl, hT, rfl, h1, h2⟩
    cases Option.some.inj h1
    have sT : Same H (L2.upd H T (.tup [.int (k : Nat), y])) := Same.upd hT
    refine ⟨T, [.int (k : Nat), y], rfl, SqT.of upd_same, rfl, _, _, rfl, _, _, rfl, rfl, wipe2 hij _ _, ?_⟩
    have s0 := s1.trans sT
    have eD0 := sT _ _ eD
    generalize L2.upd H T (.tup [.int (k : Nat), y]) = H0 at s0 eD0
    refine ht k y _ _ h2 s0 (fun H3 s3 => ?_)
    have eD3 := s3 _ _ eD0
    have s13 := s0.trans s3
    refine ite2 (fun hp => ?_) (fun hp => ⟨s13, kvs, eD3, Nat.le_succ_of_le el⟩)
    refine hk k y _ _ h2 (hv k y _ _ h2 hp s13 (fun z H5 s5 => ⟨kvs, .inl (k : Int), rfl, s5 _ _ eD3, by omega, fun b o e => ?_, _, upd_same, Nat.le_trans (length_putK _ _ _) (by omega)⟩))
    rw [upd_ne (ne_of_none e hD)]
    exact s5 _ _ (s13 _ _ e)
  · rintro H ⟨s1, kvs, eD, _⟩
    exact hd H kvs s1 eD
end NG

set_option maxRecDepth 100000
set_option maxHeartbeats 4000000
namespace NW
open PySem L2 NG
def top (i : Nat) : Stmt := PySem.Challenge.pw_namewalk_k91_whole_walks_in_parts.main.body.getD i (.Pass ⟨0, 0, 0, 0⟩)
abbrev sState : Stmt := top 55
abbrev sDigit : Stmt := top 56
/-! ### draws -/
def spState : Sp := fun vs H Q _ => ∃ n : Int, vs = [.int n] ∧ ∀ p o, H p = none → DSo o → Q (.ref p) (upd H p o)
def spDigit : Sp := fun vs H Q _ => ∃ (p : Addr) (b : Int) (o : HO), vs = [.ref p, .int b] ∧ 0 < b ∧ b < 1073741824 ∧ H p = some o ∧ DSo o ∧
  ∀ (d : Int) (o' : HO), 0 ≤ d → d < b → DSo o' → Q (.int d) (upd H p o')
structure TxtA (mg : Str → Option Value) : Prop where
  m_int : mg "int" = none
  m_abs : mg "abs" = none
section
variable {P : Program} {w : World} {K : PySem.W.Frag} {mg : Str → Option Value} {base : Heap}
theorem scState : FnScope ["_law_source"] ["_law_source"] (defScope sState) := ⟨rfl, rfl, rfl, by decide +kernel, rfl, by decide +kernel, by decide +kernel⟩
theorem ok_state {f : Addr} {fd : FuncData} (F : Fun K "_law_state" "_law_state" sState f fd) (T : TxtA mg) : FnOk P w K mg base CX0 1 f fd ["_law_source"] spState := by
  have nd := scState.nd
  refine F.ok scState (fun vs H Q E h => ?_) (fun cdv A outer s H vs Q E hr h => ?_)
  · obtain ⟨n, rfl, _⟩ := h
    rfl
  · obtain ⟨n, rfl, k⟩ := h
    refine ⟨_, (pss_cons (ps_set (i := 0) nd rfl (Or.inl rfl) (pe_callB call_abs (by rfl) T.m_abs (by decide +kernel) (pa_cons (pv 0) pa_nil)))
  (pss_one (ps_ret (pe_lst (pa_cons (pe_op op_mul (pv 0) (pe_callTy call_int1 (by rfl) T.m_int (by decide +kernel) (pa_cons (pe_cmpR op_ge (pv 0) (pe_op op_pow pe_int pe_int) (nomark _)) pa_nil))) (pa_cons (pe_op op_add (pe_op op_mod (pe_callTy call_int1 (by rfl) T.m_int (by decide +kernel) (pa_cons (pv 0) pa_nil)) pe_int) pe_int) (pa_cons (pe_op op_mod (pe_callTy call_int1 (by rfl) T.m_int (by decide +kernel) (pa_cons (pv 0) pa_nil)) pe_int) pa_nil))))))), ?_⟩
    refine ⟨_, rfl, _, rfl, ?_⟩
    generalize hz : (if n < 0 then -n else n) = z
    have hz0 : 0 ≤ z := by rw [← hz]; split <;> omega
    refine ⟨_, rfl, _, rfl, _, _, rfl, rfl, ⟨by decide, by decide, by decide⟩, _, _, rfl, rfl, .inr ⟨_, rfl, ?_⟩⟩
    refine ⟨_, _, rfl, rfl, .inr ⟨by split <;> decide, by split <;> decide⟩, ?_⟩
    refine ⟨_, rfl, .inl ⟨_, rfl, _, _, rfl, rfl, (by show (0 : Int) < 2147483629; decide), _, _, rfl, rfl, ?_⟩⟩
    refine ⟨_, rfl, .inl ⟨_, rfl, _, _, rfl, rfl, (by show (0 : Int) < 2147483587; decide), ?_⟩⟩
    refine ⟨(by show 3 ≤ sizeLine; decide), fun p hp => k p _ hp ⟨_, _, _, rfl, ?_, ?_, ?_, ?_, ?_⟩⟩
    · split
      · omega
      · omega
    · have := Int.emod_nonneg z (by decide : (2147483629 : Int) ≠ 0); omega
    · have := Int.emod_lt_of_pos z (by decide : (0 : Int) < 2147483629); omega
    · exact Int.emod_nonneg z (by decide)
    · exact Int.emod_lt_of_pos z (by decide)
theorem scDigit : FnScope ["_law_state_here", "_law_base", "_law_found", "_law_mixed"] ["_law_state_here", "_law_base"] (defScope sDigit) := ⟨rfl, rfl, rfl, by decide +kernel, rfl, by decide +kernel, by decide +kernel⟩
theorem ok_digit {f : Addr} {fd : FuncData} (F : Fun K "_law_digit" "_law_digit" sDigit f fd) (T : TxtA mg) : FnOk P w K mg base CX0 1 f fd ["_law_state_here", "_law_base"] spDigit := by
  have nd := scDigit.nd
  refine F.ok scDigit (fun vs H Q E h => ?_) (fun cdv A outer s H vs Q E hr h => ?_)
  · obtain ⟨p, b, o, rfl, _⟩ := h
    rfl
  · obtain ⟨p, b, o, rfl, b0, b1, hp, ⟨a, m, c, rfl, ha, hm0, hm1, hc0, hc1⟩, k⟩ := h
    refine ⟨_, (pss_cons (ps_if (pt_cmpR op_gt (pe_ix ix_list (pv 0) pe_int (fun _ _ => rfl)) pe_int (nomark _)) (pss_cons (ps_set (i := 2) nd rfl (Or.inl rfl) (pe_op op_mod (pe_callTy call_int1 (by rfl) T.m_int (by decide +kernel) (pa_cons (pe_ix ix_list (pv 0) pe_int (fun _ _ => rfl)) pa_nil)) (pv 1)))
  (pss_cons (ps_asg (pe_op op_fdiv (pe_ix ix_list (pv 0) pe_int (fun _ _ => rfl)) (pv 1)) (pg_sub (pv 0) pe_int set_list))
  (pss_one (ps_ret (pv 2))))) pss_nil)
  (pss_cons (ps_set (i := 3) nd rfl (Or.inl rfl) (pe_op op_mul (pe_ix ix_list (pv 0) pe_int (fun _ _ => rfl)) (pe_op op_add (pe_op op_fdiv (pe_ix ix_list (pv 0) pe_int (fun _ _ => rfl)) pe_int) pe_int)))
  (pss_cons (ps_asg (pe_op op_add (pe_op op_mod (pe_callTy call_int1 (by rfl) T.m_int (by decide +kernel) (pa_cons (pe_op op_add (pv 3) (pe_ix ix_list (pv 0) pe_int (fun _ _ => rfl))) pa_nil)) pe_int) pe_int) (pg_sub (pv 0) pe_int set_list))
  (pss_one (ps_ret (pe_op op_mod (pe_callTy call_int1 (by rfl) T.m_int (by decide +kernel) (pa_cons (pe_op op_fdiv (pe_ix ix_list (pv 0) pe_int (fun _ _ => rfl)) pe_int) pa_nil)) (pv 1))))))), ?_⟩
    have sq : ∀ i : Int, SqL K H p [.int a, .int m, .int c] := fun _ => SqL.of hp
    refine ⟨_, rfl, p, _, _, _, rfl, rfl, SqL.of hp, rfl, _, _, rfl, rfl, _, rfl, ?_⟩
    refine ite2 (fun h => ?_) (fun h => ?_)
    · refine ⟨_, rfl, p, _, _, _, rfl, rfl, SqL.of hp, rfl, .inl ⟨_, rfl, _, rfl, _, _, rfl, rfl, b0, ?_⟩⟩
      refine ⟨_, rfl, p, _, _, _, rfl, rfl, SqL.of hp, rfl, _, rfl, _, _, rfl, rfl, ⟨b0, b1⟩, ?_⟩
      refine ⟨_, rfl, p, _, _, _, rfl, rfl, hp, rfl, _, rfl, ?_⟩
      exact k _ _ (Int.emod_nonneg _ (by omega)) (Int.emod_lt_of_pos _ b0) ⟨_, _, _, rfl, Int.ediv_nonneg ha (by omega), hm0, hm1, hc0, hc1⟩
    · refine ⟨_, rfl, p, _, _, _, rfl, rfl, SqL.of hp, rfl, _, rfl, p, _, _, _, rfl, rfl, SqL.of hp, rfl, _, _, rfl, rfl, ⟨by decide, by decide⟩, _, _, rfl, rfl, _, _, rfl, rfl, .inl ⟨by omega, by omega⟩, ?_⟩
      refine ⟨_, rfl, _, rfl, p, _, _, _, rfl, rfl, SqL.of hp, rfl, _, _, rfl, rfl, .inl ⟨_, rfl, _, _, rfl, rfl, (by show (0 : Int) < 2147483629; decide), _, _, rfl, rfl, ?_⟩⟩
      refine ⟨_, rfl, p, _, _, _, rfl, rfl, hp, rfl, ?_⟩
      refine ⟨_, rfl, p, _, _, _, rfl, rfl, SqL.of upd_same, rfl, _, _, rfl, rfl, ⟨by decide, by decide⟩, .inl ⟨_, rfl, _, rfl, _, _, rfl, rfl, b0, ?_⟩⟩
      have e0 := Int.emod_nonneg (m * (m / 1009 + 69621) + c) (by decide : (2147483629 : Int) ≠ 0)
      have e1 := Int.emod_lt_of_pos (m * (m / 1009 + 69621) + c) (by decide : (0 : Int) < 2147483629)
      exact k _ _ (Int.emod_nonneg _ (by omega)) (Int.emod_lt_of_pos _ b0) ⟨_, _, _, rfl, ha, by omega, by omega, hc0, hc1⟩
end
end NW

set_option maxRecDepth 100000
set_option maxHeartbeats 4000000
namespace NW
open PySem L2 NG
abbrev sName : Stmt := top 13
abbrev sStep : Stmt := top 16
/-! ### names -/
def letters : Str := "abcdefghijklmnopqrstuvwxyz0123456789_-."
def nameZ (z : Str) : Bool := decide (1 ≤ z.length) && decide (z.length ≤ 12) && (!(z == ("." : Str)) && !(z == (".." : Str))) && z.cps.toList.all (fun c => decide (c ∈ letters.cps.toList))
def stepZ (z : Str) : Bool := nameZ z || decide (z = ("..":Str))
structure TxtN (K : PySem.W.Frag) (mg : Str → Option Value) (fName fStep : Addr) : Prop where
  m_isinstance : mg "isinstance" = none
  m_str : mg "str" = none
  m_len : mg "len" = none
  m_all : mg "all" = none
  g_LONGEST_NAME : ∃ t, mg "LONGEST_NAME" = some (.int 12 t)
  g_NAME_LETTERS : ∃ t, mg "NAME_LETTERS" = some (.str letters t)
  g_is_name : mg "is_name" = some (.ref fName)
  kp_is_name : PySem.W.keepIn K (.ref fName) = true
  g_is_step : mg "is_step" = some (.ref fStep)
  kp_is_step : PySem.W.keepIn K (.ref fStep) = true
def spName : Sp := fun vs H Q _ => ∃ z : Str, vs = [.str z] ∧ z.length ≤ sizeLine ∧ ∀ H', Same H H' → Q (.bl (nameZ z)) H'
/-- a comprehension over a text's signs, its element pure -/
theorem lc_signs {z : Str} {te : TE} {i : Nat} {σ : St} {H1 : Hp} {D : Addr} {Q : Hp → Prop} (f : Nat → V) (hz : z.length ≤ sizeLine) (hD : H1 D = none)
    (he : ∀ (c : Nat) (H : Hp) (R : V → Hp → Prop), R (f c) H → te ((wipe σ [i]).set i (some (.str ⟨#[c]⟩))) H R)
    (hd : Q (upd H1 D (.lst (z.cps.toList.map f)))) :
    ∃ W : Nat → Nat → Hp → Prop, (∃ m, W 0 m (upd H1 D (.lst []))) ∧ ∀ k m H, W k m H →
      ((Its z).stop k H ∧ Q H) ∨ ((Its z).go k H ∧ ∃ Nx : Hp → Prop, (∀ H', Nx H' → ∃ m', m' < m ∧ W (k + 1) m' H') ∧ ∀ x H', (Its z).yld k H x H' → gName i x (wipe σ [i]) H' fun σ2 H2 => wipe σ2 [i] = wipe σ [i] ∧ tYes σ2 H2 fun b H3 =>
        if b = true then te σ2 H3 fun y H4 => ∃ acc, H4 D = some (.lst acc) ∧ acc.length < sizeLine ∧ Nx (upd H4 D (.lst (acc ++ [y]))) else Nx H3) := by
  refine lc_it walk_str (fun k H => H = upd H1 D (.lst ((z.cps.toList.take k).map f))) (by simp) (fun _ _ _ _ => True.intro) ?_ ?_
  · rintro k x H H' hk rfl ⟨rfl, c, hc, rfl⟩
    refine ⟨?_, ?_⟩
    · show List.set (List.set (List.set σ i none) i _) i none = List.set σ i none
      rw [List.set_set, List.set_set]
    · refine he c _ _ ?_
      refine ⟨_, upd_same, ?_, ?_⟩
      · rw [List.length_map, List.length_take]
        have : z.cps.toList.length = z.length := by simp [Str.length]
        have hk' : k < z.length := hk
        omega
      · rw [upd_upd]
        congr 2
        have hc' : z.cps.toList[k]? = some c := by simpa using hc
        rw [List.take_add_one, hc', List.map_append]
        rfl
  · rintro H rfl
    have : z.cps.toList.take z.cps.size = z.cps.toList := List.take_of_length_le (by simp)
    rw [this]
    exact hd
section
variable {P : Program} {w : World} {K : PySem.W.Frag} {mg : Str → Option Value} {base : Heap} {fName fStep : Addr}
theorem scName : FnScope ["value", "letter"] ["value"] (defScope sName) := ⟨rfl, rfl, rfl, by decide +kernel, rfl, by decide +kernel, by decide +kernel⟩
theorem ok_name {fd : FuncData} (F : Fun K "is_name" "is_name" sName fName fd) (T : TxtN K mg fName fStep) : FnOk P w K mg base CX0 1 fName fd ["value"] spName := by
  have nd := scName.nd
  obtain ⟨t1, g1⟩ := T.g_LONGEST_NAME
  obtain ⟨t2, g2⟩ := T.g_NAME_LETTERS
  refine F.ok scName (fun vs H Q E h => ?_) (fun cdv A outer s H vs Q E hr h => ?_)
  · obtain ⟨z, rfl, _⟩ := h
    rfl
  · obtain ⟨z, rfl, hz, k⟩ := h
    refine ⟨_, (pss_cons (ps_if (PW.pt (pw_or (pt_not (pt_val (pe_callB call_isi (by rfl) T.m_isinstance (by decide +kernel) (pa_cons (pv 0) (pa_cons (pe_bltn (v := .ty "str") (by rfl) T.m_str (by decide +kernel) rfl) pa_nil))))) (pw_or1 (pt_not (pt_chain op_le op_le pe_int (pe_callB call_len_str (by rfl) T.m_len (by decide +kernel) (pa_cons (pv 0) pa_nil)) (pe_glob (v := .int 12) (by rfl) g1 ⟨_, rfl⟩)))))) (pss_one (ps_ret pe_bl)) pss_nil)
  (pss_cons (ps_if (pt_cmpR op_in_seq (pv 0) (pe_tup (pa_cons pe_str (pa_cons pe_str pa_nil))) (by rfl)) (pss_one (ps_ret pe_bl)) pss_nil)
  (pss_one (ps_ret (pe_callB (cr_all rfl) (by rfl) T.m_all (by decide +kernel) (pa_cons (pe_lc (own := [("letter", 1)]) rfl nd (pi_str (pv 0)) (blkOk_by (N := ["value", "letter"]) (sc := defScope sName) (by decide +kernel)) (fun _ _ _ _ _ => (pg_name (i := 1) nd rfl (Or.inl rfl))) (fun _ _ _ _ _ => pts_nil) (fun _ _ _ _ _ => (pe_cmpR op_in_sign (pv 1) (pe_glob (v := .str letters) (by rfl) g2 ⟨_, rfl⟩) (by rfl)))) pa_nil)))))), ?_⟩
    refine ⟨_, rfl, _, _, _, _, true, rfl, .ty _, .base (.str z), rfl, _, rfl, ?_⟩
    refine iteF ?_
    refine ⟨_, rfl, _, rfl, hz, _, _, rfl, rfl, _, rfl, ?_⟩
    have cut : ∀ (c : Bool), (c = true → 1 ≤ z.length ∧ z.length ≤ 12) → (c = false → ¬ (1 ≤ z.length ∧ z.length ≤ 12)) → ∀ {A B : Prop}, ((nameZ z = false) → A) → ((1 ≤ z.length ∧ z.length ≤ 12) → B) → if (!c) = true then A else B := fun c h1 h2 A B ha hb => by
      cases c with
      | true => exact iteF (hb (h1 rfl))
      | false =>
        refine iteT (ha ?_)
        have q := h2 rfl
        unfold nameZ
        by_cases a1 : 1 ≤ z.length
        · have a2 : ¬ z.length ≤ 12 := fun a2 => q ⟨a1, a2⟩
          simp [a2]
        · simp [a1]
    have rest : (1 ≤ z.length ∧ z.length ≤ 12) → (tSeq (tIfS (tTest (tOp (rIn K false) (tVar 0) (tTup (tCons (tC (V.str ".")) (tCons (tC (V.str "..")) tNil))))) (tRet (tC (V.bl false))) tNext)
        (tRet (tCB (rAll K) (tCons (tLc (iStr (tVar 0)) (gName 1) tYes (tOp (fun x y H Q => ∃ c z, x = V.str { cps := #[c] } ∧ y = V.str z ∧ Q (V.bl (decide (c ∈ z.cps.toList))) H) (tVar 1) (tC (V.str letters))) [1]) tNil))) { nx := fun _ H' => Q V.non H', rt := Q }) (start ["value", "letter"] [V.str z]) H := fun ⟨l1, l2⟩ => by
      refine ⟨_, rfl, (by show 2 ≤ sizeLine; decide), fun p hp => ⟨p, _, rfl, .inr (SqT.of upd_same), rfl, rfl, _, rfl, ?_⟩⟩
      have s1 : Same H (upd H p (.tup [.str ".", .str ".."])) := NG.Same.upd hp
      have eI : (if false = true then !inV (V.str z) [V.str ".", V.str ".."] else inV (V.str z) [V.str ".", V.str ".."]) = (z == ("." : Str) || z == (".." : Str)) := by
        show (((("." : Str) == z) || (((".." : Str) == z) || false))) = _
        rw [Bool.or_false]
        congr 1
        · exact Bool.beq_comm
        · exact Bool.beq_comm
      rw [eI]
      refine ite2 (fun h => ?_) (fun h => ?_)
      · have e : nameZ z = false := by
          unfold nameZ
          have : (!(z == ("." : Str)) && !(z == (".." : Str))) = false := by
            rw [← Bool.not_or, h]; rfl
          rw [this]; simp
        have := k _ s1
        rw [e] at this
        exact this
      · refine ⟨_, rfl, z, rfl, fun D hD => lc_signs (fun c => .bl (decide (c ∈ letters.cps.toList))) hz hD (fun c H R hR => ⟨_, rfl, c, letters, rfl, rfl, hR⟩) ?_⟩
        refine ⟨D, z.cps.toList.map (fun c => decide (c ∈ letters.cps.toList)), rfl, SqL.of ?_, ?_⟩
        · rw [upd_same, List.map_map]
          rfl
        · have e : nameZ z = (z.cps.toList.map (fun c => decide (c ∈ letters.cps.toList))).all id := by
            unfold nameZ
            have : (!(z == ("." : Str)) && !(z == (".." : Str))) = true := by
              rw [← Bool.not_or]
              simpa using h
            rw [this, List.all_map]
            simp [l1, l2]
          rw [← e]
          exact k _ (s1.trans (NG.Same.upd hD))
    refine ite2 (fun c1 => ?_) (fun c1 => ?_)
    · refine ⟨_, _, rfl, rfl, _, rfl, ?_⟩
      have c1' : (1 : Int) ≤ (z.length : Int) := of_decide_eq_true c1
      refine cut _ (fun h => ⟨by omega, by have := of_decide_eq_true h; omega⟩) (fun h q => by have := of_decide_eq_false h; omega) (fun e => ?_) rest
      have := k _ (Same.refl H)
      rw [e] at this
      exact this
    · refine ⟨_, rfl, ?_⟩
      refine cut _ (fun h => by cases h) (fun _ q => c1 (decide_eq_true (by omega))) (fun e => ?_) rest
      have := k _ (Same.refl H)
      rw [e] at this
      exact this
end
end NW

set_option maxRecDepth 100000
set_option maxHeartbeats 4000000
namespace NW
open PySem L2 NG
def spStep : Sp := fun vs H Q _ => ∃ z : Str, vs = [.str z] ∧ z.length ≤ sizeLine ∧ ∀ H', Same H H' → Q (.bl (stepZ z)) H'
section
variable {P : Program} {w : World} {K : PySem.W.Frag} {mg : Str → Option Value} {base : Heap} {fName fStep : Addr}
theorem scStep : FnScope ["value"] ["value"] (defScope sStep) := ⟨rfl, rfl, rfl, by decide +kernel, rfl, by decide +kernel, by decide +kernel⟩
theorem ok_step {fd fdN : FuncData} (F : Fun K "is_step" "is_step" sStep fStep fd) (T : TxtN K mg fName fStep) (G_is_name : FnOk P w K mg base CX0 1 fName fdN ["value"] spName) (b_is_name : Binds K fdN ["value"] []) :
    FnOk P w K mg base CX0 2 fStep fd ["value"] spStep := by
  have nd := scStep.nd
  refine F.ok scStep (fun vs H Q E h => ?_) (fun cdv A outer s H vs Q E hr h => ?_)
  · obtain ⟨z, rfl, _⟩ := h
    rfl
  · obtain ⟨z, rfl, hz, k⟩ := h
    have hr_is_name : Room 1 _ := hr
    refine ⟨_, (pss_one (ps_ret (pe_or (pe_call G_is_name hr_is_name (by rfl) T.g_is_name T.kp_is_name b_is_name .nil pass0 (pa_cons (pv 0) pa_nil)) (pe_one (pe_cmpR op_eq (pv 0) pe_str (nomark _)))))), ?_⟩
    refine ⟨_, rfl, z, rfl, hz, fun H' s1 => ⟨_, rfl, ?_⟩⟩
    have k' := k _ s1
    unfold stepZ at k'
    refine ite2 (fun c => ?_) (fun c => ?_)
    · rw [c] at k'
      exact k'
    · have c' : nameZ z = false := by simpa using c
      rw [c'] at k'
      refine ⟨_, rfl, rfl, ?_⟩
      rw [Bool.false_or] at k'
      have e : decide (V.str z = V.str "..") = decide (z = (".." : Str)) := by
        by_cases h : z = ".."
        · simp [h]
        · rw [decide_eq_false h, decide_eq_false (fun q => h (V.str.inj q))]
      show Q (V.bl (decide (V.str z = V.str ".."))) H'
      rw [e]
      exact k'
end
end NW

set_option maxRecDepth 100000
set_option maxHeartbeats 4000000
namespace NW
open PySem L2 NG
abbrev sBad : Stmt := top 18
/-! ### texts -/
def plain (p : Str) : Bool := (p == ("" : Str)) || (p == ("." : Str))
def badPart (p : Str) : Bool := !plain p && !stepZ p
def goBad : Nat → List Str → Option Nat
  | _, [] => none
  | k, p :: r => if badPart p then some k else goBad (k + p.length + 1) r
def partsOf (z : Str) : List Str := Txt.split z "/"
def badP (z : Str) : Option Nat := if z = ("" : Str) then some 0 else goBad 0 (partsOf z)
def spBad (K : PySem.W.Frag) : Sp := fun vs H Q _ => (∃ (x : V) (t : Value), vs = [x] ∧ TyX K H x t ∧ PySem.W.kitOne K t (.type "str") = some false ∧ Q (.int 0) H) ∨
  (∃ z : Str, vs = [.str z] ∧ z.length + 2 ≤ sizeLine ∧ (∀ p ∈ partsOf z, p.length ≤ sizeLine) ∧ (∀ n, badP z = some n → ∀ H', Same H H' → Q (.int (n : Nat)) H') ∧ (badP z = none → ∀ H', Same H H' → Q .non H'))
theorem inV2 (x a b : Str) : (if true = true then !inV (V.str x) [V.str a, V.str b] else inV (V.str x) [V.str a, V.str b]) = !(x == a || x == b) := by
  show (!((a == x) || ((b == x) || false))) = _
  rw [Bool.or_false, Bool.beq_comm (a := a), Bool.beq_comm (a := b)]
section
variable {P : Program} {w : World} {K : PySem.W.Frag} {mg : Str → Option Value} {base : Heap} {fName fStep fBad : Addr}
theorem scBad : FnScope ["text", "place", "part"] ["text"] (defScope sBad) := ⟨rfl, rfl, rfl, by decide +kernel, rfl, by decide +kernel, by decide +kernel⟩
theorem ok_bad {fd fdS : FuncData} (F : Fun K "bad_place" "bad_place" sBad fBad fd) (T : TxtN K mg fName fStep) (G_is_step : FnOk P w K mg base CX0 2 fStep fdS ["value"] spStep) (b_is_step : Binds K fdS ["value"] []) :
    FnOk P w K mg base CX0 3 fBad fd ["text"] (spBad K) := by
  have nd := scBad.nd
  refine F.ok scBad (fun vs H Q E h => ?_) (fun cdv A outer s H vs Q E hr h => ?_)
  · rcases h with ⟨x, t, rfl, _⟩ | ⟨z, rfl, _⟩
    · rfl
    · rfl
  · have hr_is_step : Room 2 _ := hr
    refine ⟨_, (pss_cons (ps_if (PW.pt (pw_or (pt_not (pt_val (pe_callB call_isi (by rfl) T.m_isinstance (by decide +kernel) (pa_cons (pv 0) (pa_cons (pe_bltn (v := .ty "str") (by rfl) T.m_str (by decide +kernel) rfl) pa_nil))))) (pw_or1 (pt_cmpR op_eq (pv 0) pe_str (nomark _))))) (pss_one (ps_ret pe_int)) pss_nil)
  (pss_cons (ps_set (i := 1) nd rfl (Or.inl rfl) pe_int)
  (pss_cons (ps_for PassesOwn.never rfl (pi_list (pe_split (pv 0) pe_str)) (pg_name (i := 2) nd rfl (Or.inl rfl))
  (pss_cons (ps_if (PW.pt (pw_and (pt_cmpR op_notIn_seq (pv 2) (pe_tup (pa_cons pe_str (pa_cons pe_str pa_nil))) (by rfl)) (pw_and1 (pt_not (pt_val (pe_call G_is_step hr_is_step (by rfl) T.g_is_step T.kp_is_step b_is_step .nil pass0 (pa_cons (pv 2) pa_nil))))))) (pss_one (ps_ret (pv 1))) pss_nil)
  (pss_one (ps_aug (i := 1) nd rfl (Or.inl rfl) (pe_op op_add (pe_callB call_len_str (by rfl) T.m_len (by decide +kernel) (pa_cons (pv 2) pa_nil)) pe_int) ip_add))))
  (pss_one (ps_ret pe_non))))), ?_⟩
    rcases h with ⟨x, t, rfl, ty, kt, k⟩ | ⟨z, rfl, hz, hps, kS, kN⟩
    · exact ⟨_, rfl, _, _, _, _, false, rfl, .ty _, ty, kt, _, rfl, iteT k⟩
    · refine ⟨_, rfl, _, _, _, _, true, rfl, .ty _, .base (.str z), rfl, _, rfl, ?_⟩
      refine iteF ?_
      refine ⟨_, rfl, rfl, _, rfl, ?_⟩
      by_cases h0 : z = ("" : Str)
      · rw [decide_eq_true (by rw [h0])]
        refine iteT ?_
        exact kS 0 (by unfold badP; rw [if_pos h0]) H (Same.refl H)
      · rw [decide_eq_false (fun q => h0 (V.str.inj q))]
        refine iteF ?_
        have eb : badP z = goBad 0 (partsOf z) := by unfold badP; rw [if_neg h0]
        refine ⟨_, rfl, ⟨z, rfl⟩, z, "/", rfl, rfl, by decide +kernel, hz, fun p hp => ⟨p, rfl, ⟨_, SqL.of upd_same⟩, ?_⟩⟩
        have s1 : Same H (upd H p (.lst ((partsOf z).map V.str))) := NG.Same.upd hp
        refine for_list (K := K) (a := p) (xs := (partsOf z).map V.str) (fun i σ H' => ∃ (n : Nat) (v : Option V), σ = [some (.str z), some (.int (n : Nat)), v] ∧ Same (upd H p (.lst ((partsOf z).map V.str))) H' ∧ badP z = goBad n ((partsOf z).drop i))
          ⟨0, none, rfl, Same.refl _, eb⟩ (fun i σ H' _ ⟨_, _, _, s2, _⟩ => SqL.of (s2 _ _ upd_same)) ?_ ?_
        · rintro i y σ H' hi ⟨n, v, rfl, s2, eg⟩
          obtain ⟨q, hq, rfl⟩ : ∃ q, (partsOf z)[i]? = some q ∧ y = V.str q := by
            rw [List.getElem?_map] at hi
            cases e : (partsOf z)[i]? with
            | none => rw [e] at hi; cases hi
            | some q => rw [e] at hi; exact ⟨q, rfl, (Option.some.inj hi).symm⟩
          have hdrop : (partsOf z).drop i = q :: (partsOf z).drop (i + 1) := by
            have hlt := (List.getElem?_eq_some_iff.mp hq).1
            rw [List.drop_eq_getElem_cons hlt, (List.getElem?_eq_some_iff.mp hq).2]
          have ql := hps q (List.mem_of_getElem? hq)
          rw [hdrop] at eg
          unfold goBad at eg
          have go : ∀ H2, Same H' H2 → badPart q = false → (tAug 1 (tOp (rI0 fun i j => V.int (i + j)) (tCB (fun xs H Q => ∃ z, xs = [V.str z] ∧ z.length ≤ sizeLine ∧ Q (V.int z.length) H) (tCons (tVar 2) tNil)) (tC (V.int 1))) (ipI fun i j => i + j)
              { nx := fun σ H' => ∃ (n : Nat) (v : Option V), σ = [some (.str z), some (.int (n : Nat)), v] ∧ Same (upd H p (.lst ((partsOf z).map V.str))) H' ∧ badP z = goBad n ((partsOf z).drop (i + 1)), rt := Q }
              [some (.str z), some (.int (n : Nat)), some (.str q)] H2) := fun H2 s3 hb => by
            refine ⟨_, rfl, _, rfl, _, rfl, ql, _, _, rfl, rfl, _, _, rfl, rfl, ?_⟩
            refine ⟨n + q.length + 1, some (.str q), ?_, s2.trans s3, ?_⟩
            · show [some (V.str z), some (V.int ((n : Int) + ((q.length : Int) + 1))), some (V.str q)] = _
              have : (n : Int) + ((q.length : Int) + 1) = ((n + q.length + 1 : Nat) : Int) := by omega
              rw [this]
            · rw [eg, hb]
              rfl
          refine ⟨_, rfl, (by show 2 ≤ sizeLine; decide), fun t ht => ⟨t, _, rfl, .inr (SqT.of upd_same), rfl, rfl, _, rfl, ?_⟩⟩
          have s3 : Same H' (upd H' t (.tup [.str "", .str "."])) := NG.Same.upd ht
          rw [inV2]
          cases hpl : plain q with
          | true =>
            have e1 : ((q == ("" : Str)) || (q == ("." : Str))) = true := hpl
            rw [e1]
            refine iteF ?_
            refine iteF ?_
            exact go _ s3 (by unfold badPart; rw [hpl]; rfl)
          | false =>
            have e1 : ((q == ("" : Str)) || (q == ("." : Str))) = false := hpl
            rw [e1]
            refine iteT ?_
            refine ⟨_, rfl, q, rfl, ql, fun H2 s4 => ⟨_, rfl, ?_⟩⟩
            cases hst : stepZ q with
            | true =>
              refine iteF ?_
              exact go _ (s3.trans s4) (by unfold badPart; rw [hst]; simp)
            | false =>
              refine iteT ?_
              refine ⟨_, rfl, ?_⟩
              have hb : badPart q = true := by unfold badPart; rw [hst, hpl]; rfl
              rw [hb, if_pos rfl] at eg
              exact kS n eg _ (s1.trans (s2.trans (s3.trans s4)))
        · rintro σ H' ⟨n, v, rfl, s2, eg⟩
          rw [List.length_map, List.drop_length] at eg
          exact kN eg _ (s1.trans s2)
end
end NW

set_option maxRecDepth 100000
set_option maxHeartbeats 4000000
namespace NW
open PySem L2 NG
def okS (z : Str) : Prop := z.length ≤ sizeLine ∧ z.cps.all (· < 0x110000) = true
def stepsOf (ps : List Str) : List Str := ps.filter fun p => !plain p
def absOf (ps : List Str) : Bool := match ps.head? with
  | none => false
  | some q => decide (q = ("" : Str))
def fol3 (q : Str) : Bool := q == ("" : Str) || (q == ("." : Str) || q == (".." : Str))
def folOf (ps : List Str) : Bool := match ps.getLast? with
  | none => false
  | some q => fol3 q
/-- z is read as the components ps -/
structure PartsAre (z : Str) (ps : List Str) : Prop where
  sp : partsOf z = ps
  ne : ps ≠ []
  ok : ∀ p ∈ ps, okS p
  zl : z.length + 2 ≤ sizeLine
  pl : ps.length < sizeLine
theorem goBad_none : ∀ {ps : List Str} {k : Nat}, goBad k ps = none → ∀ p ∈ ps, badPart p = false
  | [], _, _, p, hp => by cases hp
  | q :: r, k, h, p, hp => by
    unfold goBad at h
    cases hb : badPart q with
    | true => rw [hb, if_pos rfl] at h; cases h
    | false =>
      rw [hb, if_neg Bool.false_ne_true] at h
      rcases List.mem_cons.mp hp with rfl | hp
      · exact hb
      · exact goBad_none h p hp
theorem len_app (x y : Str) : (x ++ y).length = x.length + y.length := by
  rw [TL.len_tl, TL.len_tl x, TL.len_tl y, TL.tl_append, List.length_append]
theorem len_join_le (xs : List Str) : (Txt.join "/" xs).length ≤ (xs.map (·.length)).sum + xs.length := by
  have h : ("/" : Str).length = 1 := by decide +kernel
  rw [TL.join_eq]
  induction xs with
  | nil => show (Str.join "/" []).length ≤ 0; exact Nat.le_refl 0
  | cons x r ih =>
    cases r with
    | nil => show x.length ≤ _; simp
    | cons y q =>
      show (x ++ ("/" : Str) ++ Str.join "/" (y :: q)).length ≤ _
      rw [len_app, len_app, h]
      simp only [List.map_cons, List.sum_cons, List.length_cons] at ih ⊢
      omega
end NW

set_option maxRecDepth 100000
set_option maxHeartbeats 4000000
namespace NG
open PySem L2
theorem strs_of {R : Str → Prop} : ∀ {xs : List V}, (∀ x ∈ xs, ∃ z, x = V.str z ∧ R z) → ∃ ys : List Str, xs = ys.map V.str ∧ ∀ z ∈ ys, R z
  | [], _ => ⟨[], rfl, by simp⟩
  | x :: r, h => by
    obtain ⟨z, rfl, hz⟩ := h x List.mem_cons_self
    obtain ⟨ys, rfl, hy⟩ := strs_of (xs := r) fun y hy => h y (List.mem_cons_of_mem _ hy)
    refine ⟨z :: ys, rfl, fun q hq => ?_⟩
    rcases List.mem_cons.mp hq with rfl | hq
    · exact hz
    · exact hy q hq
theorem mem_joinL {c : Nat} {S : List Nat} : ∀ {ps : List (List Nat)}, c ∈ TL.joinL S ps → c ∈ S ∨ ∃ p ∈ ps, c ∈ p
  | [], h => by cases h
  | [p], h => .inr ⟨p, List.mem_cons_self, h⟩
  | p :: q :: r, h => by
    rcases List.mem_append.mp (show c ∈ p ++ (S ++ TL.joinL S (q :: r)) from h) with h | h
    · exact .inr ⟨p, List.mem_cons_self, h⟩
    · rcases List.mem_append.mp h with h | h
      · exact .inl h
      · rcases mem_joinL h with h | ⟨x, hx, h⟩
        · exact .inl h
        · exact .inr ⟨x, List.mem_cons_of_mem _ hx, h⟩
theorem mem_join {c : Nat} {y : Str} {ps : List Str} (h : c ∈ (Txt.join y ps).cps.toList) : c ∈ y.cps.toList ∨ ∃ p ∈ ps, c ∈ p.cps.toList := by
  rw [TL.join_eq] at h
  have h' : c ∈ TL.tl (Str.join y ps) := h
  rw [TL.tl_join] at h'
  rcases mem_joinL h' with h | ⟨x, hx, h⟩
  · exact .inl h
  · obtain ⟨p, hp, rfl⟩ := List.mem_map.mp hx
    exact .inr ⟨p, hp, h⟩
end NG
namespace NW
open PySem L2 NG
theorem len_join_gen (y : Str) (xs : List Str) : (Txt.join y xs).length ≤ (xs.map (·.length)).sum + xs.length * y.length := by
  rw [TL.join_eq]
  induction xs with
  | nil => show (Str.join y []).length ≤ _; exact Nat.zero_le _
  | cons x r ih =>
    cases r with
    | nil => show x.length ≤ _; simp only [List.map_cons, List.sum_cons]; omega
    | cons z q =>
      show (x ++ y ++ Str.join y (z :: q)).length ≤ _
      rw [len_app, len_app]
      simp only [List.map_cons, List.sum_cons, List.length_cons] at ih ⊢
      rw [Nat.add_mul (q.length + 1) 1, Nat.one_mul]
      omega
/-- a component that may be drawn -/
def compB (z : Str) : Bool := decide (z.length ≤ 5000) && z.cps.toList.all (fun c => decide (c < 128) && decide (c ≠ 47))
theorem compB_ok {z : Str} (h : compB z = true) : okS z := by
  unfold compB at h
  rw [Bool.and_eq_true] at h
  refine ⟨Nat.le_trans (of_decide_eq_true h.1) (by decide), ?_⟩
  rw [← Array.all_toList, List.all_eq_true]
  intro c hc
  have := List.all_eq_true.mp h.2 c hc
  simp only [Bool.and_eq_true, decide_eq_true_eq] at this
  simp only [decide_eq_true_eq]
  omega
theorem compB_sl {z : Str} (h : compB z = true) : 47 ∉ z.cps.toList := by
  unfold compB at h
  rw [Bool.and_eq_true] at h
  intro hc
  have := List.all_eq_true.mp h.2 47 hc
  simp at this
theorem compB_len {z : Str} (h : compB z = true) : z.length ≤ 5000 := by
  unfold compB at h
  rw [Bool.and_eq_true] at h
  exact of_decide_eq_true h.1
theorem long_a : compB (Txt.mul "a" 5000) = true := by
  have e : (Txt.mul "a" 5000).cps.toList = List.replicate 5000 97 := by
    have h1 : ("a" : Str).cps = #[97] := by decide +kernel
    have h2 : Txt.mul "a" 5000 = ⟨(List.replicate 5000 ("a" : Str).cps).foldl (· ++ ·) #[]⟩ := by
      unfold Txt.mul
      rw [if_neg (by decide), if_neg (by decide +kernel)]
      rfl
    rw [h2, foldl_app, h1]
    show [] ++ (List.replicate 5000 [97]).flatten = _
    rw [List.nil_append]
    have : ∀ k : Nat, (List.replicate k [97]).flatten = List.replicate k 97 := fun k => by
      induction k with
      | zero => rfl
      | succ k ih => rw [List.replicate_succ, List.flatten_cons, ih, List.replicate_succ]; rfl
    exact this 5000
  unfold compB
  rw [e, Bool.and_eq_true]
  refine ⟨decide_eq_true ?_, ?_⟩
  · rw [TL.len_tl]
    show (Txt.mul "a" 5000).cps.toList.length ≤ 5000
    rw [e, List.length_replicate]
    exact Nat.le_refl _
  · rw [List.all_eq_true]
    intro c hc
    rw [(List.mem_replicate.mp hc).2]
    decide
theorem len_zero {p : Str} (h : p.length = 0) : p = ("" : Str) := by
  apply TL.ext_tl
  have : (TL.tl p).length = 0 := by rw [← TL.len_tl]; exact h
  rw [List.eq_nil_of_length_eq_zero this]
  decide +kernel
theorem goBad_cons (n : Nat) (q : Str) (r : List Str) : goBad n (q :: r) = if badPart q then some n else goBad (n + q.length + 1) r := rfl
end NW

set_option maxRecDepth 100000
set_option maxHeartbeats 4000000
namespace NW
open PySem L2 NG
theorem tl_slash : TL.tl ("/" : Str) = [47] := by decide +kernel
theorem tl_empty : TL.tl ("" : Str) = [] := by decide +kernel
theorem parts_join {ps : List Str} (hne : ps ≠ []) (hp : ∀ p ∈ ps, compB p = true) : partsOf (Txt.join "/" ps) = ps :=
  TL.split_join (s := 47) (S := []) tl_slash (by decide +kernel) hne fun p h => compB_sl (hp p h)
theorem sum_len {ps : List Str} (hp : ∀ p ∈ ps, compB p = true) : (ps.map (·.length)).sum ≤ ps.length * 5000 := by
  induction ps with
  | nil => simp
  | cons x r ih =>
    have h1 := compB_len (hp x List.mem_cons_self)
    have h2 := ih fun p h => hp p (List.mem_cons_of_mem _ h)
    simp only [List.map_cons, List.sum_cons, List.length_cons]
    omega
theorem parts_are {ps : List Str} (hne : ps ≠ []) (hp : ∀ p ∈ ps, compB p = true) (hl : ps.length ≤ 20) : PartsAre (Txt.join "/" ps) ps := by
  have h1 := len_join_le ps
  have h2 := sum_len hp
  have hs : sizeLine = 16777216 := sizeLine_eq
  exact ⟨parts_join hne hp, hne, fun p h => compB_ok (hp p h), by omega, by omega⟩
theorem goBad_of : ∀ {ps : List Str} {k : Nat}, (∀ p ∈ ps, badPart p = false) → goBad k ps = none
  | [], _, _ => rfl
  | q :: r, k, h => by
    rw [goBad_cons, h q List.mem_cons_self, if_neg (by decide)]
    exact goBad_of fun p hp => h p (List.mem_cons_of_mem _ hp)
/-- joined lists -/
theorem jl_cons (S p : List Nat) (r : List (List Nat)) (h : r ≠ []) : TL.joinL S (p :: r) = p ++ (S ++ TL.joinL S r) := by
  cases r with
  | nil => exact absurd rfl h
  | cons q r => rfl
theorem jl_snoc (S q : List Nat) : ∀ (ps : List (List Nat)), ps ≠ [] → TL.joinL S (ps ++ [q]) = TL.joinL S ps ++ (S ++ q)
  | [], h => absurd rfl h
  | [p], _ => rfl
  | p :: z :: r, _ => by
    have ih := jl_snoc S q (z :: r) (by simp)
    rw [List.cons_append, jl_cons _ _ _ (by simp), ih, jl_cons _ _ (z :: r) (by simp)]
    simp only [List.append_assoc]
theorem tl_joinT (ps : List Str) : TL.tl (Txt.join "/" ps) = TL.joinL [47] (ps.map TL.tl) := by rw [TL.join_eq, TL.tl_join, tl_slash]

end NW

set_option maxRecDepth 100000
set_option maxHeartbeats 8000000
namespace NW
open PySem L2 NG
abbrev sNum : Stmt := top 11
abbrev sOwner : Stmt := top 12
abbrev sAt : Stmt := top 34
abbrev sPool : Stmt := top 57
abbrev sFree : Stmt := top 58
abbrev sTxt : Stmt := top 59
structure TxtK (K : PySem.W.Frag) (mg : Str → Option Value) (fNum fAt fDigit fPool : Addr) : Prop where
  m_isinstance : mg "isinstance" = none
  m_int : mg "int" = none
  m_bool : mg "bool" = none
  m_len : mg "len" = none
  m_range : mg "range" = none
  m_min : mg "min" = none
  g_is_number : mg "is_number" = some (.ref fNum)
  kp_is_number : PySem.W.keepIn K (.ref fNum) = true
  g_is_at : mg "is_at" = some (.ref fAt)
  kp_is_at : PySem.W.keepIn K (.ref fAt) = true
  g_digit : mg "_law_digit" = some (.ref fDigit)
  kp_digit : PySem.W.keepIn K (.ref fDigit) = true
  g_pool : mg "_law_pool" = some (.ref fPool)
  kp_pool : PySem.W.keepIn K (.ref fPool) = true
/-! ### numbers -/
def spNum (K : PySem.W.Frag) : Sp := fun vs H Q _ => ∃ (v : V) (t : Value) (bi bb : Bool), vs = [v] ∧ TyX K H v t ∧ PySem.W.kitOne K t (.type "int") = some bi ∧ PySem.W.kitOne K t (.type "bool") = some bb ∧ Q (.bl (bi && !bb)) H
def spOwner : Sp := fun vs H Q _ => ∃ n : Int, vs = [.int n] ∧ Q (.bl (decide (0 ≤ n))) H
/-- whether a value is the number of one of so many nodes -/
def spAt (K : PySem.W.Frag) : Sp := fun vs H Q _ => ∃ (a : Addr) (xs : List V) (v : V), vs = [.ref a, v] ∧ SqT K H a xs ∧
  ((∃ n : Int, v = .int n ∧ Q (.bl (decide (0 ≤ n) && decide (n < (xs.length : Nat)))) H) ∨ ∃ (t : Value) (bi bb : Bool), TyX K H v t ∧ PySem.W.kitOne K t (.type "int") = some bi ∧ PySem.W.kitOne K t (.type "bool") = some bb ∧ (bi && !bb) = false ∧ Q (.bl false) H)
section
variable {P : Program} {w : World} {K : PySem.W.Frag} {mg : Str → Option Value} {base : Heap} {fNum fOwner fAt fDigit fPool fFree fTxt : Addr}
theorem scNum : FnScope ["value"] ["value"] (defScope sNum) := ⟨rfl, rfl, rfl, by decide +kernel, rfl, by decide +kernel, by decide +kernel⟩
theorem ok_num {fd : FuncData} (F : Fun K "is_number" "is_number" sNum fNum fd) (T : TxtK K mg fNum fAt fDigit fPool) : FnOk P w K mg base CX0 1 fNum fd ["value"] (spNum K) := by
  refine F.ok scNum (fun vs H Q E h => ?_) (fun cdv A outer s H vs Q E hr h => ?_)
  · obtain ⟨v, t, bi, bb, rfl, _⟩ := h
    rfl
  · obtain ⟨v, t, bi, bb, rfl, ty, ki, kb, k⟩ := h
    refine ⟨_, (pss_one (ps_ret (pe_and (pe_callB call_isi (by rfl) T.m_isinstance (by decide +kernel) (pa_cons (pv 0) (pa_cons (pe_bltn (v := .ty "int") (by rfl) T.m_int (by decide +kernel) rfl) pa_nil))) (pe_one (pe_not (pe_callB call_isi (by rfl) T.m_isinstance (by decide +kernel) (pa_cons (pv 0) (pa_cons (pe_bltn (v := .ty "bool") (by rfl) T.m_bool (by decide +kernel) rfl) pa_nil)))))))), ?_⟩
    refine ⟨_, rfl, _, _, _, _, bi, rfl, .ty _, ty, ki, _, rfl, ?_⟩
    cases bi with
    | false => exact iteF k
    | true => exact iteT ⟨_, rfl, _, _, _, _, bb, rfl, .ty _, ty, kb, _, rfl, k⟩
theorem scOwner : FnScope ["value"] ["value"] (defScope sOwner) := ⟨rfl, rfl, rfl, by decide +kernel, rfl, by decide +kernel, by decide +kernel⟩
theorem ok_owner {fd fdN : FuncData} (F : Fun K "is_owner" "is_owner" sOwner fOwner fd) (T : TxtK K mg fNum fAt fDigit fPool) (G : FnOk P w K mg base CX0 1 fNum fdN ["value"] (spNum K)) (b : Binds K fdN ["value"] []) : FnOk P w K mg base CX0 2 fOwner fd ["value"] spOwner := by
  refine F.ok scOwner (fun vs H Q E h => ?_) (fun cdv A outer s H vs Q E hr h => ?_)
  · obtain ⟨n, rfl, _⟩ := h
    rfl
  · obtain ⟨n, rfl, k⟩ := h
    have hr1 : Room 1 _ := hr
    refine ⟨_, (pss_one (ps_ret (pe_and (pe_call G hr1 (by rfl) T.g_is_number T.kp_is_number b .nil pass0 (pa_cons (pv 0) pa_nil)) (pe_one (pe_cmpR op_ge (pv 0) pe_int (nomark _)))))), ?_⟩
    exact ⟨_, rfl, .int n, _, true, false, rfl, .base (.int n), rfl, rfl, _, rfl, iteT ⟨_, rfl, _, _, rfl, rfl, k⟩⟩
theorem scAt : FnScope ["nodes", "number"] ["nodes", "number"] (defScope sAt) := ⟨rfl, rfl, rfl, by decide +kernel, rfl, by decide +kernel, by decide +kernel⟩
theorem ok_at {fd fdN : FuncData} (F : Fun K "is_at" "is_at" sAt fAt fd) (T : TxtK K mg fNum fAt fDigit fPool) (G : FnOk P w K mg base CX0 1 fNum fdN ["value"] (spNum K)) (b : Binds K fdN ["value"] []) : FnOk P w K mg base CX0 2 fAt fd ["nodes", "number"] (spAt K) := by
  refine F.ok scAt (fun vs H Q E h => ?_) (fun cdv A outer s H vs Q E hr h => ?_)
  · obtain ⟨a, xs, v, rfl, _⟩ := h
    rfl
  · obtain ⟨a, xs, v, rfl, hS, k⟩ := h
    have hr1 : Room 1 _ := hr
    refine ⟨_, (pss_one (ps_ret (pe_and (pe_call G hr1 (by rfl) T.g_is_number T.kp_is_number b .nil pass0 (pa_cons (pv 1) pa_nil)) (pe_one (pe_chain op_le op_lt pe_int (pv 1) (pe_callB call_len_seq (by rfl) T.m_len (by decide +kernel) (pa_cons (pv 0) pa_nil))))))), ?_⟩
    rcases k with ⟨n, rfl, k⟩ | ⟨t, bi, bb, ty, ki, kb, e, k⟩
    · refine ⟨_, rfl, .int n, _, true, false, rfl, .base (.int n), rfl, rfl, _, rfl, iteT ?_⟩
      refine ⟨_, rfl, _, _, rfl, rfl, _, rfl, ?_⟩
      refine ite2 (fun h => ?_) (fun h => ?_)
      · rw [h, Bool.true_and] at k
        exact ⟨_, rfl, a, xs, rfl, .inr hS, _, _, rfl, rfl, k⟩
      · have h' : decide (0 ≤ n) = false := by simpa using h
        rw [h', Bool.false_and] at k
        exact k
    · refine ⟨_, rfl, v, t, bi, bb, rfl, ty, ki, kb, _, rfl, ?_⟩
      rw [e]
      exact iteF k
/-! ### drawn texts -/
def pool : List Str := ["a", "b", "c", "...", "a.b", "x-1", "_", "0", "-", ".a", "abcdefghijkl", "b..", "zz"]
def spPool : Sp := fun vs H Q _ => vs = [] ∧ ∀ l, H l = none → Q (.ref l) (upd H l (.lst (pool.map V.str)))
theorem scPool : FnScope [] [] (defScope sPool) := ⟨rfl, rfl, rfl, by decide +kernel, rfl, by decide +kernel, by decide +kernel⟩
theorem ok_pool {fd : FuncData} (F : Fun K "_law_pool" "_law_pool" sPool fPool fd) : FnOk P w K mg base CX0 1 fPool fd [] spPool := by
  refine F.ok scPool (fun vs H Q E h => ?_) (fun cdv A outer s H vs Q E hr h => ?_)
  · rw [h.1]
    rfl
  · obtain ⟨rfl, k⟩ := h
    refine ⟨_, (pss_one (ps_ret (pe_lst (pa_cons pe_str (pa_cons pe_str (pa_cons pe_str (pa_cons pe_str (pa_cons pe_str (pa_cons pe_str (pa_cons pe_str (pa_cons pe_str (pa_cons pe_str (pa_cons pe_str (pa_cons pe_str (pa_cons pe_str (pa_cons pe_str pa_nil)))))))))))))))), ?_⟩
    exact ⟨(by show 13 ≤ sizeLine; decide), fun l hl => k l hl⟩
/-- a path's text, by its components -/
def LinkText (z : Str) : Prop := ∃ qs : List Str, qs ≠ [] ∧ (∀ q ∈ qs, compB q = true ∧ badPart q = false) ∧ qs.length ≤ 7 ∧ z = Txt.join "/" qs ∧ z ≠ ("" : Str)
def spTxt : Sp := fun vs H Q _ => ∃ p : Addr, vs = [.ref p] ∧ (∃ o, H p = some o ∧ DSo o) ∧ ∀ z H', LinkText z → Dr p H H' → Q (.str z) H'
def compL : List Str := ["a", "b", "c", "..", ".", "", "...", "a.b"]
theorem compL_ok : ∀ q ∈ compL, compB q = true ∧ badPart q = false := by decide +kernel
theorem cps_ext {x y : Str} (h : TL.tl x = TL.tl y) : x = y := by
  have : x.cps.toList = y.cps.toList := h
  cases x; cases y
  congr
  exact Array.toList_inj.mp this
theorem join_lead {ps : List Str} (h : ps ≠ []) : ("/" : Str) ++ Txt.join "/" ps = Txt.join "/" (("" : Str) :: ps) := by
  apply cps_ext
  rw [TL.tl_append, tl_slash, tl_joinT, tl_joinT, List.map_cons, jl_cons _ _ _ (by simpa using h), tl_empty]
  rfl
theorem join_trail {ps : List Str} (h : ps ≠ []) : Txt.join "/" ps ++ ("/" : Str) = Txt.join "/" (ps ++ [("" : Str)]) := by
  apply cps_ext
  rw [TL.tl_append, tl_slash, tl_joinT, tl_joinT, List.map_append, List.map_cons, List.map_nil, jl_snoc _ _ _ (by simpa using h), tl_empty]
  simp
theorem empty_app (x : Str) : ("" : Str) ++ x = x := by
  apply cps_ext
  rw [TL.tl_append, tl_empty, List.nil_append]
theorem app_empty (x : Str) : x ++ ("" : Str) = x := by
  apply cps_ext
  rw [TL.tl_append, tl_empty, List.append_nil]
theorem ce_ok : compB ("" : Str) = true ∧ badPart ("" : Str) = false := by decide +kernel
theorem text_of {ps : List Str} (hne : ps ≠ []) (ok : ∀ q ∈ ps, compB q = true ∧ badPart q = false) {lead trail : Str} (hl : lead = ("" : Str) ∨ lead = ("/" : Str)) (ht : trail = ("" : Str) ∨ trail = ("/" : Str)) :
    ∃ qs : List Str, qs ≠ [] ∧ (∀ q ∈ qs, compB q = true ∧ badPart q = false) ∧ qs.length ≤ ps.length + 2 ∧ lead ++ Txt.join "/" ps ++ trail = Txt.join "/" qs := by
  have h1 : ∃ rs : List Str, rs ≠ [] ∧ (∀ q ∈ rs, compB q = true ∧ badPart q = false) ∧ rs.length ≤ ps.length + 1 ∧ lead ++ Txt.join "/" ps = Txt.join "/" rs := by
    rcases hl with rfl | rfl
    · exact ⟨ps, hne, ok, by omega, empty_app _⟩
    · refine ⟨("" : Str) :: ps, by simp, fun q hq => ?_, by simp, join_lead hne⟩
      rcases List.mem_cons.mp hq with rfl | hq
      · exact ce_ok
      · exact ok q hq
  obtain ⟨rs, r1, r2, r3, r4⟩ := h1
  rw [r4]
  rcases ht with rfl | rfl
  · exact ⟨rs, r1, r2, by omega, app_empty _⟩
  · refine ⟨rs ++ [("" : Str)], by simp, fun q hq => ?_, by simp; omega, join_trail r1⟩
    rcases List.mem_append.mp hq with hq | hq
    · exact r2 q hq
    · rw [List.mem_singleton.mp hq]; exact ce_ok
theorem scTxt : FnScope ["_law_s", "_law_parts", "_law_text_here", "_law_turn"] ["_law_s"] (defScope sTxt) := ⟨rfl, rfl, rfl, by decide +kernel, rfl, by decide +kernel, by decide +kernel⟩
theorem slash_pick {v : V} (h : v ∈ [V.str "", V.str "", V.str "/"]) : ∃ z : Str, v = .str z ∧ (z = ("" : Str) ∨ z = ("/" : Str)) := by
  simp only [List.mem_cons, List.not_mem_nil, or_false] at h
  rcases h with rfl | rfl | rfl
  · exact ⟨_, rfl, .inl rfl⟩
  · exact ⟨_, rfl, .inl rfl⟩
  · exact ⟨_, rfl, .inr rfl⟩
theorem ok_txt {fd fdD : FuncData} (F : Fun K "_law_text" "_law_text" sTxt fTxt fd) (T : TxtK K mg fNum fAt fDigit fPool) (G : FnOk P w K mg base CX0 1 fDigit fdD ["_law_state_here", "_law_base"] spDigit) (b : Binds K fdD ["_law_state_here", "_law_base"] []) :
    FnOk P w K mg base CX0 2 fTxt fd ["_law_s"] spTxt := by
  have nd := scTxt.nd
  refine F.ok scTxt (fun vs H Q E h => ?_) (fun cdv A outer s H vs Q E hr h => ?_)
  · obtain ⟨p, rfl, _⟩ := h
    rfl
  · obtain ⟨p, rfl, ⟨o, hp, dso⟩, k⟩ := h
    have hr1 : Room 1 _ := hr
    have hs : sizeLine = 16777216 := sizeLine_eq
    have h1 : ("/" : Str).length = 1 := by decide +kernel
    refine ⟨_, (pss_cons (ps_setLc (i := 1) (own := [("_law_turn", 3)]) (te := tOp (rIxL K) (tLst (tCons (tC (V.str "a")) (tCons (tC (V.str "b")) (tCons (tC (V.str "c")) (tCons (tC (V.str "..")) (tCons (tC (V.str ".")) (tCons (tC (V.str "")) (tCons (tC (V.str "...")) (tCons (tC (V.str "a.b")) tNil))))))))) (tCall spDigit [] E0 (tCons (tVar 0) (tCons (tC (V.int 8)) tNil)))) rfl nd rfl rfl (sw_true rfl rfl rfl (by decide +kernel)) (pi_range1 (by rfl) T.m_range (pa_cons (pe_op op_add pe_int (pe_call G hr1 (by rfl) T.g_digit T.kp_digit b .nil pass0 (pa_cons (pv 0) (pa_cons pe_int pa_nil)))) pa_nil)) (blkOk_by (N := ["_law_s", "_law_parts", "_law_text_here", "_law_turn"]) (sc := defScope sTxt) (by decide +kernel)) (fun _ _ _ _ _ => (pg_name (i := 3) nd rfl (Or.inl rfl))) (fun _ _ _ _ _ => pts_nil) (fun _ _ _ _ _ => (pe_ix ix_list (pe_lst (pa_cons pe_str (pa_cons pe_str (pa_cons pe_str (pa_cons pe_str (pa_cons pe_str (pa_cons pe_str (pa_cons pe_str (pa_cons pe_str pa_nil))))))))) (pe_call G hr1 (by rfl) T.g_digit T.kp_digit b .nil pass0 (pa_cons (pv 0) (pa_cons pe_int pa_nil))) (fun _ _ => rfl))))
  (pss_cons (ps_set (i := 2) nd rfl (Or.inl rfl) (pe_op op_add_str (pe_op op_add_str (pe_ix ix_list (pe_lst (pa_cons pe_str (pa_cons pe_str (pa_cons pe_str pa_nil)))) (pe_call G hr1 (by rfl) T.g_digit T.kp_digit b .nil pass0 (pa_cons (pv 0) (pa_cons pe_int pa_nil))) (fun _ _ => rfl)) (pe_join pe_str (pv 1))) (pe_ix ix_list (pe_lst (pa_cons pe_str (pa_cons pe_str (pa_cons pe_str pa_nil)))) (pe_call G hr1 (by rfl) T.g_digit T.kp_digit b .nil pass0 (pa_cons (pv 0) (pa_cons pe_int pa_nil))) (fun _ _ => rfl))))
  (pss_one (ps_ret (pe_ifExp (pt_cmpR op_ne (pv 2) pe_str (nomark _)) (pv 2) pe_str))))), ?_⟩
    refine ⟨_, rfl, p, 4, o, rfl, by decide, by decide, hp, dso, fun d o1 d0 d1 ho1 => ⟨_, _, rfl, rfl, _, rfl, by omega, by omega, fun D hD => ?_⟩⟩
    have dr1 : Dr p H (upd H p o1) := (Dr.refl hp dso).next ho1
    have hp1 : (upd H p o1) p = some o1 := upd_same
    generalize upd H p o1 = H1 at dr1 hp1 hD
    refine lc_draw (n := (1 + d).toNat) (p := p) (fun x _ => ∃ z, x = V.str z ∧ compB z = true ∧ badPart z = false) (small1000 (by omega)) hD (Dr.refl hp1 ho1) (fun _ _ _ _ h => h) (fun _ _ _ _ h => h) (fun i H2 R hi dr2 hR => ?_) (fun H2 xs dr2 e2 el hx => ?_)
    · refine ⟨(by show 8 ≤ sizeLine; decide), fun q hq => ?_⟩
      obtain ⟨o2, hp2, ho2⟩ := dr2.st
      have npq : p ≠ q := ne_of_none hp2 hq
      have dr3 := dr2.same (NG.Same.upd (o := HO.lst [V.str "a", V.str "b", V.str "c", V.str "..", V.str ".", V.str "", V.str "...", V.str "a.b"]) hq)
      refine ⟨_, rfl, p, 8, o2, rfl, by decide, by decide, by rw [upd_ne npq]; exact hp2, ho2, fun e o3 e0 e1 ho3 => ?_⟩
      obtain ⟨v, hv, ev⟩ := pick (xs := compL.map V.str) e0 e1
      obtain ⟨z, hz, rfl⟩ := List.mem_map.mp hv
      refine ⟨q, compL.map V.str, e, _, rfl, rfl, SqL.of (by rw [upd_ne npq.symm]; exact upd_same), ev, ?_⟩
      refine hR _ _ ⟨z, rfl, compL_ok z hz⟩ ⟨fun b x eb nb => by rw [upd_ne nb, upd_ne (ne_of_none eb hq)]; exact eb, o3, upd_same, ho3⟩
    obtain ⟨ys, rfl, hy⟩ := strs_of hx
    rw [List.length_map] at el
    have yl : ys.length ≤ 4 := by omega
    have yne : ys ≠ [] := by intro q; rw [q] at el; simp at el; omega
    have dr3 := dr1.trans dr2
    -- lead
    refine ⟨(by show 3 ≤ sizeLine; decide), fun q hq => ?_⟩
    obtain ⟨o3, hp3, ho3⟩ := dr3.st
    have npq : p ≠ q := ne_of_none hp3 hq
    have nDp : D ≠ p := (ne_of_none hp1 hD).symm
    have dr4 := dr3.same (NG.Same.upd (o := HO.lst [V.str "", V.str "", V.str "/"]) hq)
    refine ⟨_, rfl, p, 3, o3, rfl, by decide, by decide, by rw [upd_ne npq]; exact hp3, ho3, fun e o4 e0 e1 ho4 => ?_⟩
    have dr5 := dr4.next ho4
    have eD : (upd (upd H2 q (HO.lst [V.str "", V.str "", V.str "/"])) p o4) D = some (.lst (ys.map V.str)) := by rw [upd_ne nDp, upd_ne (ne_of_none e2 hq)]; exact e2
    have eq : (upd (upd H2 q (HO.lst [V.str "", V.str "", V.str "/"])) p o4) q = some (.lst [V.str "", V.str "", V.str "/"]) := by rw [upd_ne npq.symm, upd_same]
    generalize upd (upd H2 q (HO.lst [V.str "", V.str "", V.str "/"])) p o4 = H5 at dr5 eD eq
    obtain ⟨v, hv, ev⟩ := pick (xs := [V.str "", V.str "", V.str "/"]) e0 e1
    obtain ⟨lead, rfl, hlead⟩ := slash_pick hv
    refine ⟨q, _, e, _, rfl, rfl, SqL.of eq, ev, ?_⟩
    -- join
    have xsum := sum_len (fun z hz => (hy z hz).1)
    have jlen := len_join_le ys
    refine ⟨⟨"/", rfl⟩, _, rfl, "/", D, ys, rfl, rfl, .inl (SqL.of eD), (by rw [h1]; omega), ?_⟩
    have ll : lead.length ≤ 1 := by rcases hlead with rfl | rfl <;> decide +kernel
    refine ⟨_, _, rfl, rfl, by omega, ?_⟩
    -- trail
    refine ⟨(by show 3 ≤ sizeLine; decide), fun q2 hq2 => ?_⟩
    obtain ⟨o5, hp5, ho5⟩ := dr5.st
    have npq2 : p ≠ q2 := ne_of_none hp5 hq2
    have dr6 := dr5.same (NG.Same.upd (o := HO.lst [V.str "", V.str "", V.str "/"]) hq2)
    refine ⟨_, rfl, p, 3, o5, rfl, by decide, by decide, by rw [upd_ne npq2]; exact hp5, ho5, fun g o6 g0 g1 ho6 => ?_⟩
    have dr7 := dr6.next ho6
    have eq2 : (upd (upd H5 q2 (HO.lst [V.str "", V.str "", V.str "/"])) p o6) q2 = some (.lst [V.str "", V.str "", V.str "/"]) := by rw [upd_ne npq2.symm, upd_same]
    generalize upd (upd H5 q2 (HO.lst [V.str "", V.str "", V.str "/"])) p o6 = H7 at dr7 eq2
    obtain ⟨v2, hv2, ev2⟩ := pick (xs := [V.str "", V.str "", V.str "/"]) g0 g1
    obtain ⟨trail, rfl, htrail⟩ := slash_pick hv2
    refine ⟨q2, _, g, _, rfl, rfl, SqL.of eq2, ev2, ?_⟩
    have lt : trail.length ≤ 1 := by rcases htrail with rfl | rfl <;> decide +kernel
    refine ⟨_, _, rfl, rfl, by rw [TL.len_tl, TL.tl_append, List.length_append, ← TL.len_tl, ← TL.len_tl]; omega, ?_⟩
    obtain ⟨qs, r1, r2, r3, r4⟩ := text_of yne hy hlead htrail
    refine ⟨_, rfl, rfl, _, rfl, ?_⟩
    rw [r4]
    by_cases h0 : Txt.join "/" qs = ("" : Str)
    · rw [h0]
      refine ite2 (fun h => absurd h (by decide +kernel)) (fun _ => ?_)
      refine k _ _ ⟨[("." : Str)], by simp, fun q hq => ?_, by simp, ?_, by decide +kernel⟩ dr7
      · rw [List.mem_singleton.mp hq]; decide +kernel
      · rw [TL.join_eq]; rfl
    · have e0 : (!decide (V.str (Txt.join "/" qs) = V.str "")) = true := by
        rw [decide_eq_false (fun q => h0 (V.str.inj q))]; rfl
      rw [e0]
      refine iteT ⟨_, rfl, ?_⟩
      exact k _ _ ⟨qs, r1, r2, by omega, rfl, h0⟩ dr7
end
end NW

set_option maxRecDepth 100000
set_option maxHeartbeats 8000000
namespace NW
open PySem L2 NG TR
/-! ### drawn nodes in the heap: a tuple each; a folder's entries in a list of its own -/
def EntAt (H : Hp) (q : V) (e : Str × Nat) : Prop := ∃ a, q = .ref a ∧ H a = some (.tup [.str e.1, .int (e.2 : Nat)])
def EntsAt (H : Hp) (L : Addr) (es : List (Str × Nat)) : Prop := ∃ qs : List V, H L = some (.lst qs) ∧ qs.length = es.length ∧ ∀ (k : Nat) (q : V) (e : Str × Nat), qs[k]? = some q → es[k]? = some e → EntAt H q e
def NdAt (H : Hp) (ad : Addr × Addr) : Nd → Prop
  | .fol o es => H ad.1 = some (.tup [.str "folder", .int o, .ref ad.2]) ∧ EntsAt H ad.2 es
  | .fil o => H ad.1 = some (.tup [.str "file", .int o])
  | .lnk o t => H ad.1 = some (.tup [.str "link", .int o, .str t])
  | .gon o ab => H ad.1 = some (.tup [.str "gone", .int o, .int (ab : Nat)])
structure NdsAt (H : Hp) (N : Addr) (ads : List (Addr × Addr)) (nds : List Nd) : Prop where
  ls : H N = some (.lst (ads.map fun a => V.ref a.1))
  len : ads.length = nds.length
  nds : ∀ (i : Nat) (ad : Addr × Addr) (nd : Nd), ads[i]? = some ad → nds[i]? = some nd → NdAt H ad nd
  al : ∀ ad ∈ ads, (∃ o, H ad.2 = some o) ∧ ad.2 ≠ N
  nd : (ads.map (·.2)).Nodup
theorem EntAt.mono {H H' : Hp} {q : V} {e : Str × Nat} (h : EntAt H q e) (k : ∀ a xs, H a = some (.tup xs) → H' a = some (.tup xs)) : EntAt H' q e := let ⟨a, h1, h2⟩ := h; ⟨a, h1, k _ _ h2⟩
theorem EntsAt.mono {H H' : Hp} {L : Addr} {es : List (Str × Nat)} (h : EntsAt H L es) (k : ∀ a xs, H a = some (.tup xs) → H' a = some (.tup xs)) (hL : H' L = H L) : EntsAt H' L es :=
  let ⟨qs, h1, h2, h3⟩ := h; ⟨qs, hL.trans h1, h2, fun i q e a b => (h3 i q e a b).mono k⟩
theorem NdAt.mono {H H' : Hp} {ad : Addr × Addr} {nd : Nd} (h : NdAt H ad nd) (k : ∀ a xs, H a = some (.tup xs) → H' a = some (.tup xs)) (hL : nd.isFol = true → H' ad.2 = H ad.2) : NdAt H' ad nd := by
  cases nd with
  | fol o es => exact ⟨k _ _ h.1, h.2.mono k (hL rfl)⟩
  | fil o => exact k _ _ h
  | lnk o t => exact k _ _ h
  | gon o ab => exact k _ _ h
theorem NdAt.same {H H' : Hp} {ad : Addr × Addr} {nd : Nd} (h : NdAt H ad nd) (s : Same H H') (ha : ∃ o, H ad.2 = some o) : NdAt H' ad nd :=
  h.mono (fun a xs e => s _ _ e) fun _ => let ⟨o, e⟩ := ha; (s _ _ e).trans e.symm
theorem NdsAt.same {H H' : Hp} {N : Addr} {ads : List (Addr × Addr)} {nds : List Nd} (h : NdsAt H N ads nds) (s : Same H H') : NdsAt H' N ads nds where
  ls := s _ _ h.ls
  len := h.len
  nds := fun i ad nd h1 h2 => (h.nds i ad nd h1 h2).same s (h.al ad (List.mem_of_getElem? h1)).1
  al := fun ad hm => ⟨let ⟨o, e⟩ := (h.al ad hm).1; ⟨o, s _ _ e⟩, (h.al ad hm).2⟩
  nd := h.nd
/-- the drawn numbers' state at p moves -/
theorem NdsAt.dr {H H' : Hp} {p N : Addr} {ads : List (Addr × Addr)} {nds : List Nd} (h : NdsAt H N ads nds) (d : Dr p H H') (hp : ∃ o, H p = some o ∧ DSo o) (hN : N ≠ p) (hL : ∀ ad ∈ ads, ad.2 ≠ p) : NdsAt H' N ads nds := by
  obtain ⟨o, ep, a, m, c, rfl, _⟩ := hp
  have tk : ∀ b xs, H b = some (.tup xs) → H' b = some (.tup xs) := fun b xs e => d.but _ _ e (ne_of e ep (by intro q; cases q))
  refine ⟨d.but _ _ h.ls hN, h.len, fun i ad nd h1 h2 => ?_, fun ad hm => ⟨?_, (h.al ad hm).2⟩, h.nd⟩
  · have hm := List.mem_of_getElem? h1
    obtain ⟨o, e⟩ := (h.al ad hm).1
    exact (h.nds i ad nd h1 h2).mono tk fun _ => (d.but _ _ e (hL ad hm)).trans e.symm
  · obtain ⟨o, e⟩ := (h.al ad hm).1
    exact ⟨o, d.but _ _ e (hL ad hm)⟩
/-! ### a name that a folder does not have -/
def spFree (K : PySem.W.Frag) : Sp := fun vs H Q _ => ∃ (p N t L : Addr) (i : Int) (ns : List V) (o : V) (es : List (Str × Nat)), vs = [.ref p, .ref N, .int i] ∧ (∃ o, H p = some o ∧ DSo o) ∧ H N = some (.lst ns) ∧ atI ns i = some (.ref t) ∧ H t = some (.tup [.str "folder", o, .ref L]) ∧ EntsAt H L es ∧ es.length < 12 ∧
  ∀ n H', n ∈ pool → n ∉ es.map (·.1) → Dr p H H' → Q (.str n) H'
theorem pool_len : pool.length = 13 := rfl
theorem pool_nd : pool.Nodup := by decide +kernel
theorem left_pos {us : List Str} (h : us.length < 12) : 0 < (pool.filter fun n => !us.contains n).length := by
  rcases Nat.eq_zero_or_pos (pool.filter fun n => !us.contains n).length with e | e
  · have hs : ∀ n ∈ pool, n ∈ us := fun n hn => by
      have e' := List.eq_nil_of_length_eq_zero e
      have := List.filter_eq_nil_iff.mp e' n hn
      simpa using this
    have := List.Nodup.length_le_of_subset pool_nd hs
    rw [pool_len] at this
    omega
  · exact e
theorem inV_strs (n : Str) (us : List Str) : inV (.str n) (us.map V.str) = us.contains n := by
  unfold inV
  rw [List.any_map]
  induction us with
  | nil => rfl
  | cons u r ih =>
    rw [List.any_cons, List.contains_cons, ih]
    show (u == n || _) = _
    rw [Bool.beq_comm (a := u)]
section
variable {P : Program} {w : World} {K : PySem.W.Frag} {mg : Str → Option Value} {base : Heap} {fNum fOwner fAt fDigit fPool fFree fTxt : Addr}
theorem scFree : FnScope ["_law_s", "_law_nodes_here", "_law_folder", "_law_used", "_law_left", "_law_name", "_law_node"] ["_law_s", "_law_nodes_here", "_law_folder"] (defScope sFree) := ⟨rfl, rfl, rfl, by decide +kernel, rfl, by decide +kernel, by decide +kernel⟩
theorem ok_free {fd fdD fdP : FuncData} (F : Fun K "_law_free_name" "_law_free_name" sFree fFree fd) (T : TxtK K mg fNum fAt fDigit fPool) (G : FnOk P w K mg base CX0 1 fDigit fdD ["_law_state_here", "_law_base"] spDigit) (b : Binds K fdD ["_law_state_here", "_law_base"] [])
    (GP : FnOk P w K mg base CX0 1 fPool fdP [] spPool) (bP : Binds K fdP [] []) : FnOk P w K mg base CX0 2 fFree fd ["_law_s", "_law_nodes_here", "_law_folder"] (spFree K) := by
  have nd := scFree.nd
  refine F.ok scFree (fun vs H Q E h => ?_) (fun cdv A outer s H vs Q E hr h => ?_)
  · obtain ⟨p, N, t, L, i, ns, o, es, rfl, _⟩ := h
    rfl
  · obtain ⟨p, N, t, L, i, ns, o, es, rfl, hp, hN, hi, ht, hE, hl, k⟩ := h
    have hr1 : Room 1 _ := hr
    have hs : sizeLine = 16777216 := sizeLine_eq
    refine ⟨_, (pss_cons (ps_set (i := 3) nd rfl (Or.inr rfl) (pe_lc (own := [("_law_name", 5), ("_law_node", 6)]) (g := gTup K 2 (gCons (gName 5) (gCons (gName 6) gNil))) rfl nd (pi_list (pe_ix ix_tup (pe_ix ix_list (pv 1) (pv 2) (fun _ _ => rfl)) pe_int (fun _ _ => rfl))) (blkOk_by (N := ["_law_s", "_law_nodes_here", "_law_folder", "_law_used", "_law_left", "_law_name", "_law_node"]) (sc := defScope sFree) (by decide +kernel)) (fun _ _ _ _ _ => (pg_tup (by rfl) (pgs_cons (pg_name (i := 5) nd rfl (Or.inl rfl)) (pgs_cons (pg_name (i := 6) nd rfl (Or.inl rfl)) pgs_nil)))) (fun _ _ _ _ _ => pts_nil) (fun _ _ _ _ _ => (pv 5))))
  (pss_cons (ps_setLc (i := 4) (own := [("_law_name", 5)]) (tt := tTest (tOp (rIn K true) (tVar 5) (tVar 3))) rfl nd rfl rfl (sw_true rfl rfl rfl (by decide +kernel)) (pi_list (pe_call0 GP hr1 (by rfl) T.g_pool T.kp_pool bP .nil pass0)) (blkOk_by (N := ["_law_s", "_law_nodes_here", "_law_folder", "_law_used", "_law_left", "_law_name", "_law_node"]) (sc := defScope sFree) (by decide +kernel)) (fun _ _ _ _ _ => (pg_name (i := 5) nd rfl (Or.inl rfl))) (fun _ _ _ _ _ => pts_one (pt_cmpR op_notIn_seq (pv 5) (pv 3) (by rfl))) (fun _ _ _ _ _ => (pv 5)))
  (pss_one (ps_ret (pe_ix ix_list (pv 4) (pe_call G hr1 (by rfl) T.g_digit T.kp_digit b .nil pass0 (pa_cons (pv 0) (pa_cons (pe_callB (call_min2 rfl) (by rfl) T.m_min (by decide +kernel) (pa_cons pe_int (pa_cons (pe_callB call_len_seq (by rfl) T.m_len (by decide +kernel) (pa_cons (pv 4) pa_nil)) pa_nil))) pa_nil))) (fun _ _ => rfl)))))), ?_⟩
    obtain ⟨qs, hq, hql, hqe⟩ := hE
    refine ⟨_, rfl, _, rfl, N, _, _, _, rfl, rfl, SqL.of hN, hi, t, _, _, _, rfl, rfl, SqT.of ht, rfl, L, rfl, ⟨_, SqL.of hq⟩, fun D hD => ?_⟩
    refine lc_pair (K := K) (walk_list (K := K) (a := L)) (i := 5) (j := 6) (by decide) (es.map fun e => (V.str e.1, V.int (e.2 : Nat))) (by rw [List.length_map, hql]) (fun _ => true) (fun q => q.1) (fun k x q h1 h2 => ?_) (by omega) hD (fun H' s => SqL.of (s _ _ hq)) (fun k q H' R _ s hR => hR _ (Same.refl _)) (fun k q H' R _ _ s hR => ⟨_, rfl, hR _ (Same.refl _)⟩) (fun H1 s1 e1 => ?_)
    · rw [List.getElem?_map] at h2
      cases e : es[k]? with
      | none => rw [e] at h2; cases h2
      | some en =>
        rw [e] at h2
        cases Option.some.inj h2
        obtain ⟨a, rfl, ha⟩ := hqe k x en h1 e
        exact ⟨a, rfl, SqT.of ha⟩
    have e1' : H1 D = some (.lst ((es.map (·.1)).map V.str)) := by
      rw [e1, List.filter_eq_self.mpr (fun _ _ => rfl), List.map_map, List.map_map]
      rfl
    refine ⟨rfl, fun l hl' => ⟨l, rfl, ⟨_, SqL.of upd_same⟩, fun D2 hD2 => ?_⟩⟩
    have s2 : Same H1 (upd H1 l (.lst (pool.map V.str))) := NG.Same.upd hl'
    have el : (upd H1 l (.lst (pool.map V.str))) l = some (.lst (pool.map V.str)) := upd_same
    have eD2 := s2 _ _ e1'
    revert hD2
    generalize upd H1 l (.lst (pool.map V.str)) = H2 at s2 el eD2
    intro hD2
    have hpl : (pool.map V.str).length < sizeLine := by rw [List.length_map, pool_len]; omega
    refine lc_gen (walk_list (K := K) (a := l)) (fun v => match v with | .str n => !(es.map (·.1)).contains n | _ => false) (fun v => v) hpl hD2 (fun H' s => SqL.of (s _ _ el)) (fun k x H' R hk s hR => ?_) (fun k x H' R hk _ s hR => ⟨_, rfl, hR _ (Same.refl _)⟩) (fun H3 s3 e3 => ?_)
    · obtain ⟨n, rfl⟩ : ∃ n, x = V.str n := by
        rw [List.getElem?_map] at hk
        cases e : pool[k]? with
        | none => rw [e] at hk; cases hk
        | some n => rw [e] at hk; exact ⟨n, (Option.some.inj hk).symm⟩
      refine ⟨_, rfl, _, rfl, D, _, rfl, .inl (SqL.of (s _ _ eD2)), rfl, by rw [List.all_map, List.all_eq_true]; exact fun _ _ => rfl, _, rfl, ?_⟩
      rw [inV_strs]
      exact hR _ (Same.refl _)
    · have ef : ((pool.map V.str).filter (fun v => match v with | .str n => !(es.map (·.1)).contains n | _ => false)).map (fun v => v) = (pool.filter fun n => !(es.map (·.1)).contains n).map V.str := by
        rw [List.map_id', List.filter_map]
        rfl
      rw [ef] at e3
      have lp := left_pos (us := es.map (·.1)) (by rw [List.length_map]; exact hl)
      have sH3 : Same H H3 := s1.trans (s2.trans s3)
      obtain ⟨o', hp', ho'⟩ := hp
      generalize hL : (pool.filter fun n => !(es.map (·.1)).contains n) = left at e3 lp
      refine ⟨_, rfl, _, rfl, _, rfl, D2, _, rfl, .inl (SqL.of e3), 5, _, rfl, p, _, o', rfl, ?_, ?_, sH3 _ _ hp', ho', fun d o2 d0 d1 ho2 => ?_⟩
      · rw [List.length_map]
        split
        · omega
        · decide
      · rw [List.length_map]
        split
        · have : left.length ≤ pool.length := by rw [← hL]; exact List.length_filter_le _ _
          rw [pool_len] at this
          omega
        · decide
      · have hd : d < (left.map V.str).length := by
          split at d1
          · exact d1
          · rename_i h
            omega
        obtain ⟨v, hv, ev⟩ := pick d0 hd
        obtain ⟨n, hn, rfl⟩ := List.mem_map.mp hv
        have nD2p : D2 ≠ p := ne_of e3 (sH3 _ _ hp') (by
          intro q
          obtain ⟨a1, m1, c1, q1, _⟩ := ho'
          rw [q1] at q
          injection q with q
          cases left with
          | nil => cases lp
          | cons x r => cases q)
        refine ⟨D2, _, d, _, rfl, rfl, SqL.of (by rw [upd_ne nD2p]; exact e3), ev, ?_⟩
        rw [← hL] at hn
        obtain ⟨h1, h2⟩ := List.mem_filter.mp hn
        exact k n _ h1 (by simpa using h2) ((Dr.refl hp' ho').same sH3 |>.next ho2)
end
end NW

set_option maxRecDepth 100000
set_option maxHeartbeats 8000000
namespace NW
open PySem L2 NG TR
abbrev sNodes : Stmt := top 60
structure TxtD (K : PySem.W.Frag) (mg : Str → Option Value) (fTxt fFree : Addr) : Prop where
  m_enumerate : mg "enumerate" = none
  g_txt : mg "_law_text" = some (.ref fTxt)
  kp_txt : PySem.W.keepIn K (.ref fTxt) = true
  g_free : mg "_law_free_name" = some (.ref fFree)
  kp_free : PySem.W.keepIn K (.ref fFree) = true
def PL (z : Str) : Prop := z ∈ pool
/-- apart from the drawn numbers' state -/
def Apart (H : Hp) (p N : Addr) (ads : List (Addr × Addr)) : Prop := N ≠ p ∧ (∀ ad ∈ ads, ad.2 ≠ p) ∧ H N = none ∧ ∀ ad ∈ ads, H ad.2 = none
theorem fresh_of {p t : Addr} {H H' : Hp} (d : Dr p H H') (hn : t ≠ p) (h : H' t = none) : H t = none := by
  cases e : H t with
  | none => rfl
  | some x =>
    have := d.but _ _ e hn
    rw [h] at this
    cases this
def spNodes : Sp := fun vs H Q _ => ∃ (p : Addr) (many links : Int), vs = [.ref p, .int many, .int links] ∧ (∃ o, H p = some o ∧ DSo o) ∧ 0 ≤ many ∧ many ≤ 100 ∧
  ∀ N ads nds H', Dr p H H' → NdsAt H' N ads nds → WF LinkText PL nds → Apart H p N ads → (nds.length : Int) ≤ many + 1 → Q (.ref N) H'
def kindL : List Str := ["folder", "folder", "folder", "folder", "file", "file", "link", "gone"]
theorem atI_zero {x : V} {r : List V} : atI (x :: r) (0 : Int) = some x := by
  unfold atI ixN
  simp
def kindS : Nd → Str
  | .fol _ _ => "folder"
  | .fil _ => "file"
  | .lnk _ _ => "link"
  | .gon _ _ => "gone"
theorem nd_kind {H : Hp} {ad : Addr × Addr} {nd : Nd} (h : NdAt H ad nd) : ∃ rest, H ad.1 = some (.tup (.str (kindS nd) :: rest)) := by
  cases nd with
  | fol o es => exact ⟨_, h.1⟩
  | fil o => exact ⟨_, h⟩
  | lnk o t => exact ⟨_, h⟩
  | gon o ab => exact ⟨_, h⟩
theorem kind_fol (nd : Nd) : decide (V.str (kindS nd) = V.str "folder") = nd.isFol := by
  cases nd
  · show decide (V.str "folder" = V.str "folder") = true
    decide +kernel
  · show decide (V.str "file" = V.str "folder") = false
    decide +kernel
  · show decide (V.str "link" = V.str "folder") = false
    decide +kernel
  · show decide (V.str "gone" = V.str "folder") = false
    decide +kernel
theorem folB_at {nds : List Nd} {k : Nat} {nd : Nd} (h : nds[k]? = some nd) : folB nds k = nd.isFol := by
  unfold folB
  rw [h]
  cases nd <;> rfl
def folds (nds : List Nd) : List Nat := (List.range nds.length).filter (folB nds)
theorem folds_pos {nds : List Nd} (b : WF LinkText PL nds) : 0 < (folds nds).length := by
  obtain ⟨o, es, h⟩ := b.base.root
  have : 0 ∈ folds nds := List.mem_filter.mpr ⟨List.mem_range.mpr (List.getElem?_eq_some_iff.mp h).1, folB_iff.mpr ⟨o, es, h⟩⟩
  exact List.length_pos_of_mem this
theorem folds_at {nds : List Nd} {k : Nat} (h : k ∈ folds nds) : FolAt nds k := folB_iff.mp (List.mem_filter.mp h).2
theorem folds_len (nds : List Nd) : (folds nds).length ≤ nds.length := by
  have := List.length_filter_le (folB nds) (List.range nds.length)
  rwa [List.length_range] at this
theorem nds_snoc {H : Hp} {N t L : Addr} {ads : List (Addr × Addr)} {nds : List Nd} {x : Nd} (h : NdsAt H N ads nds) (hx : NdAt H (t, L) x) (hL : ∃ o, H L = some o) (hn : L ≠ N) (hf : ∀ ad ∈ ads, ad.2 ≠ L) :
    NdsAt (upd H N (.lst ((ads.map fun a => V.ref a.1) ++ [.ref t]))) N (ads ++ [(t, L)]) (nds ++ [x]) := by
  have tk : ∀ a xs, H a = some (.tup xs) → (upd H N (.lst ((ads.map fun a => V.ref a.1) ++ [.ref t]))) a = some (.tup xs) := fun a xs e => by
    rw [upd_ne (ne_of e h.ls (by intro q; cases q))]
    exact e
  refine ⟨by rw [upd_same, List.map_append]; rfl, by rw [List.length_append, List.length_append, h.len]; rfl, fun i ad nd h1 h2 => ?_, fun ad hm => ?_, ?_⟩
  · by_cases hi : i < ads.length
    · rw [List.getElem?_append_left hi] at h1
      rw [List.getElem?_append_left (by rw [← h.len]; exact hi)] at h2
      exact (h.nds i ad nd h1 h2).mono tk fun _ => upd_ne (h.al ad (List.mem_of_getElem? h1)).2
    · have hl := (List.getElem?_eq_some_iff.mp h1).1
      rw [List.length_append, List.length_singleton] at hl
      have e : i = ads.length := by omega
      subst e
      rw [List.getElem?_append_right (Nat.le_refl _), Nat.sub_self] at h1
      rw [h.len, List.getElem?_append_right (Nat.le_refl _), Nat.sub_self] at h2
      cases Option.some.inj h1
      cases Option.some.inj h2
      exact hx.mono tk fun _ => upd_ne hn
  · rcases List.mem_append.mp hm with hm | hm
    · have := h.al ad hm
      exact ⟨by rw [upd_ne this.2]; exact this.1, this.2⟩
    · rw [List.mem_singleton.mp hm]
      exact ⟨by rw [upd_ne hn]; exact hL, hn⟩
  · rw [List.map_append, List.nodup_append]
    refine ⟨h.nd, by simp, fun x hx y hy e => ?_⟩
    rw [List.map_cons, List.map_nil, List.mem_singleton] at hy
    obtain ⟨ad, ha, rfl⟩ := List.mem_map.mp hx
    exact hf ad ha (e.trans hy)
theorem dr_set {p D : Addr} {H H' : Hp} {o : HO} (d : Dr p H H') (hD : H D = none) (n : D ≠ p) : Dr p H (upd H' D o) :=
  ⟨fun b x e nb => by rw [upd_ne (ne_of_none e hD)]; exact d.but b x e nb, let ⟨x, e, q⟩ := d.st; ⟨x, by rw [upd_ne n.symm]; exact e, q⟩⟩
theorem nodup_get {ads : List (Addr × Addr)} (h : (ads.map (·.2)).Nodup) {i j : Nat} {a b : Addr × Addr} (hi : ads[i]? = some a) (hj : ads[j]? = some b) (hij : i ≠ j) : a.2 ≠ b.2 := by
  intro e
  have h1 : (ads.map (·.2))[i]? = some a.2 := by rw [List.getElem?_map, hi]; rfl
  have h2 : (ads.map (·.2))[j]? = some b.2 := by rw [List.getElem?_map, hj]; rfl
  have l1 := (List.getElem?_eq_some_iff.mp h1).1
  exact hij ((List.getElem?_inj l1 h).mp (by rw [h1, h2, e]))
/-- an entry more in the folder i -/
theorem nds_ent {H : Hp} {N t L : Addr} {ads : List (Addr × Addr)} {nds : List Nd} {i : Nat} {o : Int} {es : List (Str × Nat)} {qs : List V} {q : V} {e : Str × Nat} (h : NdsAt H N ads nds) (ha : ads[i]? = some (t, L)) (hn : nds[i]? = some (.fol o es))
    (hL : H L = some (.lst qs)) (hq : EntAt H q e) : NdsAt (upd H L (.lst (qs ++ [q]))) N ads (nds.set i (.fol o (es ++ [e]))) := by
  have hLN : L ≠ N := (h.al _ (List.mem_of_getElem? ha)).2
  have tk : ∀ a xs, H a = some (.tup xs) → (upd H L (.lst (qs ++ [q]))) a = some (.tup xs) := fun a xs e => by
    rw [upd_ne (ne_of e hL (by intro q; cases q))]
    exact e
  refine ⟨by rw [upd_ne hLN.symm]; exact h.ls, by rw [List.length_set]; exact h.len, fun j ad nd h1 h2 => ?_, fun ad hm => ?_, h.nd⟩
  · rcases get_set h2 with ⟨rfl, rfl, _⟩ | ⟨hij, h2⟩
    · rw [ha] at h1
      cases Option.some.inj h1
      obtain ⟨e1, qs', e2, e3, e4⟩ := h.nds i _ _ ha hn
      rw [hL] at e2
      cases Option.some.inj e2
      refine ⟨tk _ _ e1, qs ++ [q], upd_same, by rw [List.length_append, List.length_append, e3]; rfl, fun k q' e' hk he => ?_⟩
      by_cases hlt : k < qs.length
      · rw [List.getElem?_append_left hlt] at hk
        rw [List.getElem?_append_left (by omega)] at he
        exact (e4 k q' e' hk he).mono tk
      · have hl := (List.getElem?_eq_some_iff.mp hk).1
        rw [List.length_append, List.length_singleton] at hl
        have ek : k = qs.length := by omega
        subst ek
        rw [List.getElem?_append_right (Nat.le_refl _), Nat.sub_self] at hk
        rw [e3, List.getElem?_append_right (Nat.le_refl _), Nat.sub_self] at he
        cases Option.some.inj hk
        cases Option.some.inj he
        exact hq.mono tk
    · exact (h.nds j ad nd h1 h2).mono tk fun _ => upd_ne (nodup_get h.nd h1 ha (Ne.symm hij))
  · have := h.al ad hm
    refine ⟨?_, this.2⟩
    by_cases e : ad.2 = L
    · rw [e]; exact ⟨_, upd_same⟩
    · rw [upd_ne e]; exact this.1
/-- the node i is exchanged -/
theorem nds_set {H : Hp} {N t : Addr} {ads : List (Addr × Addr)} {nds : List Nd} {i : Nat} {x : Nd} (h : NdsAt H N ads nds) (hi : i < ads.length) (hx : NdAt H (t, t) x) (ht : ∃ xs, H t = some (.tup xs)) (hf : ∀ ad ∈ ads, ad.2 ≠ t) :
    NdsAt (upd H N (.lst ((ads.map fun a => V.ref a.1).set i (.ref t)))) N (ads.set i (t, t)) (nds.set i x) := by
  have tk : ∀ a xs, H a = some (.tup xs) → (upd H N (.lst ((ads.map fun a => V.ref a.1).set i (.ref t)))) a = some (.tup xs) := fun a xs e => by
    rw [upd_ne (ne_of e h.ls (by intro q; cases q))]
    exact e
  obtain ⟨xs, et⟩ := ht
  have ntN : t ≠ N := ne_of et h.ls (by intro q; cases q)
  refine ⟨by rw [upd_same, List.map_set], by rw [List.length_set, List.length_set]; exact h.len, fun j ad nd h1 h2 => ?_, fun ad hm => ?_, ?_⟩
  · by_cases hij : i = j
    · subst hij
      rw [List.getElem?_set_self hi] at h1
      rw [List.getElem?_set_self (by rw [← h.len]; exact hi)] at h2
      cases Option.some.inj h1
      cases Option.some.inj h2
      exact hx.mono tk fun _ => upd_ne ntN
    · rw [List.getElem?_set_ne hij] at h1 h2
      exact (h.nds j ad nd h1 h2).mono tk fun _ => upd_ne (h.al ad (List.mem_of_getElem? h1)).2
  · rcases List.mem_or_eq_of_mem_set hm with hm | rfl
    · have := h.al ad hm
      exact ⟨by rw [upd_ne this.2]; exact this.1, this.2⟩
    · exact ⟨by rw [upd_ne ntN]; exact ⟨_, et⟩, ntN⟩
  · rw [List.map_set]
    refine List.pairwise_iff_getElem.mpr fun a b ha' hb' hab q0 => ?_
    have hb := hb'
    rw [List.length_set, List.length_map] at hb
    have q1 : ((ads.map (·.2)).set i t)[a]? = ((ads.map (·.2)).set i t)[b]? := by rw [List.getElem?_eq_getElem ha', List.getElem?_eq_getElem hb', q0]
    revert q1
    show ((ads.map (·.2)).set i t)[a]? ≠ ((ads.map (·.2)).set i t)[b]?
    have old : ∀ k, k < ads.length → ∃ ad, ads[k]? = some ad := fun k hk => ⟨_, List.getElem?_eq_getElem hk⟩
    obtain ⟨da, ea⟩ := old a (by omega)
    obtain ⟨db, eb⟩ := old b hb
    by_cases h1 : i = a
    · rw [← h1, List.getElem?_set_self (by rw [List.length_map]; exact hi), List.getElem?_set_ne (by omega), List.getElem?_map, eb]
      exact fun q => hf db (List.mem_of_getElem? eb) (Option.some.inj q).symm
    · rw [List.getElem?_set_ne h1]
      by_cases h2 : i = b
      · rw [← h2, List.getElem?_set_self (by rw [List.length_map]; exact hi), List.getElem?_map, ea]
        exact fun q => hf da (List.mem_of_getElem? ea) (Option.some.inj q)
      · rw [List.getElem?_set_ne h2, List.getElem?_map, List.getElem?_map, ea, eb]
        exact fun q => nodup_get h.nd ea eb (by omega) (Option.some.inj q)
section
variable {P : Program} {w : World} {K : PySem.W.Frag} {mg : Str → Option Value} {base : Heap} {fNum fOwner fAt fDigit fPool fFree fTxt fNodes : Addr}
theorem scNodes : FnScope ["_law_s", "_law_many", "_law_links", "_law_nodes_here", "_law_turn", "_law_folders", "_law_over", "_law_way", "_law_kind", "_law_entries", "_law_k", "_law_at", "_law_node"] ["_law_s", "_law_many", "_law_links"] (defScope sNodes) := ⟨rfl, rfl, rfl, by decide +kernel, rfl, by decide +kernel, by decide +kernel⟩
theorem ok_nodes {fd fdD fdT fdF : FuncData} (F : Fun K "_law_nodes" "_law_nodes" sNodes fNodes fd) (T : TxtK K mg fNum fAt fDigit fPool) (TN : TxtD K mg fTxt fFree) (G : FnOk P w K mg base CX0 1 fDigit fdD ["_law_state_here", "_law_base"] spDigit) (b : Binds K fdD ["_law_state_here", "_law_base"] [])
    (GT : FnOk P w K mg base CX0 2 fTxt fdT ["_law_s"] spTxt) (bT : Binds K fdT ["_law_s"] []) (GF : FnOk P w K mg base CX0 2 fFree fdF ["_law_s", "_law_nodes_here", "_law_folder"] (spFree K)) (bF : Binds K fdF ["_law_s", "_law_nodes_here", "_law_folder"] []) :
    FnOk P w K mg base CX0 3 fNodes fd ["_law_s", "_law_many", "_law_links"] spNodes := by
  have nd := scNodes.nd
  refine F.ok scNodes (fun vs H Q E h => ?_) (fun cdv A outer s H vs Q E hr h => ?_)
  · obtain ⟨p, many, links, rfl, _⟩ := h
    rfl
  · obtain ⟨p, many, links, rfl, ⟨o, hp, dso⟩, m0, m1, k⟩ := h
    have hr1 : Room 1 _ := hr.mono (by decide)
    have hr2 : Room 2 _ := hr
    have hs : sizeLine = 16777216 := sizeLine_eq
    refine ⟨_, (pss_cons (ps_set (i := 3) nd rfl (Or.inl rfl) (pe_lst (pa_cons (pe_tup (pa_cons pe_str (pa_cons (pe_call G hr1 (by rfl) T.g_digit T.kp_digit b .nil pass0 (pa_cons (pv 0) (pa_cons pe_int pa_nil))) (pa_cons (pe_lst pa_nil) pa_nil)))) pa_nil)))
  (pss_cons (ps_for PassesOwn.never rfl (pi_range1 (by rfl) T.m_range (pa_cons (pv 1) pa_nil)) (pg_name (i := 4) nd rfl (Or.inl rfl))
  (pss_cons (ps_setLc (i := 5) (own := [("_law_at", 11), ("_law_node", 12)]) (g := gTup K 2 (gCons (gName 11) (gCons (gName 12) gNil))) (tt := tTest (tOp rEq (tOp (rIxT K) (tVar 12) (tC (V.int 0))) (tC (V.str "folder")))) rfl nd rfl rfl (sw_true rfl rfl rfl (by decide +kernel)) (pi_enum (by rfl) TN.m_enumerate (pa_cons (pv 3) pa_nil)) (blkOk_by (N := ["_law_s", "_law_many", "_law_links", "_law_nodes_here", "_law_turn", "_law_folders", "_law_over", "_law_way", "_law_kind", "_law_entries", "_law_k", "_law_at", "_law_node"]) (sc := defScope sNodes) (by decide +kernel)) (fun _ _ _ _ _ => (pg_tup (by rfl) (pgs_cons (pg_name (i := 11) nd rfl (Or.inl rfl)) (pgs_cons (pg_name (i := 12) nd rfl (Or.inl rfl)) pgs_nil)))) (fun _ _ _ _ _ => pts_one (pt_cmpR op_eq (pe_ix ix_tup (pv 12) pe_int (fun _ _ => rfl)) pe_str (nomark _))) (fun _ _ _ _ _ => (pv 11)))
  (pss_cons (ps_set (i := 6) nd rfl (Or.inl rfl) (pe_ix ix_list (pv 5) (pe_call G hr1 (by rfl) T.g_digit T.kp_digit b .nil pass0 (pa_cons (pv 0) (pa_cons (pe_callB call_len_seq (by rfl) T.m_len (by decide +kernel) (pa_cons (pv 5) pa_nil)) pa_nil))) (fun _ _ => rfl)))
  (pss_cons (ps_set (i := 7) nd rfl (Or.inl rfl) (pe_call G hr1 (by rfl) T.g_digit T.kp_digit b .nil pass0 (pa_cons (pv 0) (pa_cons pe_int pa_nil))))
  (pss_cons (ps_set (i := 8) nd rfl (Or.inl rfl) (pe_ix ix_list (pe_lst (pa_cons pe_str (pa_cons pe_str (pa_cons pe_str (pa_cons pe_str (pa_cons pe_str (pa_cons pe_str (pa_cons pe_str (pa_cons pe_str pa_nil))))))))) (pv 7) (fun _ _ => rfl)))
  (C8.pss_cut (ps_if (PW.pt (pw_and (pt_cmpR op_eq (pv 8) pe_str (nomark _)) (pw_and1 (pt_cmpR op_eq (pv 2) pe_int (nomark _))))) (pss_one (ps_set (i := 8) nd rfl (Or.inl rfl) pe_str)) pss_nil)
  (pss_cons (ps_if (pt_cmpR op_eq (pv 8) pe_str (nomark _)) (pss_cons (ps_expr (pe_bm PySem.F.plainAttrs_list PySem.F.slot_list_append PySem.F.type_list_append mt_append (pv 3) (pa_cons (pe_tup (pa_cons (pv 8) (pa_cons (pe_call G hr1 (by rfl) T.g_digit T.kp_digit b .nil pass0 (pa_cons (pv 0) (pa_cons pe_int pa_nil))) (pa_cons (pv 6) pa_nil)))) pa_nil)))
  (pss_one ps_continue)) pss_nil)
  (C8.pss_cut (ps_if (pt_cmpR op_eq (pv 8) pe_str (nomark _)) (pss_cons (ps_set (i := 2) nd rfl (Or.inl rfl) (pe_op op_sub (pv 2) pe_int))
  (pss_one (ps_expr (pe_bm PySem.F.plainAttrs_list PySem.F.slot_list_append PySem.F.type_list_append mt_append (pv 3) (pa_cons (pe_tup (pa_cons (pv 8) (pa_cons (pe_call G hr1 (by rfl) T.g_digit T.kp_digit b .nil pass0 (pa_cons (pv 0) (pa_cons pe_int pa_nil))) (pa_cons (pe_call GT hr2 (by rfl) TN.g_txt TN.kp_txt bT .nil pass0 (pa_cons (pv 0) pa_nil)) pa_nil)))) pa_nil))))) (pss_one (ps_expr (pe_bm PySem.F.plainAttrs_list PySem.F.slot_list_append PySem.F.type_list_append mt_append (pv 3) (pa_cons (pe_ix ix_list (pe_lst (pa_cons (pe_tup (pa_cons pe_str (pa_cons (pe_call G hr1 (by rfl) T.g_digit T.kp_digit b .nil pass0 (pa_cons (pv 0) (pa_cons pe_int pa_nil))) (pa_cons (pe_lst pa_nil) pa_nil)))) (pa_cons (pe_tup (pa_cons pe_str (pa_cons (pe_call G hr1 (by rfl) T.g_digit T.kp_digit b .nil pass0 (pa_cons (pv 0) (pa_cons pe_int pa_nil))) pa_nil))) pa_nil))) (pe_callTy call_int1 (by rfl) T.m_int (by decide +kernel) (pa_cons (pe_cmpR op_eq (pv 8) pe_str (nomark _)) pa_nil)) (fun _ _ => rfl)) pa_nil)))))
  (C8.pss_cut (ps_set (i := 9) nd rfl (Or.inl rfl) (pe_ifExp (pt_cmpR op_ne (pv 8) pe_str (nomark _)) (pe_ix ix_list (pe_lst (pa_cons pe_int (pa_cons pe_int (pa_cons pe_int (pa_cons pe_int (pa_cons pe_int pa_nil)))))) (pe_call G hr1 (by rfl) T.g_digit T.kp_digit b .nil pass0 (pa_cons (pv 0) (pa_cons pe_int pa_nil))) (fun _ _ => rfl)) pe_int))
  (pss_one (ps_for PassesOwn.never rfl (pi_range1 (by rfl) T.m_range (pa_cons (pv 9) pa_nil)) (pg_name (i := 10) nd rfl (Or.inl rfl))
  (C8.pss_cut (ps_if (pt_cmpR op_lt (pe_callB call_len_seq (by rfl) T.m_len (by decide +kernel) (pa_cons (pe_ix ix_tup (pe_ix ix_list (pv 3) (pv 6) (fun _ _ => rfl)) pe_int (fun _ _ => rfl)) pa_nil)) pe_int (nomark _)) (pss_one (ps_expr (pe_bm PySem.F.plainAttrs_list PySem.F.slot_list_append PySem.F.type_list_append mt_append (pe_ix ix_tup (pe_ix ix_list (pv 3) (pv 6) (fun _ _ => rfl)) pe_int (fun _ _ => rfl)) (pa_cons (pe_tup (pa_cons (pe_call GF hr2 (by rfl) TN.g_free TN.kp_free bF .nil pass0 (pa_cons (pv 0) (pa_cons (pv 3) (pa_cons (pv 6) pa_nil)))) (pa_cons (pe_op op_sub (pe_callB call_len_seq (by rfl) T.m_len (by decide +kernel) (pa_cons (pv 3) pa_nil)) pe_int) pa_nil))) pa_nil)))) (pss_one (ps_if (pt_cmpR op_eq (pv 8) pe_str (nomark _)) (pss_one (ps_asg (pe_tup (pa_cons pe_str (pa_cons pe_int pa_nil))) (pg_sub (pv 3) (pe_un un_neg pe_int) set_list))) pss_nil)))
  (pss_one (ps_set (i := 6) nd rfl (Or.inl rfl) (pe_ix ix_list (pv 5) (pe_call G hr1 (by rfl) T.g_digit T.kp_digit b .nil pass0 (pa_cons (pv 0) (pa_cons (pe_callB call_len_seq (by rfl) T.m_len (by decide +kernel) (pa_cons (pv 5) pa_nil)) pa_nil))) (fun _ _ => rfl))))))))))))))))
  (pss_one (ps_ret (pv 3))))), ?_⟩
    -- the root
    refine ⟨_, rfl, p, 3, o, rfl, by decide, by decide, hp, dso, fun r o1 r0 r1 ho1 => ⟨Nat.zero_le _, fun L0 hL0 => ⟨(by show 3 ≤ sizeLine; decide), fun t0 ht0 => ⟨(by show 1 ≤ sizeLine; decide), fun N hN => ?_⟩⟩⟩⟩
    have d1 : Dr p H (upd H p o1) := (Dr.refl hp dso).next ho1
    have ep1 : (upd H p o1) p = some o1 := upd_same
    generalize upd H p o1 = H1 at d1 ep1 hL0 ht0 hN ⊢
    have sL := NG.Same.upd (o := HO.lst []) hL0
    have st := NG.Same.upd (o := HO.tup [V.str "folder", V.int r, V.ref L0]) ht0
    have sN := NG.Same.upd (o := HO.lst [V.ref t0]) hN
    have eL := sN _ _ (st _ _ (upd_same (H := H1) (a := L0) (o := HO.lst [])))
    have et := sN _ _ (upd_same (H := upd H1 L0 (HO.lst [])) (a := t0) (o := HO.tup [V.str "folder", V.int r, V.ref L0]))
    have eN : (upd (upd (upd H1 L0 (HO.lst [])) t0 (HO.tup [V.str "folder", V.int r, V.ref L0])) N (HO.lst [V.ref t0])) N = some (.lst [V.ref t0]) := upd_same
    have nLN : L0 ≠ N := ne_of_none (st _ _ (upd_same (H := H1) (a := L0) (o := HO.lst []))) hN
    have nLp : L0 ≠ p := (ne_of_none ep1 hL0).symm
    have nNp : N ≠ p := (ne_of_none (st _ _ (sL _ _ ep1)) hN).symm
    have d2 := d1.same (sL.trans (st.trans sN))
    have fN : H N = none := fresh_of (d1.same (sL.trans st)) nNp hN
    have fL : H L0 = none := fresh_of d1 nLp hL0
    clear sL st sN hL0 ht0 hN
    generalize upd (upd (upd H1 L0 (HO.lst [])) t0 (HO.tup [V.str "folder", V.int r, V.ref L0])) N (HO.lst [V.ref t0]) = H2 at eL et eN d2 ⊢
    have nds0 : NdsAt H2 N [(t0, L0)] [.fol r []] := by
      refine ⟨eN, rfl, fun i ad nd h1 h2 => ?_, fun ad hm => ?_, by simp⟩
      · cases i with
        | zero =>
          cases Option.some.inj h1
          cases Option.some.inj h2
          exact ⟨et, [], eL, rfl, fun k q e h => by cases h⟩
        | succ i => cases h1
      · rw [List.mem_singleton.mp hm]
        exact ⟨⟨_, eL⟩, nLN⟩
    have wf0 : WF LinkText PL [Nd.fol r []] := by
      refine ⟨⟨⟨r, [], rfl⟩, fun i nd h => ?_, fun i nd h e he => ?_, fun i nd h => ?_, fun i o t h => ?_, fun i o ab h => (by cases i with
        | zero => cases Option.some.inj h
        | succ i => cases h)⟩, fun k nd hk h => ?_⟩
      all_goals
        cases ‹Nat› with
        | zero =>
          first
            | (cases Option.some.inj h; first | exact r0 | (cases he) | exact ⟨List.nodup_nil, Nat.zero_le _⟩ | (exact absurd hk (Nat.lt_irrefl 0)))
            | cases h
        | succ i => cases h
    have ap0 : Apart H p N [(t0, L0)] := ⟨nNp, fun ad hm => (by rw [List.mem_singleton.mp hm]; exact nLp), fN, fun ad hm => (by rw [List.mem_singleton.mp hm]; exact fL)⟩
    have rng : ∀ i : Nat, i < many.toNat → (i : Int) < many := fun i h => by omega
    refine ⟨_, rfl, many, rfl, by omega, by omega, for_range (n := many.toNat) (fun i σ H' => (∃ (ads : List (Addr × Addr)) (nds : List Nd) (lk : Int) (v4 v5 v6 v7 v8 v9 v10 v11 v12 : Option V), σ = [some (.ref p), some (.int many), some (.int lk), some (.ref N), v4, v5, v6, v7, v8, v9, v10, v11, v12] ∧ NdsAt H' N ads nds ∧ WF LinkText PL nds ∧ Apart H p N ads ∧ nds.length ≤ i + 1) ∧ Dr p H H')
      ⟨⟨_, _, links, none, none, none, none, none, none, none, none, none, rfl, nds0, wf0, ap0, Nat.le_refl _⟩, d2⟩ ?_ ?_⟩
    · rintro j σ H3 hj ⟨⟨ads, nds, lk, v4, v5, v6, v7, v8, v9, v10, v11, v12, rfl, ND, W0, AP, nl⟩, d3⟩
      have hj' := rng j hj
      have hlen := ND.len
      -- folders
      refine ⟨_, rfl, N, _, rfl, SqL.of ND.ls, fun D hD => ?_⟩
      have xl : (ads.map fun a => V.ref a.1).length < sizeLine := by rw [List.length_map]; omega
      refine lc_enum (K := K) (a := N) (xs := ads.map fun a => V.ref a.1) (i := 11) (j := 12) (by decide) (folB nds) (fun i => V.int (i : Nat)) xl hD (fun H' s => SqL.of (s _ _ ND.ls)) (fun i x H' R hx s hR => ?_) (fun i x H' R _ _ s hR => ⟨_, rfl, hR _ (Same.refl _)⟩) (fun H4 s4 e4 => ?_)
      · rw [List.getElem?_map] at hx
        cases ea : ads[i]? with
        | none => rw [ea] at hx; cases hx
        | some ad =>
          rw [ea] at hx
          cases Option.some.inj hx
          have hi : i < nds.length := by rw [← hlen]; exact (List.getElem?_eq_some_iff.mp ea).1
          have hn : nds[i]? = some nds[i] := List.getElem?_eq_getElem hi
          obtain ⟨rest, er⟩ := nd_kind (ND.nds i ad _ ea hn)
          refine ⟨_, rfl, ad.1, _, 0, .str (kindS nds[i]), rfl, rfl, SqT.of (s _ _ er), atI_zero, rfl, _, rfl, ?_⟩
          rw [kind_fol, ← folB_at hn]
          exact hR _ (Same.refl _)
      have e4' : H4 D = some (.lst ((folds nds).map fun i => V.int (i : Nat))) := by
        rw [e4, List.length_map, hlen]
        rfl
      have fpos := folds_pos W0
      have flen := folds_len nds
      have d4 := d3.same s4
      have ND4 := ND.same s4
      -- over
      obtain ⟨o4, hp4, ho4⟩ := d4.st
      obtain ⟨o3, hp3, ho3⟩ := d3.st
      have nDp : D ≠ p := (ne_of_none hp3 hD).symm
      have nDN : D ≠ N := (ne_of_none ND.ls hD).symm
      have nDL : ∀ ad ∈ ads, ad.2 ≠ D := fun ad hm => let ⟨o, e⟩ := (ND.al ad hm).1; ne_of_none e hD
      refine ⟨_, rfl, _, rfl, _, rfl, D, _, rfl, .inl (SqL.of e4'), p, _, o4, rfl, by rw [List.length_map]; omega, by rw [List.length_map]; omega, hp4, ho4, fun f o5 f0 f1 ho5 => ?_⟩
      have ND5 : NdsAt (upd H4 p o5) N ads nds := ND4.dr ((Dr.refl hp4 ho4).next ho5) ⟨o4, hp4, ho4⟩ AP.1 AP.2.1
      have d5 := d4.next ho5
      have e5 : (upd H4 p o5) D = some (.lst ((folds nds).map fun i => V.int (i : Nat))) := by rw [upd_ne nDp]; exact e4'
      have hp5 : (upd H4 p o5) p = some o5 := upd_same
      generalize upd H4 p o5 = H5 at ND5 d5 e5 hp5
      obtain ⟨v, hv, ev⟩ := pick (xs := (folds nds).map fun i => V.int (i : Nat)) f0 f1
      obtain ⟨ov, hov, rfl⟩ := List.mem_map.mp hv
      refine ⟨D, _, f, _, rfl, rfl, SqL.of e5, ev, ?_⟩
      -- way, kind
      refine ⟨_, rfl, p, 8, o5, rfl, by decide, by decide, hp5, ho5, fun g o6 g0 g1 ho6 => ?_⟩
      have ND6 : NdsAt (upd H5 p o6) N ads nds := ND5.dr ((Dr.refl hp5 ho5).next ho6) ⟨o5, hp5, ho5⟩ AP.1 AP.2.1
      have d6 := d5.next ho6
      have e6 : (upd H5 p o6) D = some (.lst ((folds nds).map fun i => V.int (i : Nat))) := by rw [upd_ne nDp]; exact e5
      have hp6 : (upd H5 p o6) p = some o6 := upd_same
      generalize upd H5 p o6 = H6 at ND6 d6 e6 hp6
      refine ⟨(by show 8 ≤ sizeLine; decide), fun q hq => ?_⟩
      have sq := NG.Same.upd (o := HO.lst [V.str "folder", V.str "folder", V.str "folder", V.str "folder", V.str "file", V.str "file", V.str "link", V.str "gone"]) hq
      have eq : (upd H6 q (HO.lst [V.str "folder", V.str "folder", V.str "folder", V.str "folder", V.str "file", V.str "file", V.str "link", V.str "gone"])) q = some (.lst (kindL.map V.str)) := upd_same
      have ND7 := ND6.same sq
      have d7 := d6.same sq
      have e7 := sq _ _ e6
      have hp7 := sq _ _ hp6
      generalize upd H6 q (HO.lst [V.str "folder", V.str "folder", V.str "folder", V.str "folder", V.str "file", V.str "file", V.str "link", V.str "gone"]) = H7 at eq ND7 d7 e7 hp7
      obtain ⟨kv, hkv, ekv⟩ := pick (xs := kindL.map V.str) g0 g1
      obtain ⟨z, hz, rfl⟩ := List.mem_map.mp hkv
      refine ⟨_, rfl, q, _, g, _, rfl, rfl, SqL.of eq, ekv, ?_⟩
      -- a link more, or a file
      refine ⟨fun σ H' => H' = H7 ∧ ∃ z : Str, (z = "folder" ∨ z = "file" ∨ z = "link" ∨ z = "gone") ∧ σ = [some (.ref p), some (.int many), some (.int lk), some (.ref N), some (.int (0 + (j : Int))), some (.ref D), some (.int (ov : Nat)), some (.int g), some (.str z), v9, v10, v11, v12], ?_, ?_⟩
      · refine ⟨_, rfl, rfl, _, rfl, ?_⟩
        have four : z = "folder" ∨ z = "file" ∨ z = "link" ∨ z = "gone" := by
          simp only [kindL, List.mem_cons, List.not_mem_nil, or_false] at hz
          rcases hz with rfl | rfl | rfl | rfl | rfl | rfl | rfl | rfl
          · exact .inl rfl
          · exact .inl rfl
          · exact .inl rfl
          · exact .inl rfl
          · exact .inr (.inl rfl)
          · exact .inr (.inl rfl)
          · exact .inr (.inr (.inl rfl))
          · exact .inr (.inr (.inr rfl))
        refine ite2 (fun _ => ?_) (fun _ => iteF ⟨rfl, z, four, rfl⟩)
        refine ⟨_, rfl, rfl, _, rfl, ?_⟩
        exact ite2 (fun _ => ⟨rfl, _, .inr (.inl rfl), rfl⟩) (fun _ => ⟨rfl, z, four, rfl⟩)
      rintro σ H8 ⟨e8, z, hz, rfl⟩
      obtain rfl : H7 = H8 := e8.symm
      have e7' : H7 D = some (.lst ((folds nds).map fun i => V.int (i : Nat))) := e7
      have fov : FolAt nds ov := folds_at hov
      obtain ⟨o7, hp7', ho7⟩ := d7.st
      have lN : (ads.map fun a => V.ref a.1).length < sizeLine := by rw [List.length_map]; omega
      refine ⟨_, rfl, rfl, _, rfl, ?_⟩
      by_cases hgone : z = "gone"
      · -- gone
        subst hgone
        rw [decide_eq_true (rfl : V.str "gone" = V.str "gone")]
        refine iteT ⟨_, rfl, .inl ⟨rfl, _, SqL.of ND7.ls⟩, _, rfl, _, rfl, p, 3, o7, rfl, by decide, by decide, hp7', ho7, fun d o8 d0 d1 ho8 => ?_⟩
        have ND8 : NdsAt (upd H7 p o8) N ads nds := ND7.dr ((Dr.refl hp7' ho7).next ho8) ⟨o7, hp7', ho7⟩ AP.1 AP.2.1
        have d8 := d7.next ho8
        generalize upd H7 p o8 = H8 at ND8 d8
        refine ⟨_, rfl, (by show 3 ≤ sizeLine; decide), fun t ht => ?_⟩
        have st := NG.Same.upd (o := HO.tup [V.str "gone", V.int d, V.int (ov : Nat)]) ht
        have et : (upd H8 t (HO.tup [V.str "gone", V.int d, V.int (ov : Nat)])) t = some (.tup [V.str "gone", V.int d, V.int (ov : Nat)]) := upd_same
        have ft : ∀ ad ∈ ads, ad.2 ≠ t := fun ad hm => let ⟨o, e⟩ := (ND8.al ad hm).1; ne_of_none e ht
        have ND9 := ND8.same st
        have d9 := d8.same st
        have ntN : t ≠ N := (ne_of_none ND8.ls ht).symm
        obtain ⟨o8', hp8, _⟩ := d8.st
        have ntp : t ≠ p := (ne_of_none hp8 ht).symm
        generalize upd H8 t (HO.tup [V.str "gone", V.int d, V.int (ov : Nat)]) = H9 at et ND9 d9
        refine ⟨N, _, _, rfl, rfl, ND9.ls, lN, ?_⟩
        have ND10 := nds_snoc (x := .gon d ov) ND9 (show NdAt H9 (t, t) (.gon d ov) from et) ⟨_, et⟩ ntN ft
        have W1 := wf_snoc W0 (x := .gon d ov) rfl d0 (fun _ _ e => by cases e) (fun o ab e => by cases e; exact fov)
        have d10 : Dr p H (upd H9 N (.lst ((ads.map fun a => V.ref a.1) ++ [.ref t]))) := ⟨fun b x eb nb => by rw [upd_ne (ne_of_none eb AP.2.2.1)]; exact d9.but b x eb nb, let ⟨x, e, q⟩ := d9.st; ⟨x, by rw [upd_ne AP.1.symm]; exact e, q⟩⟩
        refine ⟨⟨_, _, lk, _, _, _, _, _, _, _, _, _, rfl, ND10, W1, ⟨AP.1, fun ad hm => ?_, AP.2.2.1, fun ad hm => ?_⟩, by rw [List.length_append, List.length_singleton]; omega⟩, d10⟩
        · rcases List.mem_append.mp hm with hm | hm
          · exact AP.2.1 ad hm
          · rw [List.mem_singleton.mp hm]; exact ntp
        rcases List.mem_append.mp hm with hm | hm
        · exact AP.2.2.2 ad hm
        · rw [List.mem_singleton.mp hm]; exact fresh_of d8 ntp ht
      rw [decide_eq_false (fun q => hgone (V.str.inj q))]
      refine iteF ?_
      have z3 : z = "folder" ∨ z = "file" ∨ z = "link" := by
        rcases hz with h | h | h | h
        · exact .inl h
        · exact .inr (.inl h)
        · exact .inr (.inr h)
        · exact absurd h hgone
      -- the node
      refine ⟨fun σ H' => ∃ (ads' : List (Addr × Addr)) (x : Nd) (lk' : Int), σ = [some (.ref p), some (.int many), some (.int lk'), some (.ref N), some (.int (0 + (j : Int))), some (.ref D), some (.int (ov : Nat)), some (.int g), some (.str z), v9, v10, v11, v12] ∧ Dr p H H' ∧ H' D = some (.lst ((folds nds).map fun i => V.int (i : Nat))) ∧ NdsAt H' N ads' (nds ++ [x]) ∧ Apart H p N ads' ∧ x.isGone = false ∧
        ((z = "folder" ∧ Pend LinkText PL (nds ++ [x]) nds.length) ∨ (z ≠ "folder" ∧ x.isFol = false ∧ WF LinkText PL (nds ++ [x]))), ?_, ?_⟩
      · -- what is the same for all three: a tuple at t is put behind the nodes
        have put : ∀ (H9 : Hp) (x : Nd) (t L : Addr) (lk' : Int), NdsAt H9 N ads nds → Dr p H H9 → H9 D = some (.lst ((folds nds).map fun i => V.int (i : Nat))) → NdAt H9 (t, L) x → (∃ o, H9 L = some o) → L ≠ N → L ≠ p → H L = none → (∀ ad ∈ ads, ad.2 ≠ L) → x.isGone = false →
            ((z = "folder" ∧ Pend LinkText PL (nds ++ [x]) nds.length) ∨ (z ≠ "folder" ∧ x.isFol = false ∧ WF LinkText PL (nds ++ [x]))) →
            ∃ (ads' : List (Addr × Addr)) (x : Nd) (lk'' : Int), [some (V.ref p), some (.int many), some (.int lk'), some (.ref N), some (.int (0 + (j : Int))), some (.ref D), some (.int (ov : Nat)), some (.int g), some (.str z), v9, v10, v11, v12] = [some (V.ref p), some (.int many), some (.int lk''), some (.ref N), some (.int (0 + (j : Int))), some (.ref D), some (.int (ov : Nat)), some (.int g), some (.str z), v9, v10, v11, v12] ∧ Dr p H (upd H9 N (.lst ((ads.map fun a => V.ref a.1) ++ [.ref t]))) ∧ (upd H9 N (.lst ((ads.map fun a => V.ref a.1) ++ [.ref t]))) D = some (.lst ((folds nds).map fun i => V.int (i : Nat))) ∧ NdsAt (upd H9 N (.lst ((ads.map fun a => V.ref a.1) ++ [.ref t]))) N ads' (nds ++ [x]) ∧ Apart H p N ads' ∧ x.isGone = false ∧
              ((z = "folder" ∧ Pend LinkText PL (nds ++ [x]) nds.length) ∨ (z ≠ "folder" ∧ x.isFol = false ∧ WF LinkText PL (nds ++ [x]))) := fun H9 x t L lk' n9 d9 e9 nx aL lN' lp fL lu xg kk => by
          refine ⟨ads ++ [(t, L)], x, lk', rfl, ⟨fun b u eb nb => by rw [upd_ne (ne_of_none eb AP.2.2.1)]; exact d9.but b u eb nb, let ⟨u, e, q⟩ := d9.st; ⟨u, by rw [upd_ne AP.1.symm]; exact e, q⟩⟩, by rw [upd_ne nDN]; exact e9, nds_snoc n9 nx aL lN' lu, ⟨AP.1, fun ad hm => ?_, AP.2.2.1, fun ad hm => ?_⟩, xg, kk⟩
          · rcases List.mem_append.mp hm with hm | hm
            · exact AP.2.1 ad hm
            · rw [List.mem_singleton.mp hm]; exact lp
          · rcases List.mem_append.mp hm with hm | hm
            · exact AP.2.2.2 ad hm
            · rw [List.mem_singleton.mp hm]; exact fL
        refine ⟨_, rfl, rfl, _, rfl, ?_⟩
        by_cases hlink : z = "link"
        · subst hlink
          rw [decide_eq_true (rfl : V.str "link" = V.str "link")]
          refine iteT ⟨_, rfl, _, _, rfl, rfl, ?_⟩
          refine ⟨_, rfl, .inl ⟨rfl, _, SqL.of ND7.ls⟩, _, rfl, _, rfl, p, 3, o7, rfl, by decide, by decide, hp7', ho7, fun d o8 d0 d1 ho8 => ?_⟩
          have ND8 : NdsAt (upd H7 p o8) N ads nds := ND7.dr ((Dr.refl hp7' ho7).next ho8) ⟨o7, hp7', ho7⟩ AP.1 AP.2.1
          have d8 := d7.next ho8
          have hp8 : (upd H7 p o8) p = some o8 := upd_same
          have e8 : (upd H7 p o8) D = some (.lst ((folds nds).map fun i => V.int (i : Nat))) := by rw [upd_ne nDp]; exact e7'
          generalize upd H7 p o8 = H8 at ND8 d8 hp8 e8
          refine ⟨_, rfl, p, rfl, ⟨o8, hp8, ho8⟩, fun s H9 hs9 d9 => ?_⟩
          have ND9 : NdsAt H9 N ads nds := ND8.dr d9 ⟨o8, hp8, ho8⟩ AP.1 AP.2.1
          have e9 := d9.but _ _ e8 nDp
          have d89 := d8.trans d9
          refine ⟨(by show 3 ≤ sizeLine; decide), fun t ht => ?_⟩
          have st := NG.Same.upd (o := HO.tup [V.str "link", V.int d, V.str s]) ht
          have et : (upd H9 t (HO.tup [V.str "link", V.int d, V.str s])) t = some (.tup [V.str "link", V.int d, V.str s]) := upd_same
          have ft : ∀ ad ∈ ads, ad.2 ≠ t := fun ad hm => let ⟨o, e⟩ := (ND9.al ad hm).1; ne_of_none e ht
          have ntN : t ≠ N := (ne_of_none ND9.ls ht).symm
          obtain ⟨o9, hp9, _⟩ := d89.st
          have ntp : t ≠ p := (ne_of_none hp9 ht).symm
          refine ⟨N, _, _, rfl, rfl, (ND9.same st).ls, lN, ?_⟩
          exact put _ (.lnk d s) t t (lk - 1) (ND9.same st) (d89.same st) (st _ _ e9) et ⟨_, et⟩ ntN ntp (fresh_of d89 ntp ht) ft rfl (.inr ⟨by decide +kernel, rfl, wf_snoc W0 rfl d0 (fun _ _ e => by cases e; exact hs9) (fun _ _ e => by cases e)⟩)
        · rw [decide_eq_false (fun q => hlink (V.str.inj q))]
          refine iteF ?_
          refine ⟨_, rfl, .inl ⟨rfl, _, SqL.of ND7.ls⟩, _, rfl, p, 3, o7, rfl, by decide, by decide, hp7', ho7, fun d o8 d0 d1 ho8 => ⟨Nat.zero_le _, fun L1 hL1 => ⟨(by show 3 ≤ sizeLine; decide), fun t1 ht1 => ?_⟩⟩⟩
          have ND8 : NdsAt (upd H7 p o8) N ads nds := ND7.dr ((Dr.refl hp7' ho7).next ho8) ⟨o7, hp7', ho7⟩ AP.1 AP.2.1
          have d8 := d7.next ho8
          have hp8 : (upd H7 p o8) p = some o8 := upd_same
          have e8 : (upd H7 p o8) D = some (.lst ((folds nds).map fun i => V.int (i : Nat))) := by rw [upd_ne nDp]; exact e7'
          generalize upd H7 p o8 = H8 at ND8 d8 hp8 e8 hL1 ht1 ⊢
          have sL := NG.Same.upd (o := HO.lst []) hL1
          have st := NG.Same.upd (o := HO.tup [V.str "folder", V.int d, V.ref L1]) ht1
          have eL : (upd (upd H8 L1 (HO.lst [])) t1 (HO.tup [V.str "folder", V.int d, V.ref L1])) L1 = some (.lst []) := st _ _ upd_same
          have et : (upd (upd H8 L1 (HO.lst [])) t1 (HO.tup [V.str "folder", V.int d, V.ref L1])) t1 = some (.tup [V.str "folder", V.int d, V.ref L1]) := upd_same
          have fLa : ∀ ad ∈ ads, ad.2 ≠ L1 := fun ad hm => let ⟨o, e⟩ := (ND8.al ad hm).1; ne_of_none e hL1
          have nLN : L1 ≠ N := (ne_of_none ND8.ls hL1).symm
          have nLp : L1 ≠ p := (ne_of_none hp8 hL1).symm
          have fL1 : H L1 = none := fresh_of d8 nLp hL1
          have ND9 := ND8.same (sL.trans st)
          have d9 := d8.same (sL.trans st)
          have e9 := (sL.trans st) _ _ e8
          have hp9 := (sL.trans st) _ _ hp8
          generalize upd (upd H8 L1 (HO.lst [])) t1 (HO.tup [V.str "folder", V.int d, V.ref L1]) = H9 at eL et ND9 d9 e9 hp9 ⊢
          refine ⟨_, rfl, p, 3, o8, rfl, by decide, by decide, hp9, ho8, fun d' o9 d0' d1' ho9 => ⟨(by show 2 ≤ sizeLine; decide), fun t2 ht2 => ⟨(by show 2 ≤ sizeLine; decide), fun ql hql => ?_⟩⟩⟩
          have ND10 : NdsAt (upd H9 p o9) N ads nds := ND9.dr ((Dr.refl hp9 ho8).next ho9) ⟨o8, hp9, ho8⟩ AP.1 AP.2.1
          have d10 := d9.next ho9
          have e10 : (upd H9 p o9) D = some (.lst ((folds nds).map fun i => V.int (i : Nat))) := by rw [upd_ne nDp]; exact e9
          have hp10 : (upd H9 p o9) p = some o9 := upd_same
          have eL10 : (upd H9 p o9) L1 = some (.lst []) := by rw [upd_ne nLp]; exact eL
          have et10 : (upd H9 p o9) t1 = some (.tup [V.str "folder", V.int d, V.ref L1]) := by
            rw [upd_ne (ne_of et hp9 (by obtain ⟨a1, m1, c1, q1, _⟩ := ho8; rw [q1]; intro q; cases q))]
            exact et
          generalize upd H9 p o9 = H10 at ND10 d10 e10 hp10 eL10 et10 ht2 hql ⊢
          have s2 := NG.Same.upd (o := HO.tup [V.str "file", V.int d']) ht2
          have sq := NG.Same.upd (o := HO.lst [V.ref t1, V.ref t2]) hql
          have et2 : (upd (upd H10 t2 (HO.tup [V.str "file", V.int d'])) ql (HO.lst [V.ref t1, V.ref t2])) t2 = some (.tup [V.str "file", V.int d']) := sq _ _ upd_same
          have eq2 : (upd (upd H10 t2 (HO.tup [V.str "file", V.int d'])) ql (HO.lst [V.ref t1, V.ref t2])) ql = some (.lst [V.ref t1, V.ref t2]) := upd_same
          have f2 : ∀ ad ∈ ads, ad.2 ≠ t2 := fun ad hm => let ⟨o, e⟩ := (ND10.al ad hm).1; ne_of_none e ht2
          have n2N : t2 ≠ N := (ne_of_none ND10.ls ht2).symm
          have n2p : t2 ≠ p := (ne_of_none hp10 ht2).symm
          have f2H : H t2 = none := fresh_of d10 n2p ht2
          have ND11 := ND10.same (s2.trans sq)
          have d11 := d10.same (s2.trans sq)
          have e11 := (s2.trans sq) _ _ e10
          have eL11 := (s2.trans sq) _ _ eL10
          have et11 := (s2.trans sq) _ _ et10
          generalize upd (upd H10 t2 (HO.tup [V.str "file", V.int d'])) ql (HO.lst [V.ref t1, V.ref t2]) = H11 at et2 eq2 ND11 d11 e11 eL11 et11 ⊢
          refine ⟨_, rfl, rfl, .inr ⟨_, rfl, ?_⟩⟩
          by_cases hfile : z = "file"
          · subst hfile
            rw [decide_eq_true (rfl : V.str "file" = V.str "file")]
            refine ⟨ql, _, 1, .ref t2, rfl, rfl, SqL.of eq2, rfl, N, _, _, rfl, rfl, ND11.ls, lN, ?_⟩
            exact put _ (.fil d') t2 t2 lk ND11 d11 e11 et2 ⟨_, et2⟩ n2N n2p f2H f2 rfl (.inr ⟨by decide +kernel, rfl, wf_snoc W0 rfl d0' (fun _ _ e => by cases e) (fun _ _ e => by cases e)⟩)
          · have hfol : z = "folder" := by
              rcases z3 with h | h | h
              · exact h
              · exact absurd h hfile
              · exact absurd h hlink
            subst hfol
            rw [decide_eq_false (fun q => hfile (V.str.inj q))]
            refine ⟨ql, _, 0, .ref t1, rfl, rfl, SqL.of eq2, rfl, N, _, _, rfl, rfl, ND11.ls, lN, ?_⟩
            exact put _ (.fol d []) t1 L1 lk ND11 d11 e11 ⟨et11, [], eL11, rfl, fun k q e h => by cases h⟩ ⟨_, eL11⟩ nLN nLp fL1 fLa rfl (.inl ⟨rfl, pend_snoc W0 d0⟩)
      rintro σ K1 ⟨adA, x, lk1, rfl, dA, eA, NDA, APA, xg, kk⟩
      -- how many entries
      refine ⟨fun σ H' => ∃ m : Int, 0 ≤ m ∧ m ≤ 2 ∧ (z = "folder" → m = 1) ∧ σ = [some (.ref p), some (.int many), some (.int lk1), some (.ref N), some (.int (0 + (j : Int))), some (.ref D), some (.int (ov : Nat)), some (.int g), some (.str z), some (.int m), v10, v11, v12] ∧ Dr p H H' ∧ H' D = some (.lst ((folds nds).map fun i => V.int (i : Nat))) ∧ NdsAt H' N adA (nds ++ [x]), ?_, ?_⟩
      · refine ⟨_, rfl, rfl, _, rfl, ?_⟩
        by_cases hfol : z = "folder"
        · subst hfol
          rw [decide_eq_true (rfl : V.str "folder" = V.str "folder")]
          refine iteF ⟨1, by decide, by decide, fun _ => rfl, rfl, dA, eA, NDA⟩
        · rw [decide_eq_false (fun q => hfol (V.str.inj q))]
          refine iteT ⟨(by show 5 ≤ sizeLine; decide), fun ql hql => ?_⟩
          obtain ⟨oA, hpA, hoA⟩ := dA.st
          have sq := NG.Same.upd (o := HO.lst [V.int 1, V.int 1, V.int 1, V.int 2, V.int 0]) hql
          have nqp : ql ≠ p := (ne_of_none hpA hql).symm
          refine ⟨_, rfl, p, 5, oA, rfl, by decide, by decide, sq _ _ hpA, hoA, fun d oB d0 d1 hoB => ?_⟩
          obtain ⟨v, hv, ev⟩ := pick (xs := [V.int 1, V.int 1, V.int 1, V.int 2, V.int 0]) d0 d1
          refine ⟨ql, _, d, v, rfl, rfl, SqL.of (by rw [upd_ne nqp]; exact upd_same), ev, ?_⟩
          have NDB := (NDA.same sq).dr ((Dr.refl (sq _ _ hpA) hoA).next hoB) ⟨oA, sq _ _ hpA, hoA⟩ APA.1 APA.2.1
          have dB := (dA.same sq).next hoB
          have eB : (upd (upd K1 ql (HO.lst [V.int 1, V.int 1, V.int 1, V.int 2, V.int 0])) p oB) D = some (.lst ((folds nds).map fun i => V.int (i : Nat))) := by rw [upd_ne nDp]; exact sq _ _ eA
          simp only [List.mem_cons, List.not_mem_nil, or_false] at hv
          rcases hv with rfl | rfl | rfl | rfl | rfl
          · exact ⟨1, by decide, by decide, fun q => absurd q hfol, rfl, dB, eB, NDB⟩
          · exact ⟨1, by decide, by decide, fun q => absurd q hfol, rfl, dB, eB, NDB⟩
          · exact ⟨1, by decide, by decide, fun q => absurd q hfol, rfl, dB, eB, NDB⟩
          · exact ⟨2, by decide, by decide, fun q => absurd q hfol, rfl, dB, eB, NDB⟩
          · exact ⟨0, by decide, by decide, fun q => absurd q hfol, rfl, dB, eB, NDB⟩
      rintro σ K2 ⟨m, mm0, mm2, mf, rfl, dB, eB, NDB⟩
      -- the entries
      have fold0 : ∀ i ∈ folds nds, i < nds.length := fun i hi => List.mem_range.mp (List.mem_filter.mp hi).1
      refine ⟨_, rfl, m, rfl, by omega, by omega, for_range (n := m.toNat) (fun i σ H' => (∃ (ad2 : List (Addr × Addr)) (n2 : List Nd) (o2 : Nat) (w10 w11 w12 : Option V), σ = [some (.ref p), some (.int many), some (.int lk1), some (.ref N), some (.int (0 + (j : Int))), some (.ref D), some (.int (o2 : Nat)), some (.int g), some (.str z), some (.int m), w10, w11, w12] ∧ o2 ∈ folds nds ∧
        NdsAt H' N ad2 n2 ∧ Apart H p N ad2 ∧ n2.length = nds.length + 1 ∧ (∀ i ∈ folds nds, FolAt n2 i) ∧ (∃ x, n2[nds.length]? = some x ∧ x.isGone = false ∧ (z ≠ "folder" → x.isFol = false)) ∧ ((z = "folder" ∧ i = 0 → Pend LinkText PL n2 nds.length) ∧ (¬ (z = "folder" ∧ i = 0) → WF LinkText PL n2))) ∧
        Dr p H H' ∧ H' D = some (.lst ((folds nds).map fun i => V.int (i : Nat))))
        ⟨⟨adA, nds ++ [x], ov, v10, v11, v12, rfl, hov, NDB, APA, by simp, fun i hi => ?_, ⟨x, ?_, xg, ?_⟩, ?_, ?_⟩, dB, eB⟩ ?_ ?_⟩
      · obtain ⟨o, es, h⟩ := folds_at hi
        exact ⟨o, es, get_keep h⟩
      · rw [List.getElem?_append_right (Nat.le_refl _), Nat.sub_self]; rfl
      · intro q
        rcases kk with ⟨h, _⟩ | ⟨_, h, _⟩
        · exact absurd h q
        · exact h
      · rintro ⟨h, _⟩
        rcases kk with ⟨_, h'⟩ | ⟨h', _⟩
        · exact h'
        · exact absurd h h'
      · intro h
        rcases kk with ⟨h', _⟩ | ⟨_, _, h'⟩
        · exact absurd ⟨h', rfl⟩ h
        · exact h'
      · rintro i σ K3 hi ⟨⟨ad2, n2, o2, w10, w11, w12, rfl, ho2, ND2, AP2, nl2, ff, ⟨xl2, xh, xg2, xf2⟩, pw, ww⟩, d3', e3'⟩
        -- the folder over which it goes
        have ho2n := fold0 o2 ho2
        obtain ⟨o, es, hfo⟩ := ff o2 ho2
        have la2 : ad2.length = nds.length + 1 := by rw [ND2.len, nl2]
        have ha2 : ad2[o2]? = some ad2[o2] := List.getElem?_eq_getElem (by omega)
        generalize ad2[o2] = ad at ha2
        obtain ⟨t, L⟩ := ad
        obtain ⟨et, hEn⟩ := ND2.nds o2 (t, L) _ ha2 hfo
        have hEn' := hEn
        obtain ⟨qs, eL, ql, qe⟩ := hEn
        have hatN : atI (ad2.map fun a => V.ref a.1) ((o2 : Nat) : Int) = some (.ref t) := atI_nat (by rw [List.getElem?_map, ha2]; rfl)
        have hm2 := List.mem_of_getElem? ha2
        have nLN := (ND2.al _ hm2).2
        have nLp := AP2.2.1 _ hm2
        have fL := AP2.2.2.2 _ hm2
        dsimp only at nLN nLp fL
        have nDL2 : D ≠ L := ne_of e3' eL (by
          intro q
          injection q with q
          cases hf : folds nds with
          | nil => rw [hf] at fpos; cases fpos
          | cons y r =>
            rw [hf] at q
            cases hq : qs with
            | nil => rw [hq] at q; cases q
            | cons q0 r0 =>
              rw [hq] at q ql qe
              rw [List.map_cons] at q
              injection q with q _
              have h0 : 0 < es.length := by rw [← ql]; simp
              obtain ⟨a', ea', _⟩ := qe 0 q0 _ rfl (List.getElem?_eq_getElem h0)
              rw [ea'] at q
              cases q)
        have le12 := (show es.length ≤ 12 from by
          by_cases h : z = "folder" ∧ i = 0
          · exact ((pw h).base.uniq o2 _ hfo).2
          · exact ((ww h).base.uniq o2 _ hfo).2)
        have i0 : z = "folder" → i = 0 := fun q => by have := mf q; omega
        obtain ⟨o3', hp3', ho3'⟩ := d3'.st
        refine ⟨fun σ H' => ∃ (ad3 : List (Addr × Addr)) (n3 : List Nd), σ = [some (.ref p), some (.int many), some (.int lk1), some (.ref N), some (.int (0 + (j : Int))), some (.ref D), some (.int (o2 : Nat)), some (.int g), some (.str z), some (.int m), some (.int (0 + (i : Int))), w11, w12] ∧
          NdsAt H' N ad3 n3 ∧ Apart H p N ad3 ∧ n3.length = nds.length + 1 ∧ (∀ i ∈ folds nds, FolAt n3 i) ∧ (∃ x, n3[nds.length]? = some x ∧ x.isGone = false ∧ (z ≠ "folder" → x.isFol = false)) ∧ WF LinkText PL n3 ∧ Dr p H H' ∧ H' D = some (.lst ((folds nds).map fun i => V.int (i : Nat))), ?_, ?_⟩
        · refine ⟨_, rfl, _, rfl, N, _, _, _, rfl, rfl, SqL.of ND2.ls, hatN, t, _, 2, .ref L, rfl, rfl, SqT.of et, rfl, L, qs, rfl, .inl (SqL.of eL), _, _, rfl, rfl, _, rfl, ?_⟩
          refine ite2 (fun h => ?_) (fun h => ?_)
          · have lt12 : es.length < 12 := by have := of_decide_eq_true h; omega
            refine ⟨_, rfl, _, rfl, N, _, _, _, rfl, rfl, SqL.of ND2.ls, hatN, t, _, 2, .ref L, rfl, rfl, SqT.of et, rfl, .inl ⟨rfl, _, SqL.of eL⟩, ?_⟩
            refine ⟨_, rfl, _, rfl, _, rfl, p, N, t, L, _, _, .int o, es, rfl, ⟨o3', hp3', ho3'⟩, ND2.ls, hatN, et, hEn', lt12, fun nm K4 hnm hnu d4 => ?_⟩
            have ND4 := ND2.dr d4 ⟨o3', hp3', ho3'⟩ AP2.1 AP2.2.1
            have d4' := d3'.trans d4
            have e4' := d4.but _ _ e3' nDp
            have eL4 : K4 L = some (.lst qs) := d4.but _ _ eL nLp
            refine ⟨_, rfl, N, _, rfl, .inl (SqL.of ND4.ls), _, _, rfl, rfl, (by show 2 ≤ sizeLine; decide), fun q hq => ?_⟩
            have sq := NG.Same.upd (o := HO.tup [V.str nm, V.int (((ad2.map fun a => V.ref a.1).length : Nat) - 1)]) hq
            have eqq : (upd K4 q (HO.tup [V.str nm, V.int (((ad2.map fun a => V.ref a.1).length : Nat) - 1)])) q = some (.tup [V.str nm, V.int (((ad2.map fun a => V.ref a.1).length : Nat) - 1)]) := upd_same
            have ND5 := ND4.same sq
            have d5 := d4'.same sq
            have e5 := sq _ _ e4'
            have eL5 := sq _ _ eL4
            generalize upd K4 q (HO.tup [V.str nm, V.int (((ad2.map fun a => V.ref a.1).length : Nat) - 1)]) = K5 at eqq ND5 d5 e5 eL5 ⊢
            have hent : EntAt K5 (.ref q) (nm, nds.length) := by
              refine ⟨q, rfl, ?_⟩
              rw [eqq, List.length_map, la2]
              congr 5
              omega
            refine ⟨L, qs, _, rfl, rfl, eL5, by omega, ?_⟩
            have ND6 := nds_ent ND5 ha2 hfo eL5 hent
            refine ⟨ad2, n2.set o2 (.fol o (es ++ [(nm, nds.length)])), rfl, ND6, AP2, by rw [List.length_set]; exact nl2, fun i hi => ?_, ⟨xl2, by rw [List.getElem?_set_ne (by omega)]; exact xh, xg2, xf2⟩, ?_, dr_set d5 fL nLp, by rw [upd_ne nDL2]; exact e5⟩
            · by_cases e : o2 = i
              · exact ⟨o, _, by rw [← e]; exact set_at (by omega)⟩
              · obtain ⟨o', es', h'⟩ := ff i hi
                exact ⟨o', es', by rw [List.getElem?_set_ne e]; exact h'⟩
            · by_cases hzf : z = "folder"
              · exact pend_ent (pw ⟨hzf, i0 hzf⟩) hfo hnm hnu lt12 ho2n
              · exact wf_ent (ww (fun q => hzf q.1)) hfo hnm hnu lt12 xh xg2 (xf2 hzf) ho2n
          · refine ⟨_, rfl, rfl, _, rfl, ?_⟩
            by_cases hzf : z = "folder"
            · subst hzf
              rw [decide_eq_true (rfl : V.str "folder" = V.str "folder")]
              refine iteT ⟨(by show 2 ≤ sizeLine; decide), fun t' ht' => ?_⟩
              have st := NG.Same.upd (o := HO.tup [V.str "file", V.int 0]) ht'
              have et' : (upd K3 t' (HO.tup [V.str "file", V.int 0])) t' = some (.tup [V.str "file", V.int 0]) := upd_same
              have ft' : ∀ ad ∈ ad2, ad.2 ≠ t' := fun ad hm => let ⟨o, e⟩ := (ND2.al ad hm).1; ne_of_none e ht'
              have ntp : t' ≠ p := (ne_of_none hp3' ht').symm
              have fH := fresh_of d3' ntp ht'
              have ND4 := ND2.same st
              have d4 := d3'.same st
              have e4 := st _ _ e3'
              generalize upd K3 t' (HO.tup [V.str "file", V.int 0]) = K4 at et' ND4 d4 e4
              have hix : ixN (ad2.map fun a => V.ref a.1).length (-1) = some nds.length := by
                unfold ixN
                rw [List.length_map, la2, if_neg (by decide), if_pos (by omega)]
                congr 1
                omega
              refine ⟨_, rfl, _, rfl, N, _, _, _, rfl, rfl, ND4.ls, hix, ?_⟩
              have ND5 := nds_set (x := .fil 0) ND4 (show nds.length < ad2.length by omega) (show NdAt K4 (t', t') (.fil 0) from et') ⟨_, et'⟩ ft'
              refine ⟨_, _, rfl, ND5, ⟨AP2.1, fun ad hm => ?_, AP2.2.2.1, fun ad hm => ?_⟩, by rw [List.length_set]; exact nl2, fun i hi => ?_, ⟨_, set_at (by omega), rfl, fun q => absurd rfl q⟩, pend_file (pw ⟨rfl, i0 rfl⟩), dr_set d4 AP2.2.2.1 AP2.1, by rw [upd_ne nDN]; exact e4⟩
              · rcases List.mem_or_eq_of_mem_set hm with hm | rfl
                · exact AP2.2.1 ad hm
                · exact ntp
              · rcases List.mem_or_eq_of_mem_set hm with hm | rfl
                · exact AP2.2.2.2 ad hm
                · exact fH
              · obtain ⟨o', es', h'⟩ := ff i hi
                have := fold0 i hi
                exact ⟨o', es', by rw [List.getElem?_set_ne (by omega)]; exact h'⟩
            · rw [decide_eq_false (fun q => hzf (V.str.inj q))]
              exact iteF ⟨ad2, n2, rfl, ND2, AP2, nl2, ff, ⟨xl2, xh, xg2, xf2⟩, ww (fun q => hzf q.1), d3', e3'⟩
        rintro σ K6 ⟨ad3, n3, rfl, ND3, AP3, nl3, ff3, lst3, W3, d6', e6'⟩
        -- the next one
        obtain ⟨o6', hp6', ho6'⟩ := d6'.st
        refine ⟨_, rfl, _, rfl, _, rfl, D, _, rfl, .inl (SqL.of e6'), p, _, o6', rfl, by rw [List.length_map]; omega, by rw [List.length_map]; omega, hp6', ho6', fun f' o7' f0' f1' ho7' => ?_⟩
        obtain ⟨v, hv, ev⟩ := pick (xs := (folds nds).map fun i => V.int (i : Nat)) f0' f1'
        obtain ⟨o8', ho8', rfl⟩ := List.mem_map.mp hv
        refine ⟨D, _, f', _, rfl, rfl, SqL.of (by rw [upd_ne nDp]; exact e6'), ev, ?_⟩
        exact ⟨⟨ad3, n3, o8', _, _, _, rfl, ho8', ND3.dr ((Dr.refl hp6' ho6').next ho7') ⟨o6', hp6', ho6'⟩ AP3.1 AP3.2.1, AP3, nl3, ff3, lst3, fun q => absurd q.2 (by omega), fun _ => W3⟩, d6'.next ho7', by rw [upd_ne nDp]; exact e6'⟩
      · rintro σ K3 ⟨⟨ad2, n2, o2, w10, w11, w12, rfl, ho2, ND2, AP2, nl2, ff, _, pw, ww⟩, d3', e3'⟩
        refine ⟨⟨ad2, n2, lk1, _, _, _, _, _, _, _, _, _, rfl, ND2, ww ?_, AP2, by omega⟩, d3'⟩
        rintro ⟨h, h0⟩
        have := mf h
        omega
    · rintro σ H3 ⟨⟨ads, nds, lk, v4, v5, v6, v7, v8, v9, v10, v11, v12, rfl, ND, W0, AP, nl⟩, d3⟩
      exact ⟨_, rfl, k N ads nds H3 d3 ND W0 AP (by omega)⟩
end
end NW

set_option maxRecDepth 100000
set_option maxHeartbeats 8000000
namespace NW
open PySem L2 NG TR
abbrev sFileI : Stmt := inClass (top 24) 0
abbrev sLinkI : Stmt := inClass (top 25) 0
abbrev sGoneI : Stmt := inClass (top 26) 0
/-! ### files, links and gone folders are made -/
def fl1 (f : Str) (v : V) : List (Str × V) := putF f v []
def fl2 (f g : Str) (v u : V) : List (Str × V) := putF g u (putF f v [])
def spFile (K : PySem.W.Frag) (C : Addr) : Sp := fun vs H Q _ => ∃ (p dx : Addr) (v : V), vs = [.ref p, v] ∧ H p = some (.ins C dx []) ∧ Q .non (upd H p (.ins C dx (fl1 "owner" v)))
def spTwo (K : PySem.W.Frag) (C : Addr) (f g : Str) : Sp := fun vs H Q _ => ∃ (p dx : Addr) (v u : V), vs = [.ref p, v, u] ∧ H p = some (.ins C dx []) ∧ Q .non (upd (upd H p (.ins C dx (fl1 f v))) p (.ins C dx (fl2 f g v u)))
section
variable {P : Program} {w : World} {K : PySem.W.Frag} {mg : Str → Option Value} {base : Heap} {C f : Addr} {fd : FuncData}
theorem scFileI : FnScope ["self", "owner"] ["self", "owner"] (defScope sFileI) := ⟨rfl, rfl, rfl, by decide +kernel, rfl, by decide +kernel, by decide +kernel⟩
theorem ok_fileI (F : Fun K "__init__" "File.__init__" sFileI f fd) (cl : Cls K C) (h1 : NoAttr K C "owner") : FnOk P w K mg base CX0 1 f fd ["self", "owner"] (spFile K C) := by
  refine F.ok scFileI (fun vs H Q E h => ?_) (fun cdv A outer s H vs Q E hr h => ?_)
  · obtain ⟨p, dx, v, rfl, _⟩ := h
    rfl
  · obtain ⟨p, dx, v, rfl, hp, k⟩ := h
    refine ⟨_, pss_one (ps_fld (pv 0) (pv 1) rfl), ?_⟩
    exact ⟨_, rfl, _, rfl, p, C, dx, _, rfl, hp, cl, h1, (by show 0 < 1000; decide), k⟩
theorem scLinkI : FnScope ["self", "owner", "text"] ["self", "owner", "text"] (defScope sLinkI) := ⟨rfl, rfl, rfl, by decide +kernel, rfl, by decide +kernel, by decide +kernel⟩
theorem ok_linkI (F : Fun K "__init__" "Link.__init__" sLinkI f fd) (cl : Cls K C) (h1 : NoAttr K C "owner") (h2 : NoAttr K C "text") : FnOk P w K mg base CX0 1 f fd ["self", "owner", "text"] (spTwo K C "owner" "text") := by
  refine F.ok scLinkI (fun vs H Q E h => ?_) (fun cdv A outer s H vs Q E hr h => ?_)
  · obtain ⟨p, dx, v, u, rfl, _⟩ := h
    rfl
  · obtain ⟨p, dx, v, u, rfl, hp, k⟩ := h
    refine ⟨_, pss_cons (ps_fld (pv 0) (pv 1) rfl) (pss_one (ps_fld (pv 0) (pv 2) rfl)), ?_⟩
    refine ⟨_, rfl, _, rfl, p, C, dx, _, rfl, hp, cl, h1, (by show 0 < 1000; decide), ?_⟩
    exact ⟨_, rfl, _, rfl, p, C, dx, _, rfl, upd_same, cl, h2, (by show 1 < 1000; decide), k⟩
theorem scGoneI : FnScope ["self", "owner", "above"] ["self", "owner", "above"] (defScope sGoneI) := ⟨rfl, rfl, rfl, by decide +kernel, rfl, by decide +kernel, by decide +kernel⟩
theorem ok_goneI (F : Fun K "__init__" "Gone.__init__" sGoneI f fd) (cl : Cls K C) (h1 : NoAttr K C "owner") (h2 : NoAttr K C "above") : FnOk P w K mg base CX0 1 f fd ["self", "owner", "above"] (spTwo K C "owner" "above") := by
  refine F.ok scGoneI (fun vs H Q E h => ?_) (fun cdv A outer s H vs Q E hr h => ?_)
  · obtain ⟨p, dx, v, u, rfl, _⟩ := h
    rfl
  · obtain ⟨p, dx, v, u, rfl, hp, k⟩ := h
    refine ⟨_, pss_cons (ps_fld (pv 0) (pv 1) rfl) (pss_one (ps_fld (pv 0) (pv 2) rfl)), ?_⟩
    refine ⟨_, rfl, _, rfl, p, C, dx, _, rfl, hp, cl, h1, (by show 0 < 1000; decide), ?_⟩
    exact ⟨_, rfl, _, rfl, p, C, dx, _, rfl, upd_same, cl, h2, (by show 1 < 1000; decide), k⟩
end
end NW

set_option maxRecDepth 100000
set_option maxHeartbeats 8000000
namespace NW
open PySem L2 NG TR
abbrev sMay : Stmt := top 32
abbrev sStood : Stmt := top 33
structure TyC (K : PySem.W.Frag) (C : Addr) : Prop where
  c1 : PySem.W.findIn K (.ref C) "__class__" = some (some (.builtin "object.__class__"))
  c2 : PySem.W.specialIn K (.builtin "object.__class__") "__get__" = some (some (.builtin "getset_descriptor.__get__"))
  c3 : PySem.W.takesIn K (.builtin "object.__class__") = some true
  c4 : PySem.W.mroIn K C (.type "object") = some true
/-- the four classes: 0 Folder, 1 File, 2 Link, 3 Gone -/
structure TxtG (K : PySem.W.Frag) (mg : Str → Option Value) (cs : Nat → Addr) : Prop where
  cl : ∀ i, i < 4 → Cls K (cs i)
  ty : ∀ i, i < 4 → TyC K (cs i)
  kit : ∀ i j, i < 4 → j < 4 → PySem.W.kitOne K (.ref (cs i)) (.ref (cs j)) = some (decide (i = j))
  m_Folder : mg "Folder" = some (.ref (cs 0))
  m_File : mg "File" = some (.ref (cs 1))
  m_Link : mg "Link" = some (.ref (cs 2))
  m_Gone : mg "Gone" = some (.ref (cs 3))
  m_ROOT : ∃ t, mg "ROOT" = some (.int 0 t)
  nO : ∀ i, i < 4 → NoAttr K (cs i) "owner"
  nE : NoAttr K (cs 0) "entries"
  nT : NoAttr K (cs 2) "text"
  nA : NoAttr K (cs 3) "above"
theorem kitAny_of {K : PySem.W.Frag} {mg : Str → Option Value} {cs : Nat → Addr} (T : TxtG K mg cs) {i : Nat} (hi : i < 4) : ∀ js : List Nat, (∀ j ∈ js, j < 4) → PySem.W.kitAny K (.ref (cs i)) (js.map fun j => Value.ref (cs j)) = some (js.contains i)
  | [], _ => rfl
  | j :: r, h => by
    have hj := h j List.mem_cons_self
    have ih := kitAny_of T hi r fun x hx => h x (List.mem_cons_of_mem _ hx)
    rw [List.map_cons]
    unfold PySem.W.kitAny
    rw [T.kit i j hi hj, List.contains_cons]
    by_cases e : i = j
    · subst e
      simp
    · rw [decide_eq_false e]
      have e' : (i == j) = false := by simpa using e
      rw [e', Bool.false_or]
      exact ih
def spMay (K : PySem.W.Frag) (cs : Nat → Addr) : Sp := fun vs H Q _ => ∃ (T : Addr) (xs : List V) (n : Nat) (q : Addr) (i : Nat) (dx : Addr) (fs : List (Str × V)), vs = [.ref T, .int (n : Nat)] ∧ SqT K H T xs ∧ xs[n]? = some (.ref q) ∧ i < 4 ∧ H q = some (.ins (cs i) dx fs) ∧ 0 < n ∧ i ≠ 3 ∧ ∀ H', Same H H' → Q (.bl true) H'
def spStood (K : PySem.W.Frag) (cs : Nat → Addr) : Sp := fun vs H Q _ => ∃ (T : Addr) (xs : List V) (m n : Nat) (q : Addr) (dx : Addr) (fs : List (Str × V)), vs = [.ref T, .int (m : Nat), .int (n : Nat)] ∧ SqT K H T xs ∧ xs[n]? = some (.ref q) ∧ H q = some (.ins (cs 0) dx fs) ∧ n ≠ m ∧ ∀ H', Same H H' → Q (.bl true) H'
section
variable {P : Program} {w : World} {K : PySem.W.Frag} {mg : Str → Option Value} {base : Heap} {fNum fAt fDigit fPool fMay fStood : Addr} {cs : Nat → Addr}
theorem scMay : FnScope ["nodes", "number"] ["nodes", "number"] (defScope sMay) := ⟨rfl, rfl, rfl, by decide +kernel, rfl, by decide +kernel, by decide +kernel⟩
theorem ok_may {fd fdA : FuncData} (F : Fun K "may_be_entered" "may_be_entered" sMay fMay fd) (T : TxtK K mg fNum fAt fDigit fPool) (TG : TxtG K mg cs) (GA : FnOk P w K mg base CX0 2 fAt fdA ["nodes", "number"] (spAt K)) (bA : Binds K fdA ["nodes", "number"] []) :
    FnOk P w K mg base CX0 3 fMay fd ["nodes", "number"] (spMay K cs) := by
  obtain ⟨tr, gr⟩ := TG.m_ROOT
  refine F.ok scMay (fun vs H Q E h => ?_) (fun cdv A outer s H vs Q E hr h => ?_)
  · obtain ⟨T, xs, n, q, i, dx, fs, rfl, _⟩ := h
    rfl
  · obtain ⟨N, xs, n, q, i, dx, fs, rfl, hS, hx, hi, hq, hn, h3, k⟩ := h
    have hr2 : Room 2 _ := hr
    have hl := (List.getElem?_eq_some_iff.mp hx).1
    refine ⟨_, (pss_one (ps_ret (pe_and (pe_call GA hr2 (by rfl) T.g_is_at T.kp_is_at bA .nil pass0 (pa_cons (pv 0) (pa_cons (pv 1) pa_nil))) (pe_and (pe_cmpR op_ne (pv 1) (pe_glob (v := .int 0) (by rfl) gr ⟨_, rfl⟩) (nomark _)) (pe_one (pe_callB call_isiT (by rfl) T.m_isinstance (by decide +kernel) (pa_cons (pe_ix ix_tup (pv 0) (pv 1) (fun _ _ => rfl)) (pa_cons (pe_tup (pa_cons (pe_glob (v := .ref (cs 0)) (by rfl) TG.m_Folder rfl) (pa_cons (pe_glob (v := .ref (cs 1)) (by rfl) TG.m_File rfl) (pa_cons (pe_glob (v := .ref (cs 2)) (by rfl) TG.m_Link rfl) pa_nil)))) pa_nil)))))))), ?_⟩
    refine ⟨_, rfl, _, rfl, N, xs, _, rfl, hS, .inl ⟨(n : Int), rfl, _, rfl, ?_⟩⟩
    have e1 : (decide (0 ≤ (n : Int)) && decide ((n : Int) < (xs.length : Nat))) = true := by
      rw [decide_eq_true (by omega), decide_eq_true (by omega)]
      rfl
    rw [e1]
    refine iteT ⟨_, rfl, rfl, _, rfl, ?_⟩
    have e2 : (!decide (V.int (n : Nat) = V.int 0)) = true := by
      rw [decide_eq_false (fun z => by injection z with z; omega)]
      rfl
    rw [e2]
    refine iteT ⟨_, rfl, _, rfl, N, xs, _, _, rfl, rfl, hS, atI_nat hx, (by show 3 ≤ sizeLine; decide), fun tp htp => ?_⟩
    have sp := NG.Same.upd (o := HO.tup [V.ref (cs 0), V.ref (cs 1), V.ref (cs 2)]) htp
    have := TG.ty i hi
    refine ⟨_, tp, _, .ref (cs i), [.ref (cs 0), .ref (cs 1), .ref (cs 2)], true, rfl, upd_same, ?_, .base (.ins (sp _ _ hq) (TG.cl i hi) this.c1 this.c2 this.c3 this.c4), ?_, k _ sp⟩
    · exact .cons (.own _) (.cons (.own _) (.cons (.own _) .nil))
    · have e := kitAny_of TG hi [0, 1, 2] (by simp)
      have e4 : ([0, 1, 2] : List Nat).contains i = true := by
        have : i = 0 ∨ i = 1 ∨ i = 2 := by omega
        rcases this with rfl | rfl | rfl <;> rfl
      rw [e4] at e
      exact e
theorem scStood : FnScope ["nodes", "number", "last"] ["nodes", "number", "last"] (defScope sStood) := ⟨rfl, rfl, rfl, by decide +kernel, rfl, by decide +kernel, by decide +kernel⟩
theorem ok_stood {fd fdA : FuncData} (F : Fun K "stood_in" "stood_in" sStood fStood fd) (T : TxtK K mg fNum fAt fDigit fPool) (TG : TxtG K mg cs) (GA : FnOk P w K mg base CX0 2 fAt fdA ["nodes", "number"] (spAt K)) (bA : Binds K fdA ["nodes", "number"] []) :
    FnOk P w K mg base CX0 3 fStood fd ["nodes", "number", "last"] (spStood K cs) := by
  refine F.ok scStood (fun vs H Q E h => ?_) (fun cdv A outer s H vs Q E hr h => ?_)
  · obtain ⟨T, xs, m, n, q, dx, fs, rfl, _⟩ := h
    rfl
  · obtain ⟨N, xs, m, n, q, dx, fs, rfl, hS, hx, hq, hn, k⟩ := h
    have hr2 : Room 2 _ := hr
    have hl := (List.getElem?_eq_some_iff.mp hx).1
    refine ⟨_, (pss_one (ps_ret (pe_and (pe_call GA hr2 (by rfl) T.g_is_at T.kp_is_at bA .nil pass0 (pa_cons (pv 0) (pa_cons (pv 2) pa_nil))) (pe_and (pe_cmpR op_ne (pv 2) (pv 1) (nomark _)) (pe_one (pe_callB call_isiT (by rfl) T.m_isinstance (by decide +kernel) (pa_cons (pe_ix ix_tup (pv 0) (pv 2) (fun _ _ => rfl)) (pa_cons (pe_tup (pa_cons (pe_glob (v := .ref (cs 0)) (by rfl) TG.m_Folder rfl) (pa_cons (pe_glob (v := .ref (cs 3)) (by rfl) TG.m_Gone rfl) pa_nil))) pa_nil)))))))), ?_⟩
    refine ⟨_, rfl, _, rfl, N, xs, _, rfl, hS, .inl ⟨(n : Int), rfl, _, rfl, ?_⟩⟩
    have e1 : (decide (0 ≤ (n : Int)) && decide ((n : Int) < (xs.length : Nat))) = true := by
      rw [decide_eq_true (by omega), decide_eq_true (by omega)]
      rfl
    rw [e1]
    refine iteT ⟨_, rfl, _, rfl, rfl, _, rfl, ?_⟩
    have e2 : (!decide (V.int (n : Nat) = V.int (m : Nat))) = true := by
      rw [decide_eq_false (fun z => by injection z with z; omega)]
      rfl
    rw [e2]
    refine iteT ⟨_, rfl, _, rfl, N, xs, _, _, rfl, rfl, hS, atI_nat hx, (by show 2 ≤ sizeLine; decide), fun tp htp => ?_⟩
    have sp := NG.Same.upd (o := HO.tup [V.ref (cs 0), V.ref (cs 3)]) htp
    have := TG.ty 0 (by decide)
    refine ⟨_, tp, _, .ref (cs 0), [.ref (cs 0), .ref (cs 3)], true, rfl, upd_same, ?_, .base (.ins (sp _ _ hq) (TG.cl 0 (by decide)) this.c1 this.c2 this.c3 this.c4), ?_, k _ sp⟩
    · exact .cons (.own _) (.cons (.own _) .nil)
    · exact kitAny_of TG (by decide) [0, 3] (by simp)
/-! ### made nodes: an object each; a folder's entries in a tuple of tuples -/
def ffl (o : Int) (E : Addr) : List (Str × V) := putF "entries" (.ref E) (putF "owner" (.int o) [])
def EntO (K : PySem.W.Frag) (H : Hp) (q : V) (e : Str × Nat) : Prop := ∃ a, q = .ref a ∧ SqT K H a [.str e.1, .int (e.2 : Nat)]
def ObjAt (K : PySem.W.Frag) (cs : Nat → Addr) (H : Hp) (q : Addr) : Nd → Prop
  | .fol o es => ∃ dx E ps, H q = some (.ins (cs 0) dx (ffl o E)) ∧ PlT H E ps ∧ ps.length = es.length ∧ ∀ (k : Nat) (p : V) (e : Str × Nat), ps[k]? = some p → es[k]? = some e → EntO K H p e
  | .fil o => ∃ dx, H q = some (.ins (cs 1) dx (fl1 "owner" (.int o)))
  | .lnk o t => ∃ dx, H q = some (.ins (cs 2) dx (fl2 "owner" "text" (.int o) (.str t)))
  | .gon o ab => ∃ dx, H q = some (.ins (cs 3) dx (fl2 "owner" "above" (.int o) (.int (ab : Nat))))
theorem ObjAt.same {K : PySem.W.Frag} {cs : Nat → Addr} {H H' : Hp} {q : Addr} {nd : Nd} (h : ObjAt K cs H q nd) (s : Same H H') : ObjAt K cs H' q nd := by
  cases nd with
  | fol o es =>
    obtain ⟨dx, E, ps, h1, h2, h3, h4⟩ := h
    exact ⟨dx, E, ps, s _ _ h1, h2.same s, h3, fun k p e a b => let ⟨x, y, z⟩ := h4 k p e a b; ⟨x, y, Same.sqT s z⟩⟩
  | fil o => exact let ⟨dx, h⟩ := h; ⟨dx, s _ _ h⟩
  | lnk o t => exact let ⟨dx, h⟩ := h; ⟨dx, s _ _ h⟩
  | gon o ab => exact let ⟨dx, h⟩ := h; ⟨dx, s _ _ h⟩
/-- the tuple of a tree's nodes -/
structure ObjsAt (K : PySem.W.Frag) (cs : Nat → Addr) (H : Hp) (T : Addr) (qs : List Addr) (nds : List Nd) : Prop where
  ls : SqT K H T (qs.map V.ref)
  len : qs.length = nds.length
  nds : ∀ (i : Nat) (q : Addr) (nd : Nd), qs[i]? = some q → nds[i]? = some nd → ObjAt K cs H q nd
theorem ObjsAt.same {K : PySem.W.Frag} {cs : Nat → Addr} {H H' : Hp} {T : Addr} {qs : List Addr} {nds : List Nd} (h : ObjsAt K cs H T qs nds) (s : Same H H') : ObjsAt K cs H' T qs nds :=
  ⟨Same.sqT s h.ls, h.len, fun i q nd a b => (h.nds i q nd a b).same s⟩
/-- of which class -/
def clsI : Nd → Nat
  | .fol _ _ => 0
  | .fil _ => 1
  | .lnk _ _ => 2
  | .gon _ _ => 3
theorem clsI_lt (nd : Nd) : clsI nd < 4 := by cases nd <;> simp [clsI]
theorem obj_ins {K : PySem.W.Frag} {cs : Nat → Addr} {H : Hp} {q : Addr} {nd : Nd} (h : ObjAt K cs H q nd) : ∃ dx fs, H q = some (.ins (cs (clsI nd)) dx fs) ∧ List.lookup ("owner" : Str) fs = some (V.int nd.owner) := by
  have no : ("owner" : Str) ≠ "entries" := by decide +kernel
  have nt : ("owner" : Str) ≠ "text" := by decide +kernel
  have na : ("owner" : Str) ≠ "above" := by decide +kernel
  cases nd with
  | fol o es =>
    obtain ⟨dx, E, ps, h1, _⟩ := h
    exact ⟨dx, _, h1, by unfold ffl; rw [lookup_putF, if_neg no, lookup_putF, if_pos rfl]; rfl⟩
  | fil o =>
    obtain ⟨dx, h⟩ := h
    exact ⟨dx, _, h, by unfold fl1; rw [lookup_putF, if_pos rfl]; rfl⟩
  | lnk o t =>
    obtain ⟨dx, h⟩ := h
    exact ⟨dx, _, h, by unfold fl2; rw [lookup_putF, if_neg nt, lookup_putF, if_pos rfl]; rfl⟩
  | gon o ab =>
    obtain ⟨dx, h⟩ := h
    exact ⟨dx, _, h, by unfold fl2; rw [lookup_putF, if_neg na, lookup_putF, if_pos rfl]; rfl⟩
end
end NW

set_option maxRecDepth 100000
set_option maxHeartbeats 8000000
namespace NW
open PySem L2 NG TR
abbrev sFound : Stmt := top 37
def spFound (K : PySem.W.Frag) (cs : Nat → Addr) : Sp := fun vs H Q _ => ∃ (T : Addr) (qs : List Addr) (nds : List Nd), vs = [.ref T] ∧ ObjsAt K cs H T qs nds ∧ WF LinkText PL nds ∧ nds.length ≤ 1000 ∧
  ∀ (D : Addr) (kvs : List (Key × V)) (H' : Hp), Same H H' → H' D = some (.dK kvs) → (∀ k : Nat, FolAt nds k → valV kvs (Sum.inl (k : Int)) = some (.bl true)) → Q (.ref D) H'
def foundLeft (D : Addr) (n : Nat) (H : Hp) : Nat := match H D with
  | some (.dK kvs) => n - kvs.length
  | _ => 0
theorem last_of {α : Type} {l : List α} (h : l ≠ []) : ∃ r x, l = r ++ [x] := by
  rcases List.eq_nil_or_concat l with e | ⟨r, x, e⟩
  · exact absurd e h
  · exact ⟨r, x, by rw [e, List.concat_eq_append]⟩
section
variable {P : Program} {w : World} {K : PySem.W.Frag} {mg : Str → Option Value} {base : Heap} {fNum fAt fDigit fPool fFound : Addr} {cs : Nat → Addr}
theorem scFound : FnScope ["nodes", "found", "waiting", "number", "inner", "_"] ["nodes"] (defScope sFound) := ⟨rfl, rfl, rfl, by decide +kernel, rfl, by decide +kernel, by decide +kernel⟩
theorem ok_found {fd : FuncData} (F : Fun K "found_folders" "found_folders" sFound fFound fd) (T : TxtK K mg fNum fAt fDigit fPool) (TG : TxtG K mg cs) : FnOk P w K mg base CX0 1 fFound fd ["nodes"] (spFound K cs) := by
  have nd := scFound.nd
  obtain ⟨tr, gr⟩ := TG.m_ROOT
  refine F.ok scFound (fun vs H Q E h => ?_) (fun cdv A outer s H vs Q E hr h => ?_)
  · obtain ⟨T, qs, nds, rfl, _⟩ := h
    rfl
  · obtain ⟨N, qs, nds, rfl, OB, W0, hn, k⟩ := h
    have hu := hu_of hr
    have hs : sizeLine = 16777216 := sizeLine_eq
    refine ⟨_, (pss_cons (ps_set (i := 1) nd rfl (Or.inl rfl) pe_dnewK)
  (pss_cons (ps_set (i := 2) nd rfl (Or.inl rfl) (pe_lst (pa_cons (pe_glob (v := .int 0) (by rfl) gr ⟨_, rfl⟩) pa_nil)))
  (pss_cons (ps_while PassesOwn.never (pt_truth (pv 2) (by intro _; rfl))
 (pss_cons (ps_set (i := 3) nd rfl (Or.inl rfl) (pe_bm0 PySem.F.plainAttrs_list PySem.F.slot_list_pop PySem.F.type_list_pop mt_pop (pv 2)))
  (pss_cons (ps_dput hu (pv 1) (pv 3) pe_bl rfl)
  (pss_one (ps_expr (pe_bm PySem.F.plainAttrs_list PySem.F.slot_list_extend PySem.F.type_list_extend mt_extend (pv 2) (pa_cons (pe_lc (own := [("_", 5), ("inner", 4)]) (g := gTup K 2 (gCons (gName 5) (gCons (gName 4) gNil))) (tt := tB (tCB (rIsi K) (tCons (tOp (rIxT K) (tVar 0) (tVar 4)) (tCons (tC (V.ref (cs 0))) tNil)))) rfl nd (pi_tup (pe_fld (pe_ix ix_tup (pv 0) (pv 3) (fun _ _ => rfl)) rfl)) (blkOk_by (N := ["nodes", "found", "waiting", "number", "inner", "_"]) (sc := defScope sFound) (by decide +kernel)) (fun _ _ _ _ _ => (pg_tup (by rfl) (pgs_cons (pg_name (i := 5) nd rfl (Or.inl rfl)) (pgs_cons (pg_name (i := 4) nd rfl (Or.inl rfl)) pgs_nil)))) (fun _ _ _ _ _ => pts_one (pt_val (pe_callB call_isi (by rfl) T.m_isinstance (by decide +kernel) (pa_cons (pe_ix ix_tup (pv 0) (pv 4) (fun _ _ => rfl)) (pa_cons (pe_glob (v := .ref (cs 0)) (by rfl) TG.m_Folder rfl) pa_nil))))) (fun _ _ _ _ _ => (pv 4))) pa_nil)))))))
  (pss_one (ps_ret (pv 1)))))), ?_⟩
    refine fun D hD => ⟨(by show 1 ≤ sizeLine; decide), fun Wt hW => ?_⟩
    have sD := NG.Same.upd (o := HO.dK []) hD
    have sW := NG.Same.upd (o := HO.lst [V.int 0]) hW
    have eD := sW _ _ (upd_same (H := H) (a := D) (o := HO.dK []))
    have eW : (upd (upd H D (HO.dK [])) Wt (HO.lst [V.int 0])) Wt = some (.lst [V.int 0]) := upd_same
    have fW : H Wt = none := by
      cases e : H Wt with
      | none => rfl
      | some x => have := sD _ _ e; rw [hW] at this; cases this
    have nDW : D ≠ Wt := ne_of_none (upd_same (H := H) (a := D) (o := HO.dK [])) hW
    have s1 := sD.trans sW
    generalize upd (upd H D (HO.dK [])) Wt (HO.lst [V.int 0]) = H1 at eD eW s1 ⊢
    unfold gName tSeq
    dsimp only

    refine while_by (fun σ H' => ∃ (Wl Fl : List Nat) (kvs : List (Key × V)) (v3 v4 v5 : Option V), σ = [some (.ref N), some (.ref D), some (.ref Wt), v3, v4, v5] ∧ Same H H' ∧ H' D = some (.dK kvs) ∧ H' Wt = some (.lst (Wl.map fun i => V.int (i : Nat))) ∧ Srch nds Wl Fl ∧ kvs.length = Fl.length ∧
        (∀ k : Nat, k ∈ Fl → valV kvs (Sum.inl (k : Int)) = some (.bl true)) ∧ (∀ k : Nat, k ∉ Fl → valV kvs (Sum.inl (k : Int)) = none)) (fun _ H' => foundLeft D nds.length H')
      ⟨[0], [], [], none, none, none, rfl, s1, eD, eW, srch0 W0, rfl, fun k h => (by cases h), fun k _ => rfl⟩ ?_ ?_
    · rintro σ H2 ⟨Wl, Fl, kvs, v3, v4, v5, rfl, s2, e1, e2, S, kl, k1, k2⟩
      refine ⟨_, rfl, !(Wl.map fun i => V.int (i : Nat)).isEmpty, .inl ⟨_, SqL.of e2, rfl⟩, ?_⟩
      rcases List.eq_nil_or_concat Wl with rfl | ⟨r, n, ew⟩
      · refine iteF ⟨_, rfl, ?_⟩
        exact k D kvs H2 s2 e1 fun j hj => k1 j (srch_end W0 S j hj)
      · rw [List.concat_eq_append] at ew
        subst ew
        have hne : (!((r ++ [n]).map fun i => V.int (i : Nat)).isEmpty) = true := by simp
        rw [hne]
        obtain ⟨o, es, hfo⟩ := S.fol n (by simp)
        have hnF : n ∉ Fl := fun q => by
          have := S.nd
          rw [List.nodup_append] at this
          exact this.2.2 n (by simp) n q rfl
        have hlen := srch_len S
        rw [List.length_append, List.length_append, List.length_singleton] at hlen
        have el : ((r ++ [n]).map fun i => V.int (i : Nat))[((r ++ [n]).map fun i => V.int (i : Nat)).length - 1]? = some (V.int (n : Nat)) := by
          rw [List.map_append, List.length_append, List.length_map]
          simp
        refine iteT ⟨_, rfl, .inl ⟨rfl, _, SqL.of e2⟩, Wt, _, _, rfl, rfl, e2, el, ?_⟩
        have ed : ((r ++ [n]).map fun i => V.int (i : Nat)).dropLast = r.map fun i => V.int (i : Nat) := by
          rw [List.map_append, List.map_cons, List.map_nil, List.dropLast_concat]
        rw [ed]
        have e3 : (upd H2 Wt (.lst (r.map fun i => V.int (i : Nat)))) Wt = some (.lst (r.map fun i => V.int (i : Nat))) := upd_same
        have e3D : (upd H2 Wt (.lst (r.map fun i => V.int (i : Nat)))) D = some (.dK kvs) := by rw [upd_ne nDW]; exact e1
        have s3 : Same H (upd H2 Wt (.lst (r.map fun i => V.int (i : Nat)))) := fun b x e => by rw [upd_ne (ne_of_none e fW)]; exact s2 _ _ e
        have l2 : foundLeft D nds.length H2 = nds.length - kvs.length := by unfold foundLeft; rw [e1]
        rw [l2]
        generalize upd H2 Wt (.lst (r.map fun i => V.int (i : Nat))) = H3 at e3 e3D s3
        refine ⟨_, rfl, _, rfl, D, _, rfl, DPut.k (k := Sum.inl (n : Int)) e3D (small1000 (by omega)), ?_⟩
        have pn := putK_new (.bl true) (k2 n hnF)
        have e4 : (upd H3 D (.dK (putK kvs (Sum.inl (n : Int)) (.bl true)))) D = some (.dK (putK kvs (Sum.inl (n : Int)) (.bl true))) := upd_same
        have e4W : (upd H3 D (.dK (putK kvs (Sum.inl (n : Int)) (.bl true)))) Wt = some (.lst (r.map fun i => V.int (i : Nat))) := by rw [upd_ne nDW.symm]; exact e3
        have s4 : Same H (upd H3 D (.dK (putK kvs (Sum.inl (n : Int)) (.bl true)))) := fun b x e => by rw [upd_ne (ne_of_none e hD)]; exact s3 _ _ e
        generalize upd H3 D (.dK (putK kvs (Sum.inl (n : Int)) (.bl true))) = H4 at e4 e4W s4
        have OB4 := OB.same s4
        have hnl : n < qs.length := by rw [OB.len]; exact (List.getElem?_eq_some_iff.mp hfo).1
        have hqn : qs[n]? = some qs[n] := List.getElem?_eq_getElem hnl
        generalize qs[n] = q at hqn
        obtain ⟨dx, Ea, ps, hq, hE, pl, pe⟩ := OB4.nds n q _ hqn hfo
        have hat : ∀ (i : Nat) (x : Addr), qs[i]? = some x → atI (qs.map V.ref) ((i : Nat) : Int) = some (.ref x) := fun i x h => atI_nat (by rw [List.getElem?_map, h]; rfl)
        refine ⟨_, rfl, .inl ⟨rfl, _, SqL.of e4W⟩, _, rfl, _, rfl, N, _, _, _, rfl, rfl, OB4.ls, hat n q hqn, q, cs 0, dx, _, _, rfl, hq, TG.cl 0 (by decide), TG.nE, (by unfold ffl; rw [lookup_putF, if_pos rfl]), Ea, rfl, ⟨_, hE.sqT⟩, fun D2 hD2 => ?_⟩
        have hes : es.length ≤ 12 := (W0.base.uniq n _ hfo).2
        refine lc_pair (K := K) (walk_tup (K := K) (a := Ea)) (i := 5) (j := 4) (by decide) (es.map fun e => (V.str e.1, V.int (e.2 : Nat))) (by rw [List.length_map, pl]) (fun v => match v.2 with | .int i => folB nds i.toNat | _ => false) (fun v => v.2) (fun i x v h1 h2 => ?_) (by omega) hD2 (fun H' s => Same.sqT s hE.sqT) (fun i v H' R h s hR => ?_) (fun i v H' R _ _ s hR => ⟨_, rfl, hR _ (Same.refl _)⟩) (fun H5 s5 e5 => ?_)
        · rw [List.getElem?_map] at h2
          cases e : es[i]? with
          | none => rw [e] at h2; cases h2
          | some en =>
            rw [e] at h2
            cases Option.some.inj h2
            obtain ⟨a, rfl, ha⟩ := pe i x en h1 e
            exact ⟨a, rfl, ha⟩
        · rw [List.getElem?_map] at h
          cases e : es[i]? with
          | none => rw [e] at h; cases h
          | some en =>
            rw [e] at h
            cases Option.some.inj h
            obtain ⟨_, _, nd', hnd, _⟩ := W0.base.ent n _ hfo en (List.mem_of_getElem? e)
            have hl' : en.2 < qs.length := by rw [OB.len]; exact (List.getElem?_eq_some_iff.mp hnd).1
            have hq' : qs[en.2]? = some qs[en.2] := List.getElem?_eq_getElem hl'
            have OB' := OB4.same s
            obtain ⟨dx', fs', hi', _⟩ := obj_ins (OB'.nds en.2 _ nd' hq' hnd)
            have ty := TG.ty (clsI nd') (clsI_lt nd')
            refine ⟨_, rfl, _, rfl, N, _, _, _, rfl, rfl, OB'.ls, hat en.2 _ hq', _, _, _, _, _, rfl, .own (cs 0), .base (.ins hi' (TG.cl _ (clsI_lt nd')) ty.c1 ty.c2 ty.c3 ty.c4), TG.kit _ 0 (clsI_lt nd') (by decide), _, rfl, ?_⟩
            have eb : decide (clsI nd' = 0) = folB nds en.2 := by
              rw [folB_at hnd]
              cases nd' <;> rfl
            rw [eb]
            exact hR _ (Same.refl _)
        · have ek : ((((es.map fun e => (V.str e.1, V.int (e.2 : Nat))).filter (fun v => match v.2 with | .int i => folB nds i.toNat | _ => false)).map fun v => v.2)) = (kids nds es).map fun i => V.int (i : Nat) := by
            unfold kids
            rw [List.filter_map, List.map_map, List.filter_map, List.map_map]
            rfl
          rw [ek] at e5
          have e5W := s5 _ _ e4W
          have e5D := s5 _ _ e4
          have S' := srch_step W0 S hfo
          have hl2 := srch_len S'
          rw [List.length_append, List.length_append, List.length_cons] at hl2
          refine ⟨Wt, D2, _, _, rfl, rfl, e5W, e5, by rw [List.length_map, List.length_map]; omega, ?_⟩
          refine ⟨⟨r ++ kids nds es, n :: Fl, putK kvs (Sum.inl (n : Int)) (.bl true), _, _, _, rfl, fun b x e => ?_, ?_, ?_, S', ?_, fun j hj => ?_, fun j hj => ?_⟩, ?_⟩
          · rw [upd_ne (ne_of_none e fW)]
            exact s5 _ _ (s4 _ _ e)
          · rw [upd_ne nDW]; exact e5D
          · rw [upd_same, List.map_append]
          · rw [pn, List.length_append, List.length_singleton, kl]; rfl
          · rw [valV_put]
            split
            · rfl
            · rename_i h
              rcases List.mem_cons.mp hj with rfl | hj
              · exact absurd rfl h
              · exact k1 j hj
          · rw [valV_put, if_neg]
            · exact k2 j fun q => hj (List.mem_cons_of_mem _ q)
            · intro q
              injection q with q
              have : j = n := by omega
              exact hj (this ▸ List.mem_cons_self)
          · show foundLeft D nds.length _ < _
            unfold foundLeft
            rw [upd_ne nDW, e5D]
            show nds.length - (putK kvs (Sum.inl (n : Int)) (.bl true)).length < nds.length - kvs.length
            rw [pn, List.length_append, List.length_singleton]
            omega
    · rintro σ H' Q1 Q2 hq ⟨x, rfl', b, tv, q⟩
      exact ⟨x, rfl', b, tv, hq _ _ q⟩
end
end NW

set_option maxRecDepth 100000
set_option maxHeartbeats 400000
namespace NW
open PySem L2 NG TR LamX
abbrev sBy : Stmt := top 28
abbrev sFolI : Stmt := inClass (top 23) 0
def qBy : Str := (Str.ofString "by_names" ++ Str.ofString ".<locals>.") ++ Str.ofString "<lambda>"
structure TxtS (K : PySem.W.Frag) (mg : Str → Option Value) (fBy : Addr) : Prop where
  m_all : mg "all" = none
  m_isinstance : mg "isinstance" = none
  m_str : mg "str" = none
  m_tuple : mg "tuple" = none
  m_sorted : mg "sorted" = none
  g_by : mg "by_names" = some (.ref fBy)
  kp_by : PySem.W.keepIn K (.ref fBy) = true
/-- pairs whose first item is a text -/
def PairsAt (K : PySem.W.Frag) (H : Hp) (bs : List (V × Str)) : Prop := ∀ b ∈ bs, ∃ t r, b.1 = .ref t ∧ SqT K H t [.str b.2, r]
theorem PairsAt.ext {K : PySem.W.Frag} {H H' : Hp} {bs : List (V × Str)} (h : PairsAt K H bs) (e : ExtN H H') : PairsAt K H' bs := fun b hb => let ⟨t, r, h1, h2⟩ := h b hb; ⟨t, r, h1, ExtN.sqT e h2⟩
def spBy (K : PySem.W.Frag) (P0 : Addr) : Sp := fun vs H Q _ => ∃ (L : Addr) (bs : List (V × Str)), vs = [.ref L] ∧ Tabs [(P0, qBy)] H ∧ SqL K H L (bs.map (·.1)) ∧ bs.length < sizeLine ∧ PairsAt K H bs ∧
  ∀ H' E, ExtN H H' → Tabs [(P0, qBy)] H' → PlT H' E ((bs.mergeSort leStr).map (·.1)) → Q (.ref E) H'
section
variable {P : Program} {w : World} {K : PySem.W.Frag} {mg : Str → Option Value} {base : Heap} {fBy c0 P0 : Addr}
theorem scBy : FnScope ["entries", "name", "_"] ["entries"] (defScope sBy) := ⟨rfl, rfl, rfl, by decide +kernel, rfl, by decide +kernel, by decide +kernel⟩
theorem ok_by {fd : FuncData} (F : Fun K "by_names" "by_names" sBy fBy fd) (hc : fd.code = .ref c0) (T : TxtS K mg fBy) (TB : TabB base mg c0 P0) : FnOk P w K mg base CX0 2 fBy fd ["entries"] (spBy K P0) := by
  have nd := scBy.nd
  refine fun_okC F hc scBy (fun vs H Q E h => ?_) (fun A outer s H vs Q E hr h => ?_)
  · obtain ⟨L, bs, rfl, _⟩ := h
    rfl
  · obtain ⟨L, bs, rfl, hT, hL, hl, hP, k⟩ := h
    refine ⟨_, (pss_cons (ps_if (pt_not (pt_val (pe_callB (cr_all rfl) (by rfl) T.m_all (by decide +kernel) (pa_cons (pe_lc (own := [("name", 1), ("_", 2)]) (g := gTup K 2 (gCons (gName 1) (gCons (gName 2) gNil))) (te := tCB (rIsi K) (tCons (tVar 1) (tCons (tC (V.ty "str")) tNil))) rfl nd (pi_list (pv 0)) (blkOk_by (N := ["entries", "name", "_"]) (sc := defScope sBy) (by decide +kernel)) (fun _ _ _ _ _ => (pg_tup (by rfl) (pgs_cons (pg_name (i := 1) nd rfl (Or.inl rfl)) (pgs_cons (pg_name (i := 2) nd rfl (Or.inl rfl)) pgs_nil)))) (fun _ _ _ _ _ => pts_nil) (fun _ _ _ _ _ => (pe_callB call_isi (by rfl) T.m_isinstance (by decide +kernel) (pa_cons (pv 1) (pa_cons (pe_bltn (v := .ty "str") (by rfl) T.m_str (by decide +kernel) rfl) pa_nil))))) pa_nil)))) (pss_one (ps_ret (pe_callTy call_tuple_of (by rfl) T.m_tuple (by decide +kernel) (pa_cons (pv 0) pa_nil)))) pss_nil)
  (pss_one (ps_ret (pe_callTy call_tuple_ofP (by rfl) T.m_tuple (by decide +kernel) (pa_cons (pe_sortBy (T := [(P0, qBy)]) (q := qBy) (pv 0) (hu64 hr) (hd8 hr) (by rfl) T.m_sorted TB rfl rfl (by simp) (by simp) rfl rfl (by decide) (by intros; rfl)) pa_nil))))), ?_⟩
    refine ⟨_, rfl, L, rfl, ⟨_, hL⟩, fun D hD => ?_⟩
    have hf : ∀ b : V × Str, ∃ r, b ∈ bs → ∃ t, b.1 = .ref t ∧ SqT K H t [.str b.2, r] := fun b => by
      by_cases hb : b ∈ bs
      · obtain ⟨t, r, h1, h2⟩ := hP b hb
        exact ⟨r, fun _ => ⟨t, h1, h2⟩⟩
      · exact ⟨.non, fun q => absurd q hb⟩
    obtain ⟨f, hf⟩ := Classical.skolem.mp hf
    refine lc_pair (K := K) (walk_list (K := K) (a := L)) (i := 1) (j := 2) (by decide) (bs.map fun b => (V.str b.2, f b)) (by rw [List.length_map, List.length_map]) (fun _ => true) (fun _ => V.bl true) (fun i x v h1 h2 => ?_) (by rw [List.length_map]; exact hl) hD (fun H' s => Same.seq s hL) (fun i v H' R _ s hR => hR _ (Same.refl _)) (fun i v H' R h _ s hR => ?_) (fun H1 s1 e1 => ?_)
    · rw [List.getElem?_map] at h1 h2
      cases e : bs[i]? with
      | none => rw [e] at h2; cases h2
      | some b =>
        rw [e] at h1 h2
        cases Option.some.inj h1
        cases Option.some.inj h2
        exact hf b (List.mem_of_getElem? e)
    · rw [List.getElem?_map] at h
      cases e : bs[i]? with
      | none => rw [e] at h; cases h
      | some b =>
        rw [e] at h
        cases Option.some.inj h
        exact ⟨_, rfl, _, _, _, _, true, rfl, .ty _, .base (.str b.2), rfl, hR _ (Same.refl _)⟩
    · have e2 : ((bs.map fun b => (V.str b.2, f b)).filter (fun _ => true)).map (fun _ => V.bl true) = (bs.map fun _ => true).map V.bl := by
        rw [List.filter_eq_self.mpr (fun _ _ => rfl), List.map_map, List.map_map]
        rfl
      rw [e2] at e1
      have hall : (bs.map fun _ => true).all id = true := by rw [List.all_map, List.all_eq_true]; exact fun _ _ => rfl
      refine ⟨D, bs.map fun _ => true, rfl, SqL.of e1, _, rfl, ?_⟩
      rw [hall]
      refine iteF ?_
      refine ⟨L, rfl, bs, hT.ext s1, Same.seq s1 hL, fun b hb => (hP.ext (ExtN.same s1)) b hb |>.imp fun t h => h.imp' (fun r => [r]) fun r h => h, fun p H2 e2 t2 hp => ⟨p, _, rfl, SqL.of hp, fun E o hE ho hoc => ?_⟩⟩
      exact k _ E ((ExtN.same s1).trans (e2.trans (extN_laid hE))) (tabs_laid t2 hE) ⟨o, upd_same, ho, hoc⟩
/-! ### folders are made -/
def ffV (o : V) (E : Addr) : List (Str × V) := putF "entries" (.ref E) (putF "owner" o [])
/-- entries come as tuples or lists of two -/
def EntsIn (K : PySem.W.Frag) (H : Hp) (xs : List V) (es : List (Str × V)) : Prop := xs.length = es.length ∧ ∀ (i : Nat) (x : V) (e : Str × V), xs[i]? = some x → es[i]? = some e → ∃ a, x = .ref a ∧ (SqT K H a [.str e.1, e.2] ∨ SqL K H a [.str e.1, e.2])
end
end NW

set_option maxRecDepth 100000
set_option maxHeartbeats 400000
namespace NW
open PySem L2 NG TR LamX
/-- entries by ascending names, equal ones in their order -/
def leE {α : Type} (x y : Str × α) : Bool := decide (x.1.cps.toList ≤ y.1.cps.toList)
def srtE {α : Type} (es : List (Str × α)) : List (Str × α) := es.mergeSort leE
theorem srt_map {α β : Type} (f : α → β) (es : List (Str × α)) : srtE (es.map fun e => (e.1, f e.2)) = (srtE es).map fun e => (e.1, f e.2) :=
  (List.map_mergeSort (r := leE) (s := leE) (f := fun e : Str × α => (e.1, f e.2)) (fun _ _ _ _ => rfl)).symm
theorem srt_zip {α : Type} {ys : List V} {es : List (Str × α)} (hl : ys.length = es.length) : ∃ zs : List (V × (Str × α)), (∀ z ∈ zs, ∃ i : Nat, ys[i]? = some z.1 ∧ es[i]? = some z.2) ∧ zs.map (·.2) = srtE es ∧
    (((ys.zip es).map fun z => (z.1, z.2.1)).mergeSort leStr).map (·.1) = zs.map (·.1) ∧ ((ys.zip es).map fun z => (z.1, z.2.1)).map (·.1) = ys := by
  refine ⟨(ys.zip es).mergeSort fun a b => leE a.2 b.2, fun z hz => ?_, ?_, ?_, ?_⟩
  · have hm : z ∈ ys.zip es := (List.mergeSort_perm _ _).mem_iff.mp hz
    obtain ⟨i, hi⟩ := List.getElem?_of_mem hm
    rw [List.getElem?_zip_eq_some] at hi
    exact ⟨i, hi⟩
  · rw [List.map_mergeSort (s := leE) (fun _ _ _ _ => rfl), List.map_snd_zip (by omega)]
    rfl
  · rw [← List.map_mergeSort (r := fun a b => leE a.2 b.2) (fun _ _ _ _ => rfl), List.map_map]
    rfl
  · rw [List.map_map]
    show (ys.zip es).map (fun z => z.1) = ys
    exact List.map_fst_zip (by omega)
/-- all but p and the tables -/
def ButN (p : Addr) (H H' : Hp) : Prop := ∀ b o, H b = some o → b ≠ p → (∀ ps, o ≠ .tbl ps) → H' b = some o
/-- what tuple(..) asks -/
def rTupOf (K : PySem.W.Frag) : List V → Hp → VK → Prop := fun vs H Q => ∃ (p : Addr) (ys : List V), vs = [.ref p] ∧ ((SqL K H p ys ∧ ∀ l, H l = none → Q (.ref l) (upd H l (.tup ys))) ∨ SqT K H p ys ∧ Q (.ref p) H)
def spFol (K : PySem.W.Frag) (C P0 : Addr) : Sp := fun vs H Q _ => ∃ (p dx : Addr) (o : V) (L : Addr) (xs : List V) (es : List (Str × V)), vs = [.ref p, o, .ref L] ∧ H p = some (.ins C dx []) ∧ Tabs [(P0, qBy)] H ∧ SqL K H L xs ∧ EntsIn K H xs es ∧ es.length < sizeLine ∧
  ∀ (H' : Hp) (E : Addr) (qs : List V), ButN p H H' → Tabs [(P0, qBy)] H' → H' p = some (.ins C dx (ffV o E)) → PlT H' E qs → qs.length = es.length → (∀ (i : Nat) (q : V) (e : Str × V), qs[i]? = some q → (srtE es)[i]? = some e → ∃ a, q = .ref a ∧ SqT K H' a [.str e.1, e.2]) → Q .non H'
section
variable {P : Program} {w : World} {K : PySem.W.Frag} {mg : Str → Option Value} {base : Heap} {C f fBy P0 : Addr}
theorem scFolI : FnScope ["self", "owner", "entries", "entry"] ["self", "owner", "entries"] (defScope sFolI) := ⟨rfl, rfl, rfl, by decide +kernel, rfl, by decide +kernel, by decide +kernel⟩
theorem ok_folI {fd fdB : FuncData} (F : Fun K "__init__" "Folder.__init__" sFolI f fd) (T : TxtS K mg fBy) (cl : Cls K C) (h1 : NoAttr K C "owner") (h2 : NoAttr K C "entries") (GB : FnOk P w K mg base CX0 2 fBy fdB ["entries"] (spBy K P0)) (bB : Binds K fdB ["entries"] []) :
    FnOk P w K mg base CX0 3 f fd ["self", "owner", "entries"] (spFol K C P0) := by
  have nd := scFolI.nd
  refine F.ok scFolI (fun vs H Q E h => ?_) (fun cdv A outer s H vs Q E hr h => ?_)
  · obtain ⟨p, dx, o, L, xs, es, rfl, _⟩ := h
    rfl
  · obtain ⟨p, dx, o, L, xs, es, rfl, hp, hT, hL, hE, hl, k⟩ := h
    have hr1 : Room 2 _ := hr
    refine ⟨_, (pss_cons (ps_fld (pv 0) (pv 1) rfl)
  (pss_one (ps_fld (pv 0) (pe_call GB hr1 (by rfl) T.g_by T.kp_by bB .nil pass0 (pa_cons (pe_lc (own := [("entry", 3)]) (te := tCB (rTupOf K) (tCons (tVar 3) tNil)) rfl nd (pi_list (pv 2)) (blkOk_by (N := ["self", "owner", "entries", "entry"]) (sc := defScope sFolI) (by decide +kernel)) (fun _ _ _ _ _ => (pg_name (i := 3) nd rfl (Or.inl rfl))) (fun _ _ _ _ _ => pts_nil) (fun _ _ _ _ _ => (pe_callTy call_tuple_of (by rfl) T.m_tuple (by decide +kernel) (pa_cons (pv 3) pa_nil)))) pa_nil)) rfl))), ?_⟩
    refine ⟨_, rfl, _, rfl, p, C, dx, _, rfl, hp, cl, h1, (by show 0 < 1000; decide), ?_⟩
    have n1 : ∀ u : HO, (∀ C dx fs, u ≠ .ins C dx fs) → ∀ b, H b = some u → b ≠ p := fun u hu b e => ne_of e hp (hu C dx [])
    have eB : ButN p H (upd H p (.ins C dx (putF "owner" o []))) := fun b u e n _ => by rw [upd_ne n]; exact e
    have bT : But p H (upd H p (.ins C dx (putF "owner" o []))) := (But.refl p H).upd
    have hL1 : SqL K (upd H p (.ins C dx (putF "owner" o []))) L xs := by
      rcases hL with (h | ⟨u, h⟩) | h
      · exact .inl (.inl (by rw [upd_ne (n1 _ (fun _ _ _ z => by cases z) _ h)]; exact h))
      · exact .inl (.inr ⟨u, by rw [upd_ne (n1 _ (fun _ _ _ z => by cases z) _ h)]; exact h⟩)
      · exact .inr h
    have hE1 : EntsIn K (upd H p (.ins C dx (putF "owner" o []))) xs es := ⟨hE.1, fun i x e a b => by
      obtain ⟨t, h1, h2⟩ := hE.2 i x e a b
      refine ⟨t, h1, h2.imp (fun h2 => But.sqT hp bT h2) fun h2 => ?_⟩
      rcases h2 with (h | ⟨u, h⟩) | h
      · exact .inl (.inl (bT _ _ h (n1 _ (fun _ _ _ z => by cases z) _ h)))
      · exact .inl (.inr ⟨u, bT _ _ h (n1 _ (fun _ _ _ z => by cases z) _ h)⟩)
      · exact .inr h⟩
    have hT1 : Tabs [(P0, qBy)] (upd H p (.ins C dx (putF "owner" o []))) := fun t ht => by
      obtain ⟨ps, a1, a2, a3⟩ := hT t ht
      refine ⟨ps, by rw [upd_ne (ne_of a1 hp (fun z => by cases z))]; exact a1, a2, fun pos cv hc => ?_⟩
      obtain ⟨c, e1, e2⟩ := a3 pos cv hc
      exact ⟨c, e1, by rw [upd_ne (ne_of e2 hp (fun z => by unfold CodeO at z; cases z))]; exact e2⟩
    have hp1 : (upd H p (.ins C dx (putF "owner" o []))) p = some (.ins C dx (putF "owner" o [])) := upd_same
    generalize upd H p (.ins C dx (putF "owner" o [])) = H1 at eB hL1 hE1 hT1 hp1 ⊢
    refine ⟨_, rfl, L, rfl, ⟨_, hL1⟩, fun D hD => ?_⟩
    refine lc_rel (walk_list (K := K) (a := L)) (R := fun H' => Same H1 H') (S := Same) (Px := fun i y H' => ∃ e a, es[i]? = some e ∧ y = .ref a ∧ SqT K H' a [.str e.1, e.2]) (by rw [hE1.1]; exact hl) (NG.Same.upd hD) (fun H' s => Same.seq s hL1) (fun _ _ a b => a.trans b) (fun _ _ _ _ s e => s _ _ e)
      (fun i y _ _ s ⟨e, a, h1, h2, h3⟩ => ⟨e, a, h1, h2, Same.sqT s h3⟩) (fun H' acc y s e b u hb => ?_) (fun i y H' acc acc' eD ⟨e, a, h1, h2, h3⟩ => ⟨e, a, h1, h2, ?_⟩) (fun i x H' Rk hx s hR => ?_) (fun H2 ys s2 e2 hy hys => ?_)
    · rw [upd_ne (ne_of_none hb hD)]
      exact s _ _ hb
    · rcases h3 with (h | ⟨u, h⟩) | h
      · exact .inl (.inl (by rw [upd_ne (ne_of h eD (fun z => by cases z))]; exact h))
      · exact .inl (.inr ⟨u, by rw [upd_ne (ne_of h eD (fun z => by cases z))]; exact h⟩)
      · exact .inr h
    · have hi : i < es.length := by rw [← hE1.1]; exact (List.getElem?_eq_some_iff.mp hx).1
      have he : es[i]? = some es[i] := List.getElem?_eq_getElem hi
      obtain ⟨a, rfl, h⟩ := hE1.2 i x _ hx he
      rcases h with h | h
      · exact ⟨_, rfl, a, _, rfl, .inr ⟨Same.sqT s h, hR _ _ (Same.refl _) ⟨_, a, he, rfl, Same.sqT s h⟩⟩⟩
      · exact ⟨_, rfl, a, _, rfl, .inl ⟨Same.seq s h, fun l hl => hR _ _ (NG.Same.upd hl) ⟨_, l, he, rfl, SqT.of upd_same⟩⟩⟩
    · rw [hE1.1] at hy
      obtain ⟨zs, z1, z2, z3, z4⟩ := srt_zip hy
      refine ⟨D, (ys.zip es).map fun z => (z.1, z.2.1), rfl, hT1.ext s2, ?_, ?_, ?_, fun H3 E e3 t3 hE3 => ?_⟩
      · rw [z4]; exact SqL.of e2
      · rw [List.length_map, List.length_zip]; omega
      · intro b hb
        obtain ⟨z, hz, rfl⟩ := List.mem_map.mp hb
        obtain ⟨i, hi⟩ := List.getElem?_of_mem hz
        rw [List.getElem?_zip_eq_some] at hi
        obtain ⟨e, a, h1, h2, h3⟩ := hys i _ hi.1
        rw [hi.2] at h1
        cases Option.some.inj h1
        exact ⟨a, _, h2, h3⟩
      · rw [z3] at hE3
        have hp3 : H3 p = some (.ins C dx (putF "owner" o [])) := e3 _ _ (s2 _ _ hp1) (fun _ z => by cases z)
        refine ⟨_, rfl, p, C, dx, _, rfl, hp3, cl, h2, (by show 1 < 1000; decide), ?_⟩
        have nE : E ≠ p := let ⟨_, e, _⟩ := hE3; ne_of e hp3 (fun z => by cases z)
        have t4 : Tabs [(P0, qBy)] (upd H3 p (.ins C dx (ffV o E))) := fun t ht => by
          obtain ⟨ps, a1, a2, a3⟩ := t3 t ht
          refine ⟨ps, by rw [upd_ne (ne_of a1 hp3 (fun z => by cases z))]; exact a1, a2, fun pos cv hc => ?_⟩
          obtain ⟨c, e1, e2⟩ := a3 pos cv hc
          exact ⟨c, e1, by rw [upd_ne (ne_of e2 hp3 (fun z => by unfold CodeO at z; cases z))]; exact e2⟩
        refine k _ E (zs.map (·.1)) (fun b u e n q => ?_) t4 upd_same (hE3.keep fun o e => by rw [upd_ne nE]; exact e) ?_ (fun i q e hq he => ?_)
        · rw [upd_ne n]
          exact e3 _ _ (s2 _ _ (eB b u e n q)) q
        · have := congrArg List.length z2
          rw [List.length_map] at this
          rw [List.length_map, this]
          unfold srtE
          rw [List.length_mergeSort]
        · rw [← z2, List.getElem?_map] at he
          rw [List.getElem?_map] at hq
          cases ez : zs[i]? with
          | none => rw [ez] at hq; cases hq
          | some z =>
            rw [ez] at hq he
            cases Option.some.inj hq
            cases Option.some.inj he
            obtain ⟨j, j1, j2⟩ := z1 z (List.mem_of_getElem? ez)
            obtain ⟨e', a, h1, h2, h3⟩ := hys j _ j1
            rw [j2] at h1
            cases Option.some.inj h1
            refine ⟨a, h2, ?_⟩
            have h4 := ExtN.sqT e3 h3
            rcases h4 with (h | ⟨u, h⟩) | h
            · exact .inl (.inl (by rw [upd_ne (ne_of h hp3 (fun z => by cases z))]; exact h))
            · exact .inl (.inr ⟨u, by rw [upd_ne (ne_of h hp3 (fun z => by cases z))]; exact h⟩)
            · exact .inr h
end
end NW

set_option maxRecDepth 100000
set_option maxHeartbeats 400000
namespace NW
open PySem L2 NG TR LamX
abbrev sMade : Stmt := top 61
def srtN : Nd → Nd
  | .fol o es => .fol o (srtE es)
  | nd => nd
theorem putF_ffl (o : Int) (E : Addr) : ffl o E = ffV (.int o) E := rfl
/-- the makers of the four classes -/
structure Makers (K : PySem.W.Frag) (cs fs : Nat → Addr) : Prop where
  make : ∀ i, i < 4 → Mk K (cs i) (fs i)
def spMade (K : PySem.W.Frag) (cs : Nat → Addr) (P0 : Addr) : Sp := fun vs H Q _ => ∃ (t L : Addr) (nd : Nd), vs = [.ref t] ∧ NdAt H (t, L) nd ∧ nd.ents.length < 1000 ∧ Tabs [(P0, qBy)] H ∧
  ∀ (H' : Hp) (q : Addr), ExtN H H' → Tabs [(P0, qBy)] H' → ObjAt K cs H' q (srtN nd) → Q (.ref q) H'
theorem new_ext {H : Hp} {x dx C : Addr} (hx : H x = none) (hd : H dx = none) : Same H (upd (upd H dx (.own x)) x (.ins C dx [])) := fun b o e => by
  rw [upd_ne (ne_of_none e hx), upd_ne (ne_of_none e hd)]
  exact e
section
variable {P : Program} {w : World} {K : PySem.W.Frag} {mg : Str → Option Value} {base : Heap} {f P0 : Addr} {cs fs : Nat → Addr}
theorem scMade : FnScope ["_law_node"] ["_law_node"] (defScope sMade) := ⟨rfl, rfl, rfl, by decide +kernel, rfl, by decide +kernel, by decide +kernel⟩
theorem ok_made {fd fd0 fd1 fd2 fd3 : FuncData} (F : Fun K "_law_made" "_law_made" sMade f fd) (TG : TxtG K mg cs) (M : Makers K cs fs)
    (G0 : FnOk P w K mg base CX0 3 (fs 0) fd0 ["self", "owner", "entries"] (spFol K (cs 0) P0)) (b0 : Binds K fd0 ["self", "owner", "entries"] [])
    (G1 : FnOk P w K mg base CX0 1 (fs 1) fd1 ["self", "owner"] (spFile K (cs 1))) (b1 : Binds K fd1 ["self", "owner"] [])
    (G2 : FnOk P w K mg base CX0 1 (fs 2) fd2 ["self", "owner", "text"] (spTwo K (cs 2) "owner" "text")) (b2 : Binds K fd2 ["self", "owner", "text"] [])
    (G3 : FnOk P w K mg base CX0 1 (fs 3) fd3 ["self", "owner", "above"] (spTwo K (cs 3) "owner" "above")) (b3 : Binds K fd3 ["self", "owner", "above"] []) :
    FnOk P w K mg base CX0 5 f fd ["_law_node"] (spMade K cs P0) := by
  have nd := scMade.nd
  refine F.ok scMade (fun vs H Q E h => ?_) (fun cdv A outer s H vs Q E hr h => ?_)
  · obtain ⟨t, L, x, rfl, _⟩ := h
    rfl
  · obtain ⟨t, L, x, rfl, hx, hl, hT, k⟩ := h
    have hr0 : Room 4 _ := hr
    have hr1 : Room 2 _ := hr.mono (by decide)
    have hr2 : Room 2 _ := hr.mono (by decide)
    have hr3 : Room 2 _ := hr.mono (by decide)
    have M0 := M.make 0 (by decide)
    have M1 := M.make 1 (by decide)
    have M2 := M.make 2 (by decide)
    have M3 := M.make 3 (by decide)
    refine ⟨_, (pss_cons (ps_if (pt_cmpR op_eq (pe_ix ix_tup (pv 0) pe_int (fun _ _ => rfl)) pe_str (nomark _)) (pss_one (ps_ret (pe_make M0 G0 hr0 (by rfl) TG.m_Folder b0 .nil pass0 (pa_cons (pe_ix ix_tup (pv 0) pe_int (fun _ _ => rfl)) (pa_cons (pe_ix ix_tup (pv 0) pe_int (fun _ _ => rfl)) pa_nil))))) pss_nil)
  (pss_cons (ps_if (pt_cmpR op_eq (pe_ix ix_tup (pv 0) pe_int (fun _ _ => rfl)) pe_str (nomark _)) (pss_one (ps_ret (pe_make M1 G1 hr1 (by rfl) TG.m_File b1 .nil pass0 (pa_cons (pe_ix ix_tup (pv 0) pe_int (fun _ _ => rfl)) pa_nil)))) pss_nil)
  (pss_one (ps_ret (pe_ifExp (pt_cmpR op_eq (pe_ix ix_tup (pv 0) pe_int (fun _ _ => rfl)) pe_str (nomark _)) (pe_make M2 G2 hr2 (by rfl) TG.m_Link b2 .nil pass0 (pa_cons (pe_ix ix_tup (pv 0) pe_int (fun _ _ => rfl)) (pa_cons (pe_ix ix_tup (pv 0) pe_int (fun _ _ => rfl)) pa_nil))) (pe_make M3 G3 hr3 (by rfl) TG.m_Gone b3 .nil pass0 (pa_cons (pe_ix ix_tup (pv 0) pe_int (fun _ _ => rfl)) (pa_cons (pe_ix ix_tup (pv 0) pe_int (fun _ _ => rfl)) pa_nil)))))))), ?_⟩
    cases x with
    | fol o es =>
      obtain ⟨et, qs, eL, ql, qe⟩ := hx
      have hS := SqT.of (K := K) et
      refine ⟨_, rfl, t, _, 0, _, rfl, rfl, hS, rfl, rfl, _, rfl, ?_⟩
      rw [decide_eq_true (rfl : V.str "folder" = V.str "folder")]
      refine iteT ⟨_, rfl, t, _, 1, _, rfl, rfl, hS, rfl, _, rfl, t, _, 2, _, rfl, rfl, hS, rfl, fun x dx nx ndx nex => ?_⟩
      have s1 := new_ext (C := cs 0) nx ndx
      have hx1 : (upd (upd H dx (.own x)) x (.ins (cs 0) dx [])) x = some (.ins (cs 0) dx []) := upd_same
      generalize upd (upd H dx (.own x)) x (.ins (cs 0) dx []) = H1 at s1 hx1 ⊢
      refine ⟨x, dx, .int o, L, qs, es.map fun e => (e.1, V.int (e.2 : Nat)), rfl, hx1, hT.ext s1, SqL.of (s1 _ _ eL), ⟨by rw [List.length_map, ql], fun i q e hq he => ?_⟩, by rw [List.length_map]; exact small1000 (Nat.le_of_lt hl), fun H2 E qs2 e2 t2 hx2 hE2 l2 p2 => ⟨rfl, k H2 x (fun b u e n => e2 b u (s1 _ _ e) (ne_of_none e nx) n) t2 ⟨dx, E, qs2, hx2, hE2, ?_, fun i q e hq he => ?_⟩⟩⟩
      · rw [List.getElem?_map] at he
        cases ee : es[i]? with
        | none => rw [ee] at he; cases he
        | some e0 =>
          rw [ee] at he
          cases Option.some.inj he
          obtain ⟨a, h1, h2⟩ := qe i q e0 hq ee
          exact ⟨a, h1, .inl (SqT.of (s1 _ _ h2))⟩
      · rw [l2, List.length_map]
        exact (List.length_mergeSort es).symm
      · have := p2 i q (e.1, V.int (e.2 : Nat)) hq (by rw [srt_map (fun n : Nat => V.int (n : Nat)) es, List.getElem?_map, he]; rfl)
        exact this
    | fil o =>
      have hS := SqT.of (K := K) hx
      refine ⟨_, rfl, t, _, 0, _, rfl, rfl, hS, rfl, rfl, _, rfl, ?_⟩
      rw [show decide (V.str "file" = V.str "folder") = false from by decide +kernel]
      refine iteF ⟨_, rfl, t, _, 0, _, rfl, rfl, hS, rfl, rfl, _, rfl, ?_⟩
      rw [decide_eq_true (rfl : V.str "file" = V.str "file")]
      refine iteT ⟨_, rfl, t, _, 1, _, rfl, rfl, hS, rfl, fun x dx nx ndx nex => ?_⟩
      have s1 := new_ext (C := cs 1) nx ndx
      have hx1 : (upd (upd H dx (.own x)) x (.ins (cs 1) dx [])) x = some (.ins (cs 1) dx []) := upd_same
      refine ⟨x, dx, .int o, rfl, hx1, rfl, k _ x (fun b u e n => ?_) ?_ ⟨dx, upd_same⟩⟩
      · rw [upd_ne (ne_of_none e nx)]; exact s1 _ _ e
      · exact hT.ext fun b u e => by rw [upd_ne (ne_of_none e nx)]; exact s1 _ _ e
    | lnk o z =>
      have hS := SqT.of (K := K) hx
      refine ⟨_, rfl, t, _, 0, _, rfl, rfl, hS, rfl, rfl, _, rfl, ?_⟩
      rw [show decide (V.str "link" = V.str "folder") = false from by decide +kernel]
      refine iteF ⟨_, rfl, t, _, 0, _, rfl, rfl, hS, rfl, rfl, _, rfl, ?_⟩
      rw [show decide (V.str "link" = V.str "file") = false from by decide +kernel]
      refine iteF ⟨_, rfl, t, _, 0, _, rfl, rfl, hS, rfl, rfl, _, rfl, ?_⟩
      rw [decide_eq_true (rfl : V.str "link" = V.str "link")]
      refine iteT ⟨_, rfl, t, _, 1, _, rfl, rfl, hS, rfl, _, rfl, t, _, 2, _, rfl, rfl, hS, rfl, fun x dx nx ndx nex => ?_⟩
      have s1 := new_ext (C := cs 2) nx ndx
      have hx1 : (upd (upd H dx (.own x)) x (.ins (cs 2) dx [])) x = some (.ins (cs 2) dx []) := upd_same
      refine ⟨x, dx, .int o, .str z, rfl, hx1, rfl, k _ x (fun b u e n => ?_) ?_ ⟨dx, upd_same⟩⟩
      · rw [upd_ne (ne_of_none e nx), upd_ne (ne_of_none e nx)]; exact s1 _ _ e
      · exact hT.ext fun b u e => by rw [upd_ne (ne_of_none e nx), upd_ne (ne_of_none e nx)]; exact s1 _ _ e
    | gon o ab =>
      have hS := SqT.of (K := K) hx
      refine ⟨_, rfl, t, _, 0, _, rfl, rfl, hS, rfl, rfl, _, rfl, ?_⟩
      rw [show decide (V.str "gone" = V.str "folder") = false from by decide +kernel]
      refine iteF ⟨_, rfl, t, _, 0, _, rfl, rfl, hS, rfl, rfl, _, rfl, ?_⟩
      rw [show decide (V.str "gone" = V.str "file") = false from by decide +kernel]
      refine iteF ⟨_, rfl, t, _, 0, _, rfl, rfl, hS, rfl, rfl, _, rfl, ?_⟩
      rw [show decide (V.str "gone" = V.str "link") = false from by decide +kernel]
      refine iteF ⟨_, rfl, t, _, 1, _, rfl, rfl, hS, rfl, _, rfl, t, _, 2, _, rfl, rfl, hS, rfl, fun x dx nx ndx nex => ?_⟩
      have s1 := new_ext (C := cs 3) nx ndx
      have hx1 : (upd (upd H dx (.own x)) x (.ins (cs 3) dx [])) x = some (.ins (cs 3) dx []) := upd_same
      refine ⟨x, dx, .int o, .int (ab : Nat), rfl, hx1, rfl, k _ x (fun b u e n => ?_) ?_ ⟨dx, upd_same⟩⟩
      · rw [upd_ne (ne_of_none e nx), upd_ne (ne_of_none e nx)]; exact s1 _ _ e
      · exact hT.ext fun b u e => by rw [upd_ne (ne_of_none e nx), upd_ne (ne_of_none e nx)]; exact s1 _ _ e
end
end NW

set_option maxRecDepth 100000
set_option maxHeartbeats 400000
namespace NW
open PySem L2 NG TR LamX
/-! ### made trees are well formed as the drawn ones are -/
theorem srt_perm {α : Type} (es : List (Str × α)) : (srtE es).Perm es := List.mergeSort_perm _ _
theorem srtN_owner (nd : Nd) : (srtN nd).owner = nd.owner := by cases nd <;> rfl
theorem srtN_gone (nd : Nd) : (srtN nd).isGone = nd.isGone := by cases nd <;> rfl
theorem srtN_fol (nd : Nd) : (srtN nd).isFol = nd.isFol := by cases nd <;> rfl
theorem srtN_ents (nd : Nd) : (srtN nd).ents = srtE nd.ents := by
  have e : ([] : List (Str × Nat)) = srtE [] := by simp [srtE]
  cases nd with
  | fol o es => rfl
  | _ => exact e
theorem srtN_cls (nd : Nd) : clsI (srtN nd) = clsI nd := by cases nd <;> rfl
theorem get_srt {nds : List Nd} {i : Nat} {x : Nd} (h : (nds.map srtN)[i]? = some x) : ∃ nd, nds[i]? = some nd ∧ x = srtN nd := by
  rw [List.getElem?_map] at h
  cases e : nds[i]? with
  | none => rw [e] at h; cases h
  | some nd => rw [e] at h; exact ⟨nd, rfl, (Option.some.inj h).symm⟩
theorem srt_get {nds : List Nd} {i : Nat} {nd : Nd} (h : nds[i]? = some nd) : (nds.map srtN)[i]? = some (srtN nd) := by rw [List.getElem?_map, h]; rfl
theorem cnt_srt (nds : List Nd) (k : Nat) : cnt (nds.map srtN) k = cnt nds k := by
  induction nds with
  | nil => rfl
  | cons x r ih =>
    rw [List.map_cons, cnt_cons, cnt_cons, ih, srtN_ents]
    congr 1
    unfold cntE
    exact (srt_perm _).countP_eq _
theorem wf_srt {LT PL : Str → Prop} {nds : List Nd} (b : WF LT PL nds) : WF LT PL (nds.map srtN) := by
  refine ⟨⟨?_, fun i x h => ?_, fun i x h e he => ?_, fun i x h => ?_, fun i o t h => ?_, fun i o ab h => ?_⟩, fun k x hk h f => ?_⟩
  · obtain ⟨o, es, h⟩ := b.base.root
    exact ⟨o, srtE es, srt_get h⟩
  · obtain ⟨nd, h1, rfl⟩ := get_srt h
    rw [srtN_owner]
    exact b.base.own i nd h1
  · obtain ⟨nd, h1, rfl⟩ := get_srt h
    rw [srtN_ents] at he
    obtain ⟨h2, h3, nd', h4, h5⟩ := b.base.ent i nd h1 e ((srt_perm _).mem_iff.mp he)
    exact ⟨h2, h3, srtN nd', srt_get h4, by rw [srtN_gone]; exact h5⟩
  · obtain ⟨nd, h1, rfl⟩ := get_srt h
    have := b.base.uniq i nd h1
    rw [srtN_ents]
    exact ⟨((srt_perm nd.ents).map (fun e : Str × Nat => e.1)).nodup_iff.mpr this.1, by rw [(srt_perm _).length_eq]; exact this.2⟩
  · obtain ⟨nd, h1, e⟩ := get_srt h
    cases nd with
    | lnk o' t' => cases e; exact b.base.lnk i _ _ h1
    | _ => cases e
  · obtain ⟨nd, h1, e⟩ := get_srt h
    cases nd with
    | gon o' ab' =>
      cases e
      obtain ⟨h2, o2, es, h3⟩ := b.base.gon i _ _ h1
      exact ⟨h2, o2, srtE es, srt_get h3⟩
    | _ => cases e
  · obtain ⟨nd, h1, rfl⟩ := get_srt h
    rw [cnt_srt]
    exact b.once k nd hk h1 (by rw [← srtN_fol]; exact f)
end NW

set_option maxRecDepth 100000
set_option maxHeartbeats 400000
namespace NW
open PySem L2 NG TR LamX
abbrev sWE : Stmt := top 31
structure TxtW (K : PySem.W.Frag) (mg : Str → Option Value) (fMay fWE fStood fBad fOwner fWN : Addr) : Prop where
  m_set : mg "set" = none
  g_may : mg "may_be_entered" = some (.ref fMay)
  kp_may : PySem.W.keepIn K (.ref fMay) = true
  g_we : mg "wrong_entries" = some (.ref fWE)
  kp_we : PySem.W.keepIn K (.ref fWE) = true
  g_stood : mg "stood_in" = some (.ref fStood)
  kp_stood : PySem.W.keepIn K (.ref fStood) = true
  g_bad : mg "bad_place" = some (.ref fBad)
  kp_bad : PySem.W.keepIn K (.ref fBad) = true
  g_is_owner : mg "is_owner" = some (.ref fOwner)
  kp_is_owner : PySem.W.keepIn K (.ref fOwner) = true
  g_wn : mg "wrong_node" = some (.ref fWN)
  kp_wn : PySem.W.keepIn K (.ref fWN) = true
theorem pool_names : ∀ z ∈ pool, nameZ z = true ∧ z.length ≤ 12 := by decide +kernel
/-- a folder's entries in the heap -/
def EntsO (K : PySem.W.Frag) (H : Hp) (E : Addr) (ps : List V) (es : List (Str × Nat)) : Prop := SqT K H E ps ∧ ps.length = es.length ∧ ∀ (k : Nat) (p : V) (e : Str × Nat), ps[k]? = some p → es[k]? = some e → EntO K H p e
theorem EntsO.same {K : PySem.W.Frag} {H H' : Hp} {E : Addr} {ps : List V} {es : List (Str × Nat)} (h : EntsO K H E ps es) (s : Same H H') : EntsO K H' E ps es :=
  ⟨Same.sqT s h.1, h.2.1, fun k p e a b => let ⟨x, y, z⟩ := h.2.2 k p e a b; ⟨x, y, Same.sqT s z⟩⟩
def vEs (es : List (Str × Nat)) : List (V × V) := es.map fun e => (V.str e.1, V.int (e.2 : Nat))
theorem EntsO.pairs {K : PySem.W.Frag} {H : Hp} {E : Addr} {ps : List V} {es : List (Str × Nat)} (h : EntsO K H E ps es) : ∀ (k : Nat) (x : V) (q : V × V), ps[k]? = some x → (vEs es)[k]? = some q → ∃ t, x = V.ref t ∧ SqT K H t [q.1, q.2] := fun k x q h1 h2 => by
  unfold vEs at h2
  rw [List.getElem?_map] at h2
  cases e : es[k]? with
  | none => rw [e] at h2; cases h2
  | some en =>
    rw [e] at h2
    cases Option.some.inj h2
    exact h.2.2 k x en h1 e
theorem vEs_get {es : List (Str × Nat)} {k : Nat} {q : V × V} (h : (vEs es)[k]? = some q) : ∃ e, es[k]? = some e ∧ e ∈ es ∧ q = (V.str e.1, V.int (e.2 : Nat)) := by
  unfold vEs at h
  rw [List.getElem?_map] at h
  cases e : es[k]? with
  | none => rw [e] at h; cases h
  | some en => rw [e] at h; exact ⟨en, rfl, List.mem_of_getElem? e, (Option.some.inj h).symm⟩
theorem vEs_len (es : List (Str × Nat)) : (vEs es).length = es.length := List.length_map _
/-- the made nodes of a well formed list -/
structure Trees (K : PySem.W.Frag) (cs : Nat → Addr) (H : Hp) (T : Addr) (qs : List Addr) (nds : List Nd) : Prop where
  ob : ObjsAt K cs H T qs nds
  wf : WF LinkText PL nds
theorem Trees.same {K : PySem.W.Frag} {cs : Nat → Addr} {H H' : Hp} {T : Addr} {qs : List Addr} {nds : List Nd} (h : Trees K cs H T qs nds) (s : Same H H') : Trees K cs H' T qs nds := ⟨h.ob.same s, h.wf⟩
theorem Trees.at_ {K : PySem.W.Frag} {cs : Nat → Addr} {H : Hp} {T : Addr} {qs : List Addr} {nds : List Nd} (h : Trees K cs H T qs nds) {i : Nat} {nd : Nd} (e : nds[i]? = some nd) : ∃ q, qs[i]? = some q ∧ (qs.map V.ref)[i]? = some (.ref q) ∧ ObjAt K cs H q nd := by
  have hl : i < qs.length := by rw [h.ob.len]; exact (List.getElem?_eq_some_iff.mp e).1
  have hq : qs[i]? = some qs[i] := List.getElem?_eq_getElem hl
  exact ⟨_, hq, by rw [List.getElem?_map, hq]; rfl, h.ob.nds i _ nd hq e⟩
def spWE (K : PySem.W.Frag) (cs : Nat → Addr) : Sp := fun vs H Q _ => ∃ (T E : Addr) (qs : List Addr) (nds : List Nd) (i : Nat) (o : Int) (es : List (Str × Nat)) (ps : List V), vs = [.ref T, .ref E] ∧ Trees K cs H T qs nds ∧ nds[i]? = some (.fol o es) ∧ EntsO K H E ps es ∧ ∀ H', Same H H' → Q .non H'
section
variable {P : Program} {w : World} {K : PySem.W.Frag} {mg : Str → Option Value} {base : Heap} {fName fStep fBy fNum fAt fDigit fPool fMay fWE fStood fBad fOwner fWN : Addr} {cs : Nat → Addr}
theorem scWE : FnScope ["nodes", "entries", "names", "name", "_", "node"] ["nodes", "entries"] (defScope sWE) := ⟨rfl, rfl, rfl, by decide +kernel, rfl, by decide +kernel, by decide +kernel⟩
theorem ok_we {fd fdN fdM : FuncData} (F : Fun K "wrong_entries" "wrong_entries" sWE fWE fd) (T : TxtK K mg fNum fAt fDigit fPool) (TS : TxtS K mg fBy) (TN : TxtN K mg fName fStep) (TW : TxtW K mg fMay fWE fStood fBad fOwner fWN)
    (GN : FnOk P w K mg base CX0 1 fName fdN ["value"] spName) (bN : Binds K fdN ["value"] []) (GM : FnOk P w K mg base CX0 3 fMay fdM ["nodes", "number"] (spMay K cs)) (bM : Binds K fdM ["nodes", "number"] []) :
    FnOk P w K mg base CX0 4 fWE fd ["nodes", "entries"] (spWE K cs) := by
  have nd := scWE.nd
  refine F.ok scWE (fun vs H Q E h => ?_) (fun cdv A outer s H vs Q E hr h => ?_)
  · obtain ⟨T, E, qs, nds, i, o, es, ps, rfl, _⟩ := h
    rfl
  · obtain ⟨N, E, qs, nds, i, o, es, ps, rfl, TR, hi, hE, k⟩ := h
    have hr3 : Room 3 _ := hr
    have hr1 : Room 1 _ := hr.mono (by decide)
    have W := TR.wf
    have le12 : es.length ≤ 12 := (W.base.uniq i _ hi).2
    have hs : sizeLine = 16777216 := sizeLine_eq
    refine ⟨_, (pss_cons (ps_setLc (i := 2) (own := [("name", 3), ("_", 4)]) (g := gTup K 2 (gCons (gName 3) (gCons (gName 4) gNil))) rfl nd rfl rfl (sw_true rfl rfl rfl (by decide +kernel)) (pi_tup (pv 1)) (blkOk_by (N := ["nodes", "entries", "names", "name", "_", "node"]) (sc := defScope sWE) (by decide +kernel)) (fun _ _ _ _ _ => (pg_tup (by rfl) (pgs_cons (pg_name (i := 3) nd rfl (Or.inl rfl)) (pgs_cons (pg_name (i := 4) nd rfl (Or.inl rfl)) pgs_nil)))) (fun _ _ _ _ _ => pts_nil) (fun _ _ _ _ _ => (pv 3)))
  (pss_cons (ps_if (pt_not (pt_val (pe_callB (cr_all rfl) (by rfl) TS.m_all (by decide +kernel) (pa_cons (pe_lc (own := [("name", 3)]) rfl nd (pi_list (pv 2)) (blkOk_by (N := ["nodes", "entries", "names", "name", "_", "node"]) (sc := defScope sWE) (by decide +kernel)) (fun _ _ _ _ _ => (pg_name (i := 3) nd rfl (Or.inl rfl))) (fun _ _ _ _ _ => pts_nil) (fun _ _ _ _ _ => (pe_call GN hr1 (by rfl) TN.g_is_name TN.kp_is_name bN .nil pass0 (pa_cons (pv 3) pa_nil)))) pa_nil)))) (pss_one (ps_ret pe_str)) pss_nil)
  (pss_cons (ps_if (pt_cmpR op_lt (pe_lenSetS rfl (by rfl) T.m_len (by rfl) TW.m_set (pv 2)) (pe_callB call_len_seq (by rfl) T.m_len (by decide +kernel) (pa_cons (pv 2) pa_nil)) (nomark _)) (pss_one (ps_ret pe_str)) pss_nil)
  (pss_cons (ps_if (pt_not (pt_val (pe_callB (cr_all rfl) (by rfl) TS.m_all (by decide +kernel) (pa_cons (pe_lc (own := [("_", 4), ("node", 5)]) (g := gTup K 2 (gCons (gName 4) (gCons (gName 5) gNil))) rfl nd (pi_tup (pv 1)) (blkOk_by (N := ["nodes", "entries", "names", "name", "_", "node"]) (sc := defScope sWE) (by decide +kernel)) (fun _ _ _ _ _ => (pg_tup (by rfl) (pgs_cons (pg_name (i := 4) nd rfl (Or.inl rfl)) (pgs_cons (pg_name (i := 5) nd rfl (Or.inl rfl)) pgs_nil)))) (fun _ _ _ _ _ => pts_nil) (fun _ _ _ _ _ => (pe_call GM hr3 (by rfl) TW.g_may TW.kp_may bM .nil pass0 (pa_cons (pv 0) (pa_cons (pv 5) pa_nil))))) pa_nil)))) (pss_one (ps_ret pe_str)) pss_nil)
  (pss_one (ps_ret pe_non)))))), ?_⟩
    refine ⟨_, rfl, E, rfl, ⟨_, hE.1⟩, fun D hD => ?_⟩
    refine lc_pair (K := K) (walk_tup (K := K) (a := E)) (i := 3) (j := 4) (by decide) (vEs es) (by rw [vEs_len, hE.2.1]) (fun _ => true) (fun v => v.1) hE.pairs (by rw [hE.2.1]; omega) hD (fun H' s => Same.sqT s hE.1) (fun i v H' R _ s hR => hR _ (Same.refl _)) (fun i v H' R h _ s hR => ⟨_, rfl, hR _ (Same.refl _)⟩) (fun H1 s1 e1 => ?_)
    have e1' : H1 D = some (.lst ((es.map (·.1)).map V.str)) := by
      rw [e1, List.filter_eq_self.mpr (fun _ _ => rfl), List.map_map]
      unfold vEs
      rw [List.map_map]
      rfl
    have nm : ∀ z ∈ es.map (·.1), nameZ z = true ∧ z.length ≤ 12 := fun z hz => by
      obtain ⟨e, he, rfl⟩ := List.mem_map.mp hz
      exact pool_names _ (W.base.ent i _ hi e he).1
    refine ⟨_, rfl, D, rfl, ⟨_, SqL.of e1'⟩, fun D2 hD2 => ?_⟩
    refine lc_map (walk_list (K := K) (a := D)) (fun _ => V.bl true) (by rw [List.length_map, List.length_map]; omega) hD2 (fun H' s => SqL.of (s _ _ e1')) (fun k x H' R hk s hR => ?_) (fun H2 s2 e2 => ?_)
    · rw [List.getElem?_map] at hk
      cases e : (es.map (·.1))[k]? with
      | none => rw [e] at hk; cases hk
      | some z =>
        rw [e] at hk
        cases Option.some.inj hk
        obtain ⟨h1, h2⟩ := nm z (List.mem_of_getElem? e)
        refine ⟨_, rfl, z, rfl, by omega, fun H' s' => ?_⟩
        rw [h1]
        exact hR H' s'
    · have e2' : H2 D2 = some (.lst ((es.map fun _ => true).map V.bl)) := by
        rw [e2, List.map_map, List.map_map, List.map_map]
        rfl
      have all1 : (es.map fun _ => true).all id = true := by rw [List.all_map, List.all_eq_true]; exact fun _ _ => rfl
      refine ⟨D2, _, rfl, SqL.of e2', _, rfl, ?_⟩
      rw [all1]
      refine iteF ?_
      have e3 : H2 D = some (.lst ((es.map (·.1)).map V.str)) := s2 _ _ e1'
      have hnd : (es.map (·.1)).Nodup := (W.base.uniq i _ hi).1
      refine ⟨_, rfl, D, es.map (·.1), rfl, SqL.of e3, by rw [List.length_map]; unfold scanBound; omega, _, rfl, D, _, rfl, .inl (SqL.of e3), _, _, rfl, rfl, _, rfl, ?_⟩
      have dn : (diffs (es.map (·.1))).length = es.length := by rw [diffs_nodup hnd, List.length_map]
      have lt0 : decide (((diffs (es.map (·.1))).length : Int) < (((es.map (·.1)).map V.str).length : Nat)) = false := by
        rw [dn, List.length_map, List.length_map]
        simp
      rw [lt0]
      refine iteF ?_
      have hE3 := hE.same (s1.trans s2)
      have TR3 := TR.same (s1.trans s2)
      refine ⟨_, rfl, E, rfl, ⟨_, hE3.1⟩, fun D3 hD3 => ?_⟩
      refine lc_pair (K := K) (walk_tup (K := K) (a := E)) (i := 4) (j := 5) (by decide) (vEs es) (by rw [vEs_len, hE.2.1]) (fun _ => true) (fun _ => V.bl true) hE3.pairs (by rw [hE.2.1]; omega) hD3 (fun H' s => Same.sqT s hE3.1) (fun i v H' R _ s hR => hR _ (Same.refl _)) (fun j v H' R h _ s hR => ?_) (fun H4 s4 e4 => ?_)
      · obtain ⟨e, _, he, rfl⟩ := vEs_get h
        obtain ⟨_, h1, nd', h2, h3⟩ := W.base.ent i _ hi e he
        have TR' := TR3.same s
        obtain ⟨q, hq, hq', hO⟩ := TR'.at_ h2
        obtain ⟨dx, fs, hins, _⟩ := obj_ins hO
        have c3 : clsI nd' ≠ 3 := by
          cases nd' with
          | fol _ _ => exact (by decide : (0 : Nat) ≠ 3)
          | fil _ => exact (by decide : (1 : Nat) ≠ 3)
          | lnk _ _ => exact (by decide : (2 : Nat) ≠ 3)
          | gon _ _ => cases h3
        exact ⟨_, rfl, _, rfl, N, qs.map V.ref, e.2, q, clsI nd', dx, fs, rfl, TR'.ob.ls, hq', clsI_lt nd', hins, by omega, c3, fun H' s' => hR H' s'⟩
      · have e4' : H4 D3 = some (.lst ((es.map fun _ => true).map V.bl)) := by
          rw [e4, List.filter_eq_self.mpr (fun _ _ => rfl)]
          unfold vEs
          rw [List.map_map, List.map_map]
          rfl
        refine ⟨D3, _, rfl, SqL.of e4', _, rfl, ?_⟩
        rw [all1]
        exact iteF (k _ (s1.trans (s2.trans s4)))
end
end NW

set_option maxRecDepth 100000
set_option maxHeartbeats 400000
namespace NW
open PySem L2 NG TR LamX
abbrev sWN : Stmt := top 30
theorem linkText_ok {z : Str} (h : LinkText z) : z.length + 2 ≤ sizeLine ∧ (∀ p ∈ partsOf z, p.length ≤ sizeLine) ∧ badP z = none := by
  obtain ⟨qs, hne, ok, hl, rfl, hz⟩ := h
  have PA := parts_are hne (fun p hp => (ok p hp).1) (by omega)
  refine ⟨PA.zl, fun p hp => ?_, ?_⟩
  · rw [PA.sp] at hp
    exact (PA.ok p hp).1
  · unfold badP
    rw [if_neg hz, PA.sp]
    exact goBad_of fun p hp => (ok p hp).2
theorem clsI_fol {nd : Nd} (h : clsI nd = 0) : ∃ o es, nd = .fol o es := by
  cases nd with
  | fol o es => exact ⟨o, es, rfl⟩
  | _ => cases h
def spWN (K : PySem.W.Frag) (cs : Nat → Addr) : Sp := fun vs H Q _ => ∃ (T : Addr) (qs : List Addr) (nds : List Nd) (i : Nat), vs = [.ref T, .int (i : Nat)] ∧ Trees K cs H T qs nds ∧ i < nds.length ∧ ∀ H', Same H H' → Q .non H'
section
variable {P : Program} {w : World} {K : PySem.W.Frag} {mg : Str → Option Value} {base : Heap} {fName fStep fBy fNum fAt fDigit fPool fMay fWE fStood fBad fOwner fWN : Addr} {cs : Nat → Addr}
theorem scWN : FnScope ["nodes", "number", "node"] ["nodes", "number"] (defScope sWN) := ⟨rfl, rfl, rfl, by decide +kernel, rfl, by decide +kernel, by decide +kernel⟩
theorem ok_wn {fd fdO fdW fdB fdS : FuncData} (F : Fun K "wrong_node" "wrong_node" sWN fWN fd) (T : TxtK K mg fNum fAt fDigit fPool) (TG : TxtG K mg cs) (TW : TxtW K mg fMay fWE fStood fBad fOwner fWN)
    (GO : FnOk P w K mg base CX0 2 fOwner fdO ["value"] spOwner) (bO : Binds K fdO ["value"] []) (GW : FnOk P w K mg base CX0 4 fWE fdW ["nodes", "entries"] (spWE K cs)) (bW : Binds K fdW ["nodes", "entries"] [])
    (GB : FnOk P w K mg base CX0 3 fBad fdB ["text"] (spBad K)) (bB : Binds K fdB ["text"] []) (GS : FnOk P w K mg base CX0 3 fStood fdS ["nodes", "number", "last"] (spStood K cs)) (bS : Binds K fdS ["nodes", "number", "last"] []) :
    FnOk P w K mg base CX0 5 fWN fd ["nodes", "number"] (spWN K cs) := by
  have nd := scWN.nd
  refine F.ok scWN (fun vs H Q E h => ?_) (fun cdv A outer s H vs Q E hr h => ?_)
  · obtain ⟨T, qs, nds, i, rfl, _⟩ := h
    rfl
  · obtain ⟨N, qs, nds, i, rfl, TR, hi, k⟩ := h
    have hr4 : Room 4 _ := hr
    have hr3 : Room 3 _ := hr.mono (by decide)
    have hr2 : Room 2 _ := hr.mono (by decide)
    have W := TR.wf
    have hn : nds[i]? = some nds[i] := List.getElem?_eq_getElem hi
    generalize nds[i] = x at hn
    refine ⟨_, (pss_cons (ps_set (i := 2) nd rfl (Or.inl rfl) (pe_ix ix_tup (pv 0) (pv 1) (fun _ _ => rfl)))
  (pss_cons (ps_if (PW.pt (pw_or (pt_not (pt_val (pe_callB call_isiT (by rfl) T.m_isinstance (by decide +kernel) (pa_cons (pv 2) (pa_cons (pe_tup (pa_cons (pe_glob (v := .ref (cs 0)) (by rfl) TG.m_Folder rfl) (pa_cons (pe_glob (v := .ref (cs 1)) (by rfl) TG.m_File rfl) (pa_cons (pe_glob (v := .ref (cs 2)) (by rfl) TG.m_Link rfl) (pa_cons (pe_glob (v := .ref (cs 3)) (by rfl) TG.m_Gone rfl) pa_nil))))) pa_nil))))) (pw_or1 (pt_not (pt_val (pe_call GO hr2 (by rfl) TW.g_is_owner TW.kp_is_owner bO .nil pass0 (pa_cons (pe_fld (pv 2) rfl) pa_nil))))))) (pss_one (ps_ret pe_str)) pss_nil)
  (pss_cons (ps_if (pt_val (pe_callB call_isi (by rfl) T.m_isinstance (by decide +kernel) (pa_cons (pv 2) (pa_cons (pe_glob (v := .ref (cs 0)) (by rfl) TG.m_Folder rfl) pa_nil)))) (pss_one (ps_ret (pe_call GW hr4 (by rfl) TW.g_we TW.kp_we bW .nil pass0 (pa_cons (pv 0) (pa_cons (pe_fld (pv 2) rfl) pa_nil))))) pss_nil)
  (pss_cons (ps_if (PW.pt (pw_and (pt_val (pe_callB call_isi (by rfl) T.m_isinstance (by decide +kernel) (pa_cons (pv 2) (pa_cons (pe_glob (v := .ref (cs 2)) (by rfl) TG.m_Link rfl) pa_nil)))) (pw_and1 (pt_cmp (pc_notN (pe_call GB hr3 (by rfl) TW.g_bad TW.kp_bad bB .nil pass0 (pa_cons (pe_fld (pv 2) rfl) pa_nil))))))) (pss_one (ps_ret pe_str)) pss_nil)
  (pss_cons (ps_if (PW.pt (pw_and (pt_val (pe_callB call_isi (by rfl) T.m_isinstance (by decide +kernel) (pa_cons (pv 2) (pa_cons (pe_glob (v := .ref (cs 3)) (by rfl) TG.m_Gone rfl) pa_nil)))) (pw_and1 (pt_not (pt_val (pe_call GS hr3 (by rfl) TW.g_stood TW.kp_stood bS .nil pass0 (pa_cons (pv 0) (pa_cons (pv 1) (pa_cons (pe_fld (pv 2) rfl) pa_nil))))))))) (pss_one (ps_ret pe_str)) pss_nil)
  (pss_one (ps_ret pe_non))))))), ?_⟩
    obtain ⟨q, hq, hqr, hO⟩ := TR.at_ hn
    obtain ⟨dx, fs, hins, hown⟩ := obj_ins hO
    have ci := clsI_lt x
    have ty := TG.ty _ ci
    refine ⟨_, rfl, _, rfl, N, _, _, _, rfl, rfl, TR.ob.ls, atI_nat hqr, ?_⟩
    refine ⟨_, rfl, (by show 4 ≤ sizeLine; decide), fun tp htp => ?_⟩
    have sp := NG.Same.upd (o := HO.tup [V.ref (cs 0), V.ref (cs 1), V.ref (cs 2), V.ref (cs 3)]) htp
    have etp : (upd H tp (HO.tup [V.ref (cs 0), V.ref (cs 1), V.ref (cs 2), V.ref (cs 3)])) tp = some (.tup [V.ref (cs 0), V.ref (cs 1), V.ref (cs 2), V.ref (cs 3)]) := upd_same
    have TR1 := TR.same sp
    have k1 : ∀ H', Same (upd H tp (HO.tup [V.ref (cs 0), V.ref (cs 1), V.ref (cs 2), V.ref (cs 3)])) H' → Q .non H' := fun H' s => k H' (sp.trans s)
    have hins1 := sp _ _ hins
    have hO1 := hO.same sp
    generalize upd H tp (HO.tup [V.ref (cs 0), V.ref (cs 1), V.ref (cs 2), V.ref (cs 3)]) = H1 at etp TR1 k1 hins1 hO1 ⊢
    have tyx : TyX K H1 (.ref q) (.ref (cs (clsI x))) := .base (.ins hins1 (TG.cl _ ci) ty.c1 ty.c2 ty.c3 ty.c4)
    refine ⟨_, tp, _, .ref (cs (clsI x)), [.ref (cs 0), .ref (cs 1), .ref (cs 2), .ref (cs 3)], true, rfl, etp, .cons (.own _) (.cons (.own _) (.cons (.own _) (.cons (.own _) .nil))), tyx, ?_, _, rfl, ?_⟩
    · have e := kitAny_of TG ci [0, 1, 2, 3] (by simp)
      have e4 : ([0, 1, 2, 3] : List Nat).contains (clsI x) = true := by cases x <;> rfl
      rw [e4] at e
      exact e
    refine iteF ⟨_, rfl, q, _, _, _, _, rfl, hins1, TG.cl _ ci, TG.nO _ ci, hown, x.owner, rfl, _, rfl, ?_⟩
    have ow : decide (0 ≤ x.owner) = true := decide_eq_true (W.base.own i _ hn)
    rw [ow]
    refine iteF ?_
    -- a folder
    refine ⟨_, rfl, _, _, _, _, decide (clsI x = 0), rfl, .own (cs 0), tyx, TG.kit _ 0 ci (by decide), _, rfl, ?_⟩
    have isI : ∀ j, j < 4 → PySem.W.kitOne K (.ref (cs (clsI x))) (.ref (cs j)) = some (decide (clsI x = j)) := fun j hj => TG.kit _ j ci hj
    cases x with
    | fol o es =>
      rw [show decide (clsI (Nd.fol o es) = 0) = true from rfl]
      obtain ⟨dx', Ea, ps, h1, h2, h3, h4⟩ := hO1
      refine iteT ⟨_, rfl, _, rfl, q, cs 0, dx', _, _, rfl, h1, TG.cl 0 (by decide), TG.nE, (by unfold ffl; rw [lookup_putF, if_pos rfl]), N, Ea, qs, nds, i, o, es, ps, rfl, TR1, hn, ⟨h2.sqT, h3, h4⟩, k1⟩
    | fil o =>
      rw [show decide (clsI (Nd.fil o) = 0) = false from rfl]
      refine iteF ⟨_, rfl, _, _, _, _, false, rfl, .own (cs 2), tyx, isI 2 (by decide), _, rfl, ?_⟩
      refine iteF (iteF ⟨_, rfl, _, _, _, _, false, rfl, .own (cs 3), tyx, isI 3 (by decide), _, rfl, ?_⟩)
      exact iteF (iteF (k1 _ (Same.refl _)))
    | lnk o z =>
      rw [show decide (clsI (Nd.lnk o z) = 0) = false from rfl]
      refine iteF ⟨_, rfl, _, _, _, _, true, rfl, .own (cs 2), tyx, isI 2 (by decide), _, rfl, ?_⟩
      obtain ⟨dx', h1⟩ := hO1
      obtain ⟨z1, z2, z3⟩ := linkText_ok (W.base.lnk i o z hn)
      refine iteT ⟨_, rfl, q, cs 2, dx', _, _, rfl, h1, TG.cl 2 (by decide), TG.nT, (by unfold fl2; rw [lookup_putF, if_pos rfl]), .inr ⟨z, rfl, z1, z2, fun n e => (by rw [z3] at e; cases e), fun _ H2 s2 => ?_⟩⟩
      have tyx2 : TyX K H2 (.ref q) (.ref (cs 2)) := .base (.ins (s2 _ _ hins1) (TG.cl 2 (by decide)) (TG.ty 2 (by decide)).c1 (TG.ty 2 (by decide)).c2 (TG.ty 2 (by decide)).c3 (TG.ty 2 (by decide)).c4)
      refine ⟨_, rfl, iteF ⟨_, rfl, _, _, _, _, false, rfl, .own (cs 3), tyx2, isI 3 (by decide), _, rfl, ?_⟩⟩
      exact iteF (iteF (k1 _ s2))
    | gon o ab =>
      rw [show decide (clsI (Nd.gon o ab) = 0) = false from rfl]
      refine iteF ⟨_, rfl, _, _, _, _, false, rfl, .own (cs 2), tyx, isI 2 (by decide), _, rfl, ?_⟩
      refine iteF (iteF ⟨_, rfl, _, _, _, _, true, rfl, .own (cs 3), tyx, isI 3 (by decide), _, rfl, ?_⟩)
      obtain ⟨dx', h1⟩ := hO1
      obtain ⟨ha, o', es, hab⟩ := W.base.gon i o ab hn
      obtain ⟨q2, hq2, hq2r, hO2⟩ := TR1.at_ hab
      obtain ⟨dx2, E2, ps2, h2, _⟩ := hO2
      refine iteT ⟨_, rfl, _, rfl, _, rfl, q, cs 3, dx', _, _, rfl, h1, TG.cl 3 (by decide), TG.nA, (by unfold fl2; rw [lookup_putF, if_pos rfl]), N, _, i, ab, q2, dx2, _, rfl, TR1.ob.ls, hq2r, h2, by omega, fun H2 s2 => ⟨_, rfl, iteF (k1 _ s2)⟩⟩
end
end NW

set_option maxRecDepth 100000
set_option maxHeartbeats 400000
namespace NW
open PySem L2 NG TR LamX
abbrev sET : Stmt := top 36
/-- numbers by place -/
def tally (n : Nat) (f : Nat → Nat) : List V := (List.range n).map fun k => V.int (f k : Nat)
theorem tally_len (n : Nat) (f : Nat → Nat) : (tally n f).length = n := by unfold tally; rw [List.length_map, List.length_range]
theorem tally_get {n k : Nat} (f : Nat → Nat) (h : k < n) : (tally n f)[k]? = some (V.int (f k : Nat)) := by
  unfold tally
  rw [List.getElem?_map, List.getElem?_range h]
  rfl
theorem tally_set {n k : Nat} (f : Nat → Nat) (h : k < n) : (tally n f).set k (V.int ((f k : Nat) + 1)) = tally n fun j => f j + if k = j then 1 else 0 := by
  apply List.ext_getElem?
  intro j
  by_cases hj : j < n
  · rw [tally_get _ hj]
    by_cases e : k = j
    · subst e
      rw [List.getElem?_set_self (by rw [tally_len]; exact h), if_pos rfl]
      rfl
    · rw [List.getElem?_set_ne e, tally_get _ hj, if_neg e]
      rfl
  · rw [List.getElem?_eq_none (by rw [List.length_set, tally_len]; omega), List.getElem?_eq_none (by rw [tally_len]; omega)]
theorem cntE_take {es : List (Str × Nat)} {k : Nat} {e : Str × Nat} (h : es[k]? = some e) (j : Nat) : cntE (es.take (k + 1)) j = cntE (es.take k) j + if e.2 = j then 1 else 0 := by
  rw [NG.take_succ h, cntE_app]
  congr 1
  exact cntE_one e.1 e.2 j
theorem cnt_take {nds : List Nd} {k : Nat} {x : Nd} (h : nds[k]? = some x) (j : Nat) : cnt (nds.take (k + 1)) j = cnt (nds.take k) j + cntE x.ents j := by
  rw [NG.take_succ h, cnt_app, cnt_cons, cnt_nil]
  omega
/-- all but D -/
def ButD (D : Addr) (H H' : Hp) : Prop := ∀ b o, H b = some o → b ≠ D → H' b = some o
def spET (K : PySem.W.Frag) (cs : Nat → Addr) : Sp := fun vs H Q _ => ∃ (T : Addr) (qs : List Addr) (nds : List Nd), vs = [.ref T] ∧ Trees K cs H T qs nds ∧ nds.length ≤ 1000 ∧ ∀ H' D, Same H H' → H' D = some (.lst (tally nds.length (cnt nds))) → Q (.ref D) H'
section
variable {P : Program} {w : World} {K : PySem.W.Frag} {mg : Str → Option Value} {base : Heap} {fNum fAt fDigit fPool fET : Addr} {cs : Nat → Addr}
theorem scET : FnScope ["nodes", "times", "node", "_", "number"] ["nodes"] (defScope sET) := ⟨rfl, rfl, rfl, by decide +kernel, rfl, by decide +kernel, by decide +kernel⟩
theorem ok_et {fd : FuncData} (F : Fun K "entered_times" "entered_times" sET fET fd) (T : TxtK K mg fNum fAt fDigit fPool) (TG : TxtG K mg cs) : FnOk P w K mg base CX0 1 fET fd ["nodes"] (spET K cs) := by
  have nd := scET.nd
  refine F.ok scET (fun vs H Q E h => ?_) (fun cdv A outer s H vs Q E hr h => ?_)
  · obtain ⟨T, qs, nds, rfl, _⟩ := h
    rfl
  · obtain ⟨N, qs, nds, rfl, TR, hl, k⟩ := h
    have W := TR.wf
    have hs : sizeLine = 16777216 := sizeLine_eq
    refine ⟨_, (pss_cons (ps_set (i := 1) nd rfl (Or.inl rfl) (pe_op op_rep (pe_lst (pa_cons pe_int pa_nil)) (pe_callB call_len_seq (by rfl) T.m_len (by decide +kernel) (pa_cons (pv 0) pa_nil))))
  (pss_cons (ps_for PassesOwn.never rfl (pi_tup (pv 0)) (pg_name (i := 2) nd rfl (Or.inl rfl))
  (pss_one (ps_if (pt_val (pe_callB call_isi (by rfl) T.m_isinstance (by decide +kernel) (pa_cons (pv 2) (pa_cons (pe_glob (v := .ref (cs 0)) (by rfl) TG.m_Folder rfl) pa_nil)))) (pss_one (ps_for PassesOwn.never rfl (pi_tup (pe_fld (pv 2) rfl)) (pg_tup (by rfl) (pgs_cons (pg_name (i := 3) nd rfl (Or.inl rfl)) (pgs_cons (pg_name (i := 4) nd rfl (Or.inl rfl)) pgs_nil)))
  (pss_one (ps_augS (pv 1) (pv 4) get_listN pe_int ip_add set_list)))) pss_nil)))
  (pss_one (ps_ret (pv 1))))), ?_⟩
    refine ⟨(by show 1 ≤ sizeLine; decide), fun L hL => ⟨_, rfl, N, _, rfl, .inr (Same.sqT (NG.Same.upd hL) TR.ob.ls), ?_⟩⟩
    have lq : (qs.map V.ref).length = nds.length := by rw [List.length_map, TR.ob.len]
    rw [lq]
    have sL := NG.Same.upd (o := HO.lst [V.int 0]) hL
    have eL : (upd H L (HO.lst [V.int 0])) L = some (.lst [V.int 0]) := upd_same
    generalize upd H L (HO.lst [V.int 0]) = H0 at sL eL ⊢
    refine ⟨L, _, _, rfl, rfl, eL, by omega, by omega, by simp only [List.length_singleton]; omega, fun D hD => ?_⟩
    have e0 : (List.replicate (nds.length : Int).toNat [V.int 0]).flatten = tally nds.length (cnt (nds.take 0)) := by
      have : ∀ n : Nat, (List.replicate n [V.int 0]).flatten = List.replicate n (V.int 0) := fun n => by
        induction n with
        | zero => rfl
        | succ n ih => rw [List.replicate_succ, List.flatten_cons, ih, List.replicate_succ]; rfl
      rw [this]
      unfold tally
      rw [List.take_zero]
      show _ = (List.range nds.length).map fun _ => V.int 0
      rw [List.map_const', List.length_range]
      rfl
    rw [e0]
    have s1 : Same H (upd H0 D (.lst (tally nds.length (cnt (nds.take 0))))) := sL.trans (NG.Same.upd hD)
    have fD : H D = none := by
      cases e : H D with
      | none => rfl
      | some u => have := sL _ _ e; rw [hD] at this; cases this
    refine ⟨_, rfl, N, rfl, ⟨_, Same.sqT s1 TR.ob.ls⟩, for_tup (K := K) (a := N) (xs := qs.map V.ref) (fun i σ H' => (∃ v2 v3 v4 : Option V, σ = [some (.ref N), some (.ref D), v2, v3, v4]) ∧ Same H H' ∧ H' D = some (.lst (tally nds.length (cnt (nds.take i)))))
      ⟨⟨none, none, none, rfl⟩, s1, upd_same⟩ (fun i σ H' _ h => Same.sqT h.2.1 TR.ob.ls) ?_ ?_⟩
    · rintro i x σ H2 hx ⟨⟨v2, v3, v4, rfl⟩, s2, e2⟩
      have hi : i < nds.length := by rw [← lq]; exact (List.getElem?_eq_some_iff.mp hx).1
      have hn : nds[i]? = some nds[i] := List.getElem?_eq_getElem hi
      generalize nds[i] = y at hn
      have TR2 := TR.same s2
      obtain ⟨q, hq, hqr, hO⟩ := TR2.at_ hn
      have : x = .ref q := by rw [hqr] at hx; exact (Option.some.inj hx).symm
      subst this
      obtain ⟨dx, fs, hins, _⟩ := obj_ins hO
      have ci := clsI_lt y
      have ty := TG.ty _ ci
      refine ⟨_, rfl, _, _, _, _, decide (clsI y = 0), rfl, .own (cs 0), .base (.ins hins (TG.cl _ ci) ty.c1 ty.c2 ty.c3 ty.c4), TG.kit _ 0 ci (by decide), _, rfl, ?_⟩
      by_cases hf : clsI y = 0
      · obtain ⟨o, es, rfl⟩ := clsI_fol hf
        rw [decide_eq_true hf]
        obtain ⟨dx', Ea, ps, h1, h2p, h3, h4⟩ := hO
        have h2 : SqT K _ Ea ps := h2p.sqT
        have le12 : es.length ≤ 12 := (W.base.uniq i _ hn).2
        refine iteT ⟨_, rfl, q, cs 0, dx', _, _, rfl, h1, TG.cl 0 (by decide), TG.nE, (by unfold ffl; rw [lookup_putF, if_pos rfl]), Ea, rfl, ⟨_, h2⟩, ?_⟩
        refine for_tup (K := K) (a := Ea) (xs := ps) (fun j σ H' => (∃ v3 v4 : Option V, σ = [some (.ref N), some (.ref D), some (.ref q), v3, v4]) ∧ ButD D H2 H' ∧ Same H H' ∧ H' D = some (.lst (tally nds.length fun k => cnt (nds.take i) k + cntE (es.take j) k)))
          ⟨⟨v3, v4, rfl⟩, fun _ _ z _ => z, s2, by rw [e2]; rfl⟩ (fun j σ H' _ h => ?_) ?_ ?_
        · rcases h2 with (z | ⟨u, z⟩) | z
          · exact .inl (.inl (h.2.1 _ _ z (ne_of z e2 (fun y => by cases y))))
          · exact .inl (.inr ⟨u, h.2.1 _ _ z (ne_of z e2 (fun y => by cases y))⟩)
          · exact .inr z
        · rintro j p σ H3 hp ⟨⟨v3, v4, rfl⟩, b3, s3, e3⟩
          have hj : j < es.length := by rw [← h3]; exact (List.getElem?_eq_some_iff.mp hp).1
          have he : es[j]? = some es[j] := List.getElem?_eq_getElem hj
          generalize es[j] = e at he
          obtain ⟨a, rfl, ha⟩ := h4 j p e hp he
          obtain ⟨_, _, nd', hnd, _⟩ := W.base.ent i _ hn e (List.mem_of_getElem? he)
          have hk := (List.getElem?_eq_some_iff.mp hnd).1
          have ha3 : SqT K H3 a [.str e.1, .int (e.2 : Nat)] := by
            rcases ha with (z | ⟨u, z⟩) | z
            · exact .inl (.inl (b3 _ _ z (ne_of z e2 (fun y => by cases y))))
            · exact .inl (.inr ⟨u, b3 _ _ z (ne_of z e2 (fun y => by cases y))⟩)
            · exact .inr z
          refine ⟨a, [.str e.1, .int (e.2 : Nat)], rfl, ha3, rfl, _, _, rfl, _, _, rfl, rfl, ?_⟩
          refine ⟨_, rfl, _, rfl, D, _, e.2, _, rfl, rfl, SqL.of e3, tally_get _ hk, _, _, rfl, rfl, D, _, _, e.2, rfl, rfl, e3, ?_, ?_⟩
          · unfold ixN
            rw [tally_len, if_pos (by omega), if_pos (by omega)]
            simp
          · refine ⟨⟨_, _, rfl⟩, fun b u eb nb => by rw [upd_ne nb]; exact b3 _ _ eb nb, fun b u eb => by rw [upd_ne (ne_of_none eb fD)]; exact s3 _ _ eb, ?_⟩
            rw [upd_same, tally_set _ hk]
            congr 3
            funext k
            rw [cntE_take he]
            omega
        · rintro σ H3 ⟨⟨v3, v4, rfl⟩, b3, s3, e3⟩
          refine ⟨⟨_, _, _, rfl⟩, s3, ?_⟩
          rw [e3]
          congr 3
          funext k
          rw [cnt_take hn, h3, List.take_length]
          rfl
      · rw [decide_eq_false hf]
        refine iteF ⟨⟨_, _, _, rfl⟩, s2, ?_⟩
        rw [e2]
        congr 3
        funext k
        rw [cnt_take hn]
        have : y.ents = [] := by
          cases y with
          | fol o es => exact absurd rfl hf
          | _ => rfl
        rw [this]
        rfl
    · rintro σ H2 ⟨⟨v2, v3, v4, rfl⟩, s2, e2⟩
      rw [lq, List.take_length] at e2
      exact ⟨_, rfl, k _ D s2 e2⟩
end
end NW

set_option maxRecDepth 100000
set_option maxHeartbeats 400000
namespace NW
open PySem L2 NG TR LamX
abbrev sCN : Stmt := top 29
abbrev sCF : Stmt := top 35
abbrev sTreeI : Stmt := inClass (top 27) 0
structure TxtT (K : PySem.W.Frag) (mg : Str → Option Value) (fET fFF fCN fCF : Addr) : Prop where
  m_enumerate : mg "enumerate" = none
  g_et : mg "entered_times" = some (.ref fET)
  kp_et : PySem.W.keepIn K (.ref fET) = true
  g_ff : mg "found_folders" = some (.ref fFF)
  kp_ff : PySem.W.keepIn K (.ref fFF) = true
  g_cn : mg "check_nodes" = some (.ref fCN)
  kp_cn : PySem.W.keepIn K (.ref fCN) = true
  g_cf : mg "check_folders" = some (.ref fCF)
  kp_cf : PySem.W.keepIn K (.ref fCF) = true
def spChk (K : PySem.W.Frag) (cs : Nat → Addr) : Sp := fun vs H Q _ => ∃ (T : Addr) (qs : List Addr) (nds : List Nd), vs = [.ref T] ∧ Trees K cs H T qs nds ∧ nds.length ≤ 1000 ∧ ∀ H', Same H H' → Q .non H'
section
variable {P : Program} {w : World} {K : PySem.W.Frag} {mg : Str → Option Value} {base : Heap} {fName fStep fBy fNum fAt fDigit fPool fMay fWE fStood fBad fOwner fWN fET fFF fCN fCF : Addr} {cs : Nat → Addr}
theorem scCN : FnScope ["nodes", "number", "why"] ["nodes"] (defScope sCN) := ⟨rfl, rfl, rfl, by decide +kernel, rfl, by decide +kernel, by decide +kernel⟩
theorem ok_cn {fd fdW : FuncData} (F : Fun K "check_nodes" "check_nodes" sCN fCN fd) (T : TxtK K mg fNum fAt fDigit fPool) (TG : TxtG K mg cs) (TW : TxtW K mg fMay fWE fStood fBad fOwner fWN) (GW : FnOk P w K mg base CX0 5 fWN fdW ["nodes", "number"] (spWN K cs)) (bW : Binds K fdW ["nodes", "number"] []) :
    FnOk P w K mg base CX0 6 fCN fd ["nodes"] (spChk K cs) := by
  have nd := scCN.nd
  obtain ⟨tr, gr⟩ := TG.m_ROOT
  refine F.ok scCN (fun vs H Q E h => ?_) (fun cdv A outer s H vs Q E hr h => ?_)
  · obtain ⟨T, qs, nds, rfl, _⟩ := h
    rfl
  · obtain ⟨N, qs, nds, rfl, TR, hl, k⟩ := h
    have hrW : Room 5 _ := hr
    have W := TR.wf
    have lq : (qs.map V.ref).length = nds.length := by rw [List.length_map, TR.ob.len]
    refine ⟨_, (pss_cons (ps_if (PW.pt (pw_or (pt_cmpR op_eq (pe_callB call_len_seq (by rfl) T.m_len (by decide +kernel) (pa_cons (pv 0) pa_nil)) pe_int (nomark _)) (pw_or1 (pt_not (pt_val (pe_callB call_isi (by rfl) T.m_isinstance (by decide +kernel) (pa_cons (pe_ix ix_tup (pv 0) (pe_glob (v := .int 0) (by rfl) gr ⟨_, rfl⟩) (fun _ _ => rfl)) (pa_cons (pe_glob (v := .ref (cs 0)) (by rfl) TG.m_Folder rfl) pa_nil)))))))) (pss_one ps_dead) pss_nil)
  (pss_one (ps_for PassesOwn.never rfl (pi_range1 (by rfl) T.m_range (pa_cons (pe_callB call_len_seq (by rfl) T.m_len (by decide +kernel) (pa_cons (pv 0) pa_nil)) pa_nil)) (pg_name (i := 1) nd rfl (Or.inl rfl))
  (pss_cons (ps_set (i := 2) nd rfl (Or.inl rfl) (pe_call GW hrW (by rfl) TW.g_wn TW.kp_wn bW .nil pass0 (pa_cons (pv 0) (pa_cons (pv 1) pa_nil))))
  (pss_one (ps_if (pt_cmp (pc_notN (pv 2))) (pss_one ps_dead) pss_nil)))))), ?_⟩
    refine ⟨_, rfl, N, _, rfl, .inr TR.ob.ls, rfl, _, rfl, ?_⟩
    obtain ⟨o0, es0, h0⟩ := W.base.root
    have pos : 0 < nds.length := (List.getElem?_eq_some_iff.mp h0).1
    rw [lq, show decide (V.int (nds.length : Nat) = V.int 0) = false from decide_eq_false (fun z => by injection z with z; omega)]
    obtain ⟨q0, hq0, hqr0, hO0⟩ := TR.at_ h0
    obtain ⟨dx0, E0, ps0, hi0, _⟩ := hO0
    have ty0 := TG.ty 0 (by decide)
    refine iteF ⟨_, rfl, N, _, _, _, rfl, rfl, TR.ob.ls, atI_nat hqr0, _, _, _, _, true, rfl, .own (cs 0), .base (.ins hi0 (TG.cl 0 (by decide)) ty0.c1 ty0.c2 ty0.c3 ty0.c4), TG.kit 0 0 (by decide) (by decide), _, rfl, iteF ?_⟩
    refine ⟨_, rfl, N, _, rfl, .inr TR.ob.ls, ?_⟩
    rw [lq]
    refine ⟨(nds.length : Int), rfl, by omega, by omega, for_range (n := nds.length) (fun i σ H' => (∃ v1 v2 : Option V, σ = [some (.ref N), v1, v2]) ∧ Same H H') ⟨⟨none, none, rfl⟩, Same.refl H⟩ ?_ ?_⟩
    · rintro i σ H2 hi ⟨⟨v1, v2, rfl⟩, s2⟩
      have e0 : (0 : Int) + (i : Int) = (i : Nat) := by omega
      rw [e0]
      refine ⟨_, rfl, _, rfl, N, qs, nds, i, rfl, TR.same s2, hi, fun H3 s3 => ?_⟩
      exact ⟨_, rfl, _, rfl, iteF ⟨⟨_, _, rfl⟩, s2.trans s3⟩⟩
    · rintro σ H2 ⟨⟨v1, v2, rfl⟩, s2⟩
      exact k _ s2
/-- the folders but the root -/
def subs (nds : List Nd) : List Nat := (List.range nds.length).filter fun k => decide (k ≠ 0) && folB nds k
theorem mem_subs {nds : List Nd} {k : Nat} (h : k ∈ subs nds) : 0 < k ∧ ∃ o es, nds[k]? = some (.fol o es) := by
  obtain ⟨_, h2⟩ := List.mem_filter.mp h
  rw [Bool.and_eq_true] at h2
  have := of_decide_eq_true h2.1
  exact ⟨by omega, folB_iff.mp h2.2⟩
theorem scCF : FnScope ["nodes", "folders", "entered", "number", "found", "node"] ["nodes"] (defScope sCF) := ⟨rfl, rfl, rfl, by decide +kernel, rfl, by decide +kernel, by decide +kernel⟩
theorem ok_cf {fd fdE fdF : FuncData} (F : Fun K "check_folders" "check_folders" sCF fCF fd) (T : TxtK K mg fNum fAt fDigit fPool) (T2 : TxtT K mg fET fFF fCN fCF) (TG : TxtG K mg cs) (GE : FnOk P w K mg base CX0 1 fET fdE ["nodes"] (spET K cs)) (bE : Binds K fdE ["nodes"] []) (GF : FnOk P w K mg base CX0 1 fFF fdF ["nodes"] (spFound K cs)) (bF : Binds K fdF ["nodes"] []) :
    FnOk P w K mg base CX0 2 fCF fd ["nodes"] (spChk K cs) := by
  have nd := scCF.nd
  obtain ⟨tr, gr⟩ := TG.m_ROOT
  refine F.ok scCF (fun vs H Q E h => ?_) (fun cdv A outer s H vs Q E hr h => ?_)
  · obtain ⟨T, qs, nds, rfl, _⟩ := h
    rfl
  · obtain ⟨N, qs, nds, rfl, TR, hl, k⟩ := h
    have hrE : Room 1 _ := hr
    have hrF : Room 1 _ := hr
    have hu := hu_of hr
    have W := TR.wf
    have hs : sizeLine = 16777216 := sizeLine_eq
    have lq : (qs.map V.ref).length = nds.length := by rw [List.length_map, TR.ob.len]
    refine ⟨_, (pss_cons (ps_setLc (i := 1) (own := [("number", 3), ("node", 5)]) (g := gTup K 2 (gCons (gName 3) (gCons (gName 5) gNil))) (tt := tAnd (tTest (tOp rNe (tVar 3) (tC (V.int 0)))) (tB (tCB (rIsi K) (tCons (tVar 5) (tCons (tC (V.ref (cs 0))) tNil))))) rfl nd rfl rfl (sw_true rfl rfl rfl (by decide +kernel)) (pi_enumT (by rfl) T2.m_enumerate (pa_cons (pv 0) pa_nil)) (blkOk_by (N := ["nodes", "folders", "entered", "number", "found", "node"]) (sc := defScope sCF) (by decide +kernel)) (fun _ _ _ _ _ => (pg_tup (by rfl) (pgs_cons (pg_name (i := 3) nd rfl (Or.inl rfl)) (pgs_cons (pg_name (i := 5) nd rfl (Or.inl rfl)) pgs_nil)))) (fun _ _ _ _ _ => pts_one (PW.pt (pw_and (pt_cmpR op_ne (pv 3) (pe_glob (v := .int 0) (by rfl) gr ⟨_, rfl⟩) (nomark _)) (pw_and1 (pt_val (pe_callB call_isi (by rfl) T.m_isinstance (by decide +kernel) (pa_cons (pv 5) (pa_cons (pe_glob (v := .ref (cs 0)) (by rfl) TG.m_Folder rfl) pa_nil)))))))) (fun _ _ _ _ _ => (pv 3)))
  (pss_cons (ps_set (i := 2) nd rfl (Or.inl rfl) (pe_call GE hrE (by rfl) T2.g_et T2.kp_et bE .nil pass0 (pa_cons (pv 0) pa_nil)))
  (pss_cons (ps_for PassesOwn.never rfl (pi_list (pv 1)) (pg_name (i := 3) nd rfl (Or.inl rfl))
  (pss_one (ps_if (pt_cmpR op_ne (pe_ix ix_list (pv 2) (pv 3) (fun _ _ => rfl)) pe_int (nomark _)) (pss_one ps_dead) pss_nil)))
  (pss_cons (ps_set (i := 4) nd rfl (Or.inl rfl) (pe_call GF hrF (by rfl) T2.g_ff T2.kp_ff bF .nil pass0 (pa_cons (pv 0) pa_nil)))
  (pss_one (ps_for PassesOwn.never rfl (pi_list (pv 1)) (pg_name (i := 3) nd rfl (Or.inl rfl))
  (pss_one (ps_if (pt_cmp (pc_dnotin hu (pv 3) (pv 4))) (pss_one ps_dead) pss_nil)))))))), ?_⟩
    refine ⟨_, rfl, N, _, rfl, TR.ob.ls, fun D hD => ?_⟩
    refine lc_enumT (K := K) (a := N) (xs := qs.map V.ref) (i := 3) (j := 5) (by decide) (fun k => decide (k ≠ 0) && folB nds k) (fun i => V.int (i : Nat)) (by omega) hD (fun H' s => Same.sqT s TR.ob.ls) (fun i x H' R hx s hR => ?_) (fun i x H' R _ _ s hR => ⟨_, rfl, hR _ (Same.refl _)⟩) (fun H1 s1 e1 => ?_)
    · have hi : i < nds.length := by rw [← lq]; exact (List.getElem?_eq_some_iff.mp hx).1
      have hn : nds[i]? = some nds[i] := List.getElem?_eq_getElem hi
      generalize nds[i] = y at hn
      obtain ⟨q, hq, hqr, hO⟩ := (TR.same s).at_ hn
      have : x = .ref q := by rw [hqr] at hx; exact (Option.some.inj hx).symm
      subst this
      obtain ⟨dx, fs, hins, _⟩ := obj_ins hO
      have ci := clsI_lt y
      have ty := TG.ty _ ci
      refine ⟨_, rfl, rfl, _, rfl, ?_⟩
      have e1 : (!decide (V.int (i : Nat) = V.int 0)) = decide (i ≠ 0) := by
        by_cases e : i = 0
        · subst e; rfl
        · rw [decide_eq_false (fun z => by injection z with z; omega), decide_eq_true e]; rfl
      rw [e1]
      refine ite2 (fun c => ?_) (fun c => ?_)
      · refine ⟨_, rfl, _, _, _, _, decide (clsI y = 0), rfl, .own (cs 0), .base (.ins hins (TG.cl _ ci) ty.c1 ty.c2 ty.c3 ty.c4), TG.kit _ 0 ci (by decide), _, rfl, ?_⟩
        have e2 : decide (clsI y = 0) = (decide (i ≠ 0) && folB nds i) := by
          rw [c, Bool.true_and, folB_at hn]
          cases y <;> rfl
        rw [e2]
        exact hR _ (Same.refl _)
      · have e2 : false = (decide (i ≠ 0) && folB nds i) := by
          have : decide (i ≠ 0) = false := by simpa using c
          rw [this]; rfl
        rw [e2]
        exact hR _ (Same.refl _)
    · rw [lq] at e1
      replace e1 : H1 D = some (.lst ((subs nds).map fun i => V.int (i : Nat))) := e1
      refine ⟨_, rfl, N, qs, nds, rfl, TR.same s1, hl, fun H2 D2 s2 e2 => ?_⟩
      have e12 := s2 _ _ e1
      refine ⟨_, rfl, D, rfl, ⟨_, SqL.of e12⟩, for_list (K := K) (a := D) (xs := (subs nds).map fun i => V.int (i : Nat)) (fun i σ H' => (∃ v3 v4 v5 : Option V, σ = [some (.ref N), some (.ref D), some (.ref D2), v3, v4, v5]) ∧ H' = H2) ⟨⟨_, _, _, rfl⟩, rfl⟩ (fun i σ H' _ h => by rw [h.2]; exact SqL.of e12) ?_ ?_⟩
      · rintro i x σ H' hx ⟨⟨v3, v4, v5, rfl⟩, rfl⟩
        rw [List.getElem?_map] at hx
        cases es : (subs nds)[i]? with
        | none => rw [es] at hx; cases hx
        | some j =>
          rw [es] at hx
          cases Option.some.inj hx
          obtain ⟨j0, o, ee, hj⟩ := mem_subs (List.mem_of_getElem? es)
          have jl := (List.getElem?_eq_some_iff.mp hj).1
          refine ⟨_, rfl, _, rfl, D2, _, _, _, rfl, rfl, SqL.of e2, atI_nat (tally_get _ jl), rfl, _, rfl, ?_⟩
          rw [W.once j _ j0 hj rfl]
          exact iteF ⟨⟨_, _, _, rfl⟩, rfl⟩
      · rintro σ H' ⟨⟨v3, v4, v5, rfl⟩, rfl⟩
        refine ⟨_, rfl, N, qs, nds, rfl, (TR.same (s1.trans s2)).ob, W, hl, fun D3 kvs H3 s3 e3 hk => ?_⟩
        have e13 := s3 _ _ e12
        refine ⟨_, rfl, D, rfl, ⟨_, SqL.of e13⟩, for_list (K := K) (a := D) (xs := (subs nds).map fun i => V.int (i : Nat)) (fun i σ H' => (∃ v3 v5 : Option V, σ = [some (.ref N), some (.ref D), some (.ref D2), v3, some (.ref D3), v5]) ∧ H' = H3) ⟨⟨_, _, rfl⟩, rfl⟩ (fun i σ H' _ h => by rw [h.2]; exact SqL.of e13) ?_ ?_⟩
        · rintro i x σ H' hx ⟨⟨v3, v5, rfl⟩, rfl⟩
          rw [List.getElem?_map] at hx
          cases es : (subs nds)[i]? with
          | none => rw [es] at hx; cases hx
          | some j =>
            rw [es] at hx
            cases Option.some.inj hx
            obtain ⟨j0, o, ee, hj⟩ := mem_subs (List.mem_of_getElem? es)
            have hv := hk j ⟨o, ee, hj⟩
            refine ⟨_, rfl, _, rfl, D3, _, rfl, DGet.k (k := Sum.inl (j : Int)) e3, _, rfl, ?_⟩
            rw [hv]
            exact iteF ⟨⟨_, _, rfl⟩, rfl⟩
        · rintro σ H' ⟨⟨v3, v5, rfl⟩, rfl⟩
          exact k _ (s1.trans (s2.trans s3))
end
end NW

set_option maxRecDepth 100000
set_option maxHeartbeats 400000
namespace NW
open PySem L2 NG TR LamX
abbrev sTree : Stmt := top 62
/-- all but lists and tables -/
def ExtX (H H' : Hp) : Prop := ∀ b o, H b = some o → (∀ xs, o ≠ .lst xs) → (∀ ps, o ≠ .tbl ps) → H' b = some o
theorem ExtX.of {H H' : Hp} (e : ExtN H H') : ExtX H H' := fun b o h _ n => e b o h n
theorem ExtX.sqT {K : PySem.W.Frag} {H H' : Hp} {a : Addr} {xs : List V} (e : ExtX H H') (h : SqT K H a xs) : SqT K H' a xs := by
  rcases h with (h | ⟨o, h⟩) | h
  · exact .inl (.inl (e _ _ h (fun _ z => by cases z) (fun _ z => by cases z)))
  · exact .inl (.inr ⟨o, e _ _ h (fun _ z => by cases z) (fun _ z => by cases z)⟩)
  · exact .inr h
theorem ObjAt.ext {K : PySem.W.Frag} {cs : Nat → Addr} {H H' : Hp} {q : Addr} {nd : Nd} (h : ObjAt K cs H q nd) (e : ExtX H H') : ObjAt K cs H' q nd := by
  have i : ∀ {b C dx fs}, H b = some (.ins C dx fs) → H' b = some (.ins C dx fs) := fun h => e _ _ h (fun _ z => by cases z) (fun _ z => by cases z)
  cases nd with
  | fol o es =>
    obtain ⟨dx, E, ps, h1, h2, h3, h4⟩ := h
    exact ⟨dx, E, ps, i h1, h2.keep (fun o z => e _ _ z (fun _ q => by cases q) (fun _ q => by cases q)), h3, fun k p en a b => let ⟨x, y, z⟩ := h4 k p en a b; ⟨x, y, e.sqT z⟩⟩
  | fil o => exact let ⟨dx, h⟩ := h; ⟨dx, i h⟩
  | lnk o t => exact let ⟨dx, h⟩ := h; ⟨dx, i h⟩
  | gon o ab => exact let ⟨dx, h⟩ := h; ⟨dx, i h⟩
theorem extX_lst {H : Hp} {D : Addr} {xs ys : List V} (e : H D = some (.lst xs)) : ExtX H (upd H D (.lst ys)) := fun b o h n _ => by
  rw [upd_ne (fun z => n xs (by rw [z, e] at h; exact (Option.some.inj h).symm))]
  exact h
theorem tabs_lst {T : List (Addr × Str)} {H : Hp} {D : Addr} {xs ys : List V} (t : Tabs T H) (e : H D = some (.lst xs)) : Tabs T (upd H D (.lst ys)) := fun p hp => by
  obtain ⟨ps, a1, a2, a3⟩ := t p hp
  refine ⟨ps, by rw [upd_ne (ne_of a1 e (fun z => by cases z))]; exact a1, a2, fun pos cv hc => ?_⟩
  obtain ⟨c, e1, e2⟩ := a3 pos cv hc
  exact ⟨c, e1, by rw [upd_ne (ne_of e2 e (fun z => by unfold CodeO at z; cases z))]; exact e2⟩
/-- a tree in the heap -/
def TreeAt (K : PySem.W.Frag) (cs : Nat → Addr) (CT : Addr) (H : Hp) (t : Addr) (qs : List Addr) (nds : List Nd) : Prop := ∃ dx T, H t = some (.ins CT dx (fl1 "nodes" (.ref T))) ∧ Trees K cs H T qs nds
theorem TreeAt.same {K : PySem.W.Frag} {cs : Nat → Addr} {CT : Addr} {H H' : Hp} {t : Addr} {qs : List Addr} {nds : List Nd} (h : TreeAt K cs CT H t qs nds) (s : Same H H') : TreeAt K cs CT H' t qs nds :=
  let ⟨dx, T, h1, h2⟩ := h; ⟨dx, T, s _ _ h1, h2.same s⟩
def spTreeI (K : PySem.W.Frag) (cs : Nat → Addr) (CT : Addr) : Sp := fun vs H Q _ => ∃ (p dx L : Addr) (qs : List Addr) (nds : List Nd), vs = [.ref p, .ref L] ∧ H p = some (.ins CT dx []) ∧ SqL K H L (qs.map V.ref) ∧ qs.length = nds.length ∧ (∀ (i : Nat) (q : Addr) (nd : Nd), qs[i]? = some q → nds[i]? = some nd → ObjAt K cs H q nd ∧ q ≠ p) ∧ WF LinkText PL nds ∧ nds.length ≤ 1000 ∧
  ∀ H', But p H H' → TreeAt K cs CT H' p qs nds → Q .non H'
section
variable {P : Program} {w : World} {K : PySem.W.Frag} {mg : Str → Option Value} {base : Heap} {fName fStep fBy fNum fAt fDigit fPool fMay fWE fStood fBad fOwner fWN fET fFF fCN fCF f CT P0 : Addr} {cs : Nat → Addr}
theorem scTreeI : FnScope ["self", "nodes"] ["self", "nodes"] (defScope sTreeI) := ⟨rfl, rfl, rfl, by decide +kernel, rfl, by decide +kernel, by decide +kernel⟩
theorem ok_treeI {fd fdC fdF : FuncData} (F : Fun K "__init__" "Tree.__init__" sTreeI f fd) (TS : TxtS K mg fBy) (T2 : TxtT K mg fET fFF fCN fCF) (cl : Cls K CT) (h1 : NoAttr K CT "nodes") (GC : FnOk P w K mg base CX0 6 fCN fdC ["nodes"] (spChk K cs)) (bC : Binds K fdC ["nodes"] [])
    (GF : FnOk P w K mg base CX0 2 fCF fdF ["nodes"] (spChk K cs)) (bF : Binds K fdF ["nodes"] []) : FnOk P w K mg base CX0 7 f fd ["self", "nodes"] (spTreeI K cs CT) := by
  have nd := scTreeI.nd
  refine F.ok scTreeI (fun vs H Q E h => ?_) (fun cdv A outer s H vs Q E hr h => ?_)
  · obtain ⟨p, dx, L, qs, nds, rfl, _⟩ := h
    rfl
  · obtain ⟨p, dx, L, qs, nds, rfl, hp, hL, ql, hO, W, hl, k⟩ := h
    have hrC : Room 6 _ := hr
    have hrF : Room 2 _ := hr.mono (by decide)
    refine ⟨_, (pss_cons (ps_fld (pv 0) (pe_callTy call_tuple_of (by rfl) TS.m_tuple (by decide +kernel) (pa_cons (pv 1) pa_nil)) rfl)
  (pss_cons (ps_expr (pe_call GC hrC (by rfl) T2.g_cn T2.kp_cn bC .nil pass0 (pa_cons (pe_fld (pv 0) rfl) pa_nil)))
  (pss_one (ps_expr (pe_call GF hrF (by rfl) T2.g_cf T2.kp_cf bF .nil pass0 (pa_cons (pe_fld (pv 0) rfl) pa_nil)))))), ?_⟩
    refine ⟨_, rfl, L, _, rfl, .inl ⟨hL, fun T hT => ?_⟩⟩
    have sT := NG.Same.upd (o := HO.tup (qs.map V.ref)) hT
    have eT : (upd H T (HO.tup (qs.map V.ref))) T = some (.tup (qs.map V.ref)) := upd_same
    have hpT := sT _ _ hp
    generalize upd H T (HO.tup (qs.map V.ref)) = H1 at sT eT hpT ⊢
    refine ⟨_, rfl, p, CT, dx, _, rfl, hpT, cl, h1, (by show 0 < 1000; decide), ?_⟩
    have nTp : T ≠ p := ne_of eT hpT (fun z => by cases z)
    have b2 : But p H (upd H1 p (.ins CT dx (fl1 "nodes" (.ref T)))) := (But.ofSame sT).upd
    have ep : (upd H1 p (.ins CT dx (fl1 "nodes" (.ref T)))) p = some (.ins CT dx (fl1 "nodes" (.ref T))) := upd_same
    have eT2 : (upd H1 p (.ins CT dx (fl1 "nodes" (.ref T)))) T = some (.tup (qs.map V.ref)) := by rw [upd_ne nTp]; exact eT
    have TR : Trees K cs (upd H1 p (.ins CT dx (fl1 "nodes" (.ref T)))) T qs nds := by
      refine ⟨⟨SqT.of eT2, ql, fun i q x a b => ?_⟩, W⟩
      obtain ⟨h2, h3⟩ := hO i q x a b
      have bs : ∀ {a xs}, SqT K H a xs → SqT K (upd H1 p (.ins CT dx (fl1 "nodes" (.ref T)))) a xs := fun h => But.sqT hp b2 h
      cases x with
      | fol o es =>
        obtain ⟨dx', E, ps, h4, h5, h6, h7⟩ := h2
        exact ⟨dx', E, ps, b2 _ _ h4 h3, h5.keep (fun o e => b2 _ _ e (ne_of e hp (fun z => by cases z))), h6, fun k p en a b => let ⟨x, y, z⟩ := h7 k p en a b; ⟨x, y, bs z⟩⟩
      | fil o => exact let ⟨dx', h4⟩ := h2; ⟨dx', b2 _ _ h4 h3⟩
      | lnk o t => exact let ⟨dx', h4⟩ := h2; ⟨dx', b2 _ _ h4 h3⟩
      | gon o ab => exact let ⟨dx', h4⟩ := h2; ⟨dx', b2 _ _ h4 h3⟩
    show tSeq _ _ _ _ (upd H1 p (.ins CT dx (fl1 "nodes" (.ref T))))
    generalize upd H1 p (.ins CT dx (fl1 "nodes" (.ref T))) = H2 at b2 ep eT2 TR ⊢
    refine ⟨_, rfl, p, CT, dx, _, _, rfl, ep, cl, h1, (by unfold fl1; rw [lookup_putF, if_pos rfl]), T, qs, nds, rfl, TR, hl, fun H3 s3 => ?_⟩
    refine ⟨_, rfl, p, CT, dx, _, _, rfl, s3 _ _ ep, cl, h1, (by unfold fl1; rw [lookup_putF, if_pos rfl]), T, qs, nds, rfl, TR.same s3, hl, fun H4 s4 => ?_⟩
    exact k H4 (b2.same (s3.trans s4)) ⟨dx, T, s4 _ _ (s3 _ _ ep), TR.same (s3.trans s4)⟩
/-! ### _law_tree -/
structure TxtV (K : PySem.W.Frag) (mg : Str → Option Value) (fMade CT : Addr) : Prop where
  m_Tree : mg "Tree" = some (.ref CT)
  g_made : mg "_law_made" = some (.ref fMade)
  kp_made : PySem.W.keepIn K (.ref fMade) = true
def spTree (K : PySem.W.Frag) (cs : Nat → Addr) (CT P0 : Addr) : Sp := fun vs H Q _ => ∃ (N : Addr) (ads : List (Addr × Addr)) (nds : List Nd), vs = [.ref N] ∧ NdsAt H N ads nds ∧ WF LinkText PL nds ∧ nds.length ≤ 1000 ∧ Tabs [(P0, qBy)] H ∧
  ∀ H' t qs, ExtN H H' → Tabs [(P0, qBy)] H' → TreeAt K cs CT H' t qs (nds.map srtN) → Q (.ref t) H'
theorem scTree : FnScope ["_law_nodes_here", "_law_node"] ["_law_nodes_here"] (defScope sTree) := ⟨rfl, rfl, rfl, by decide +kernel, rfl, by decide +kernel, by decide +kernel⟩
theorem ok_tree {fMade fTI : Addr} {fd fdM fdT : FuncData} (F : Fun K "_law_tree" "_law_tree" sTree f fd) (T : TxtV K mg fMade CT) (MT : Mk K CT fTI) (GM : FnOk P w K mg base CX0 5 fMade fdM ["_law_node"] (spMade K cs P0)) (bM : Binds K fdM ["_law_node"] [])
    (GTr : FnOk P w K mg base CX0 7 fTI fdT ["self", "nodes"] (spTreeI K cs CT)) (bTr : Binds K fdT ["self", "nodes"] []) : FnOk P w K mg base CX0 9 f fd ["_law_nodes_here"] (spTree K cs CT P0) := by
  have nd := scTree.nd
  refine F.ok scTree (fun vs H Q E h => ?_) (fun cdv A outer s H vs Q E hr h => ?_)
  · obtain ⟨N, ads, nds, rfl, _⟩ := h
    rfl
  · obtain ⟨N, ads, nds, rfl, ND, W, hl, hT, k⟩ := h
    have hrT : Room 8 _ := hr
    have hrM : Room 5 _ := hr.mono (by decide)
    have hs : sizeLine = 16777216 := sizeLine_eq
    refine ⟨_, (pss_one (ps_ret (pe_make MT GTr hrT (by rfl) T.m_Tree bTr .nil pass0 (pa_cons (pe_lc (own := [("_law_node", 1)]) rfl nd (pi_list (pv 0)) (blkOk_by (N := ["_law_nodes_here", "_law_node"]) (sc := defScope sTree) (by decide +kernel)) (fun _ _ _ _ _ => (pg_name (i := 1) nd rfl (Or.inl rfl))) (fun _ _ _ _ _ => pts_nil) (fun _ _ _ _ _ => (pe_call GM hrM (by rfl) T.g_made T.kp_made bM .nil pass0 (pa_cons (pv 1) pa_nil)))) pa_nil)))), ?_⟩
    refine ⟨_, rfl, N, rfl, ⟨_, SqL.of ND.ls⟩, fun D hD => ?_⟩
    have xl : (ads.map fun a => V.ref a.1).length = nds.length := by rw [List.length_map, ND.len]
    have ND' : ∀ H', ExtN H H' → ∀ (i : Nat) (ad : Addr × Addr) (x : Nd), ads[i]? = some ad → nds[i]? = some x → NdAt H' ad x := fun H' e i ad x a b => by
      have h := ND.nds i ad x a b
      have tk : ∀ a xs, H a = some (.tup xs) → H' a = some (.tup xs) := fun a xs h => e _ _ h (fun _ z => by cases z)
      cases x with
      | fol o es =>
        obtain ⟨h1, ps, h2, h3, h4⟩ := h
        exact ⟨tk _ _ h1, ps, e _ _ h2 (fun _ z => by cases z), h3, fun k q en a b => (h4 k q en a b).mono tk⟩
      | fil o => exact tk _ _ h
      | lnk o t => exact tk _ _ h
      | gon o ab => exact tk _ _ h
    refine lc_rel (walk_list (K := K) (a := N)) (R := fun H' => ExtN H H' ∧ Tabs [(P0, qBy)] H') (S := fun a b => ExtN a b ∧ Tabs [(P0, qBy)] b) (Px := fun i y H' => ∃ q x, y = .ref q ∧ nds[i]? = some x ∧ ObjAt K cs H' q (srtN x)) (by rw [xl]; omega) ⟨extN_laid hD, tabs_laid hT hD⟩ (fun H2 r => ExtN.sqL r.1 (SqL.of ND.ls)) (fun _ _ r s => ⟨r.1.trans s.1, s.2⟩) (fun _ _ _ _ s e => s.1 _ _ e (fun _ z => by cases z))
      (fun i y _ _ s ⟨q, x, h1, h2, h3⟩ => ⟨q, x, h1, h2, h3.ext (.of s.1)⟩) (fun H' acc y r e => ⟨fun b u hb n => ?_, tabs_lst r.2 e⟩) (fun i y H' acc acc' eD ⟨q, x, h1, h2, h3⟩ => ⟨q, x, h1, h2, h3.ext (extX_lst eD)⟩) (fun i x H' Rk hx r hR => ?_) (fun H2 ys r2 e2 hy hys => ?_)
    · rw [upd_ne (ne_of_none hb hD)]
      exact r.1 _ _ hb n
    · rw [List.getElem?_map] at hx
      cases ea : ads[i]? with
      | none => rw [ea] at hx; cases hx
      | some ad =>
        rw [ea] at hx
        cases Option.some.inj hx
        have hi : i < nds.length := by rw [← ND.len]; exact (List.getElem?_eq_some_iff.mp ea).1
        have hn : nds[i]? = some nds[i] := List.getElem?_eq_getElem hi
        generalize nds[i] = y at hn
        have l12 := (W.base.uniq i _ hn).2
        exact ⟨_, rfl, ad.1, ad.2, y, rfl, ND' H' r.1 i ad y ea hn, by omega, r.2, fun H3 q e3 t3 hO => hR _ _ ⟨e3, t3⟩ ⟨q, y, rfl, hn, hO⟩⟩
    · rw [xl] at hy
      have ey : ys = (ys.map fun v => match v with | V.ref a => a | _ => 0).map V.ref := by
        apply List.ext_getElem?
        intro i
        rw [List.getElem?_map, List.getElem?_map]
        cases e : ys[i]? with
        | none => rfl
        | some y =>
          obtain ⟨q, x, rfl, _⟩ := hys i y e
          rfl
      generalize (ys.map fun v => match v with | V.ref a => a | _ => 0) = qs at ey
      subst ey
      rw [List.length_map] at hy
      refine fun x dx nx ndx nex => ?_
      have s3 := new_ext (C := CT) nx ndx
      have ex : (upd (upd H2 dx (.own x)) x (.ins CT dx [])) x = some (.ins CT dx []) := upd_same
      generalize upd (upd H2 dx (.own x)) x (.ins CT dx []) = H3 at s3 ex ⊢
      refine ⟨x, dx, D, qs, nds.map srtN, rfl, ex, SqL.of (s3 _ _ e2), by rw [hy, List.length_map], fun i q y hq hy' => ?_, wf_srt W, by rw [List.length_map]; exact hl, fun H4 b4 TA => ⟨rfl, k H4 x qs (fun b u e n => ?_) ?_ TA⟩⟩
      · obtain ⟨y0, h0, rfl⟩ := get_srt hy'
        obtain ⟨q', x', h1, h2, h3⟩ := hys i (.ref q) (by rw [List.getElem?_map, hq]; rfl)
        cases h1
        rw [h0] at h2
        cases Option.some.inj h2
        obtain ⟨_, _, h4, _⟩ := obj_ins h3
        exact ⟨h3.same s3, ne_of_none h4 nx⟩
      · exact b4 _ _ (s3 _ _ (r2.1 _ _ e n)) (ne_of_none (r2.1 _ _ e n) nx)
      · intro t ht
        obtain ⟨ps, a1, a2, a3⟩ := r2.2 t ht
        refine ⟨ps, b4 _ _ (s3 _ _ a1) (ne_of_none a1 nx), a2, fun pos cv hc => ?_⟩
        obtain ⟨c, e1, e2⟩ := a3 pos cv hc
        exact ⟨c, e1, b4 _ _ (s3 _ _ e2) (ne_of_none e2 nx)⟩
end
end NW

set_option maxRecDepth 100000
set_option maxHeartbeats 400000
namespace NW
open PySem L2 NG
abbrev sEnds : Stmt := top 17
structure TxtE (K : PySem.W.Frag) (mg : Str → Option Value) (fEnds : Addr) : Prop where
  g_ends_with_name : mg "ends_with_name" = some (.ref fEnds)
  kp_ends_with_name : PySem.W.keepIn K (.ref fEnds) = true
def endsName (xs : List Str) : Bool := match xs.getLast? with
  | none => false
  | some z => !decide (z = (".." : Str))
def spEnds (K : PySem.W.Frag) : Sp := fun vs H Q _ => ∃ (a : Addr) (xs : List Str), vs = [.ref a] ∧ SqT K H a (xs.map V.str) ∧ Q (.bl (endsName xs)) H
section
variable {P : Program} {w : World} {K : PySem.W.Frag} {mg : Str → Option Value} {base : Heap} {fName fStep fEnds : Addr}
theorem scEnds : FnScope ["steps"] ["steps"] (defScope sEnds) := ⟨rfl, rfl, rfl, by decide +kernel, rfl, by decide +kernel, by decide +kernel⟩
theorem ok_ends {fd : FuncData} (F : Fun K "ends_with_name" "ends_with_name" sEnds fEnds fd) (T : TxtN K mg fName fStep) : FnOk P w K mg base CX0 1 fEnds fd ["steps"] (spEnds K) := by
  have nd := scEnds.nd
  refine F.ok scEnds (fun vs H Q E h => ?_) (fun cdv A outer s H vs Q E hr h => ?_)
  · obtain ⟨a, xs, rfl, _⟩ := h
    rfl
  · obtain ⟨a, xs, rfl, hS, k⟩ := h
    refine ⟨_, (pss_one (ps_ret (pe_and (pe_cmpR op_gt (pe_callB call_len_seq (by rfl) T.m_len (by decide +kernel) (pa_cons (pv 0) pa_nil)) pe_int (nomark _)) (pe_one (pe_cmpR op_ne (pe_ix ix_tup (pv 0) (pe_un un_neg pe_int) (fun _ _ => rfl)) pe_str (nomark _)))))), ?_⟩
    refine ⟨_, rfl, a, _, rfl, .inr hS, _, _, rfl, rfl, _, rfl, ?_⟩
    rcases List.eq_nil_or_concat xs with rfl | ⟨ys, z, ez⟩
    · exact iteF k
    · rw [List.concat_eq_append] at ez
      subst ez
      have hl : decide ((0 : Int) < ((((ys ++ [z]).map V.str).length : Nat) : Int)) = true := decide_eq_true (by rw [List.length_map, List.length_append, List.length_singleton]; omega)
      rw [hl]
      refine iteT ⟨_, rfl, _, rfl, a, _, _, .str z, rfl, rfl, hS, ?_, rfl, ?_⟩
      · have : (ys ++ [z]).map V.str = ys.map V.str ++ [V.str z] := by simp
        rw [this]
        exact atI_last _ _
      · have e : (!decide (V.str z = V.str "..")) = endsName (ys ++ [z]) := by
          unfold endsName
          rw [List.getLast?_append]
          show _ = !decide (z = (".." : Str))
          congr 1
          by_cases h : z = ".."
          · simp [h]
          · rw [decide_eq_false h, decide_eq_false (fun q => h (V.str.inj q))]
        show Q (V.bl (!decide (V.str z = V.str ".."))) H
        rw [e]
        exact k
end
section
open PyProof.Rows
/-- X(), X an own exception class without own __init__ -/
theorem pmk_own0 {X : Cx} {C : Addr} {bmB : List Value} {B newId initId : String} {x : Str} {p pos : Pos} (F : ExcBaseFacts B newId initId bmB) (q : PySem.W.excIn X.K C bmB newId = true) (gC : X.mg x = some (.ref C))
    (kC : PySem.W.keepIn X.K (.ref C) = true) (r : Raises X (.ref C)) (hg : Gl X x) (hdb : (x == ("__debug__" : Str)) = false := by decide) :
    PMk X (.Call (.Name x p) [] [] pos) (fun _ H Q => Q (.ref C) none H) := by
  intro pins s σ H Q I h
  refine wpAny_Call_Name_kw (ld_glob I hg gC ?_ hdb)
  refine PySem.W.callWith_K0 I.kIn kC ?_
  show wpAny _ _ (call (.ref C) []) _ _ _
  obtain ⟨bm, N, nm, qn, bs, hdct, sn, sub, ab, col, dd, k0, k1, k2, k3, k5, mN, hC, hN, hni, T⟩ := exc_obj I.kIn q
  refine wpAny_call_exc_subT F T hC hN hni (fun h' e hm => ?_) (by show 0 ≤ sizeLine; exact Nat.zero_le _)
  exact mk_of I hm r h (I.hok.gone hm.new)
end
abbrev sInit : Stmt := inClass (top 15) 0
abbrev sEq : Stmt := inClass (top 15) 1
/-! ### paths -/
def okPath (xs : List Str) (fo : Bool) : Bool := xs.all stepZ && (fo || endsName xs)
def pfl (t : Addr) (ab fo : Bool) : List (Str × V) := putF "folder" (.bl fo) (putF "absolute" (.bl ab) (putF "steps" (.ref t) []))
theorem n_sa : ¬ (("steps" : Str) = "absolute") := by decide +kernel
theorem n_sf : ¬ (("steps" : Str) = "folder") := by decide +kernel
theorem n_af : ¬ (("absolute" : Str) = "folder") := by decide +kernel
theorem pfl_steps (t : Addr) (ab fo : Bool) : (pfl t ab fo).lookup ("steps" : Str) = some (.ref t) := by
  unfold pfl
  rw [lookup_putF, if_neg n_sf, lookup_putF, if_neg n_sa, lookup_putF, if_pos rfl]
theorem pfl_abs (t : Addr) (ab fo : Bool) : (pfl t ab fo).lookup ("absolute" : Str) = some (.bl ab) := by
  unfold pfl
  rw [lookup_putF, if_neg n_af, lookup_putF, if_pos rfl]
theorem pfl_fo (t : Addr) (ab fo : Bool) : (pfl t ab fo).lookup ("folder" : Str) = some (.bl fo) := by
  unfold pfl
  rw [lookup_putF, if_pos rfl]
def SqLT (K : PySem.W.Frag) (H : Hp) (a : Addr) (xs : List V) : Prop := SqL K H a xs ∨ SqT K H a xs
structure PathAt (K : PySem.W.Frag) (C : Addr) (H : Hp) (p : Addr) (xs : List Str) (ab fo : Bool) : Prop where
  ob : ∃ dx t, H p = some (.ins C dx (pfl t ab fo)) ∧ SqT K H t (xs.map V.str)
def spPath (K : PySem.W.Frag) (C CN : Addr) : Sp := fun vs H Q E => ∃ (p dx a : Addr) (xs : List Str) (ab fo : Bool), vs = [.ref p, .ref a, .bl ab, .bl fo] ∧ H p = some (.ins C dx []) ∧ SqLT K H a (xs.map V.str) ∧ (∀ z ∈ xs, z.length ≤ sizeLine) ∧ xs.length < sizeLine ∧
  (okPath xs fo = true → ∀ H', But p H H' → PathAt K C H' p xs ab fo → Q .non H') ∧ (okPath xs fo = false → ∀ H', But p H H' → E (.ref CN) none H')
structure TxtP (K : PySem.W.Frag) (mg : Str → Option Value) (C CN : Addr) : Prop where
  m_tuple : mg "tuple" = none
  g_Path : mg "Path" = some (.ref C)
  cl : Cls K C
  nS : NoAttr K C "steps"
  nA : NoAttr K C "absolute"
  nF : NoAttr K C "folder"
  xP : PySem.W.excIn K CN [.type "ValueError", .type "Exception", .type "BaseException", .type "object"] "ValueError.__new__" = true
  gP : mg "NoPath" = some (.ref CN)
  kP : PySem.W.keepIn K (.ref CN) = true
  bP : PySem.W.subIn K (.ref CN) (.type "BaseException") = some true
  tP : PySem.W.typeIn K (.ref CN) = some (.type "type")
section
variable {P : Program} {w : World} {K : PySem.W.Frag} {mg : Str → Option Value} {base : Heap} {fName fStep fEnds C CN fI : Addr}
theorem scInit : FnScope ["self", "steps", "absolute", "folder", "step"] ["self", "steps", "absolute", "folder"] (defScope sInit) := ⟨rfl, rfl, rfl, by decide +kernel, rfl, by decide +kernel, by decide +kernel⟩
theorem ok_pinit {fd fdS fdE : FuncData} (F : Fun K "__init__" "Path.__init__" sInit fI fd) (T0 : TxtN K mg fName fStep) (TE : TxtE K mg fEnds) (T : TxtP K mg C CN)
    (G_is_step : FnOk P w K mg base CX0 2 fStep fdS ["value"] spStep) (b_is_step : Binds K fdS ["value"] []) (G_ends_with_name : FnOk P w K mg base CX0 1 fEnds fdE ["steps"] (spEnds K)) (b_ends_with_name : Binds K fdE ["steps"] []) :
    FnOk P w K mg base (L2.CX P w) 4 fI fd ["self", "steps", "absolute", "folder"] (spPath K C CN) := by
  have nd := scInit.nd
  refine F.okX scInit (fun vs H Q E h => ?_) (fun cdv A outer s H vs Q E hr h => ?_)
  · obtain ⟨p, dx, a, xs, ab, fo, rfl, _⟩ := h
    rfl
  · obtain ⟨p, dx, a, xs, ab, fo, rfl, hp, hS, hz, hl, kO, kE⟩ := h
    have hr_is_step : Room 2 _ := hr.mono (by decide)
    have hr_ends_with_name : Room 1 _ := hr.mono (by decide)
    refine ⟨_, (pss_cons (ps_fld (pv 0) (pe_callTy call_tuple_of (by rfl) T.m_tuple (by decide +kernel) (pa_cons (pv 1) pa_nil)) rfl)
  (pss_cons (ps_fld (pv 0) (pv 2) rfl)
  (pss_cons (ps_fld (pv 0) (pv 3) rfl)
  (pss_cons (ps_if (pt_not (pt_val (pe_callB (cr_all rfl) (by rfl) T0.m_all (by decide +kernel) (pa_cons (pe_lc (own := [("step", 4)]) rfl nd (pi_tup (pe_fld (pv 0) rfl)) (blkOk_by (N := ["self", "steps", "absolute", "folder", "step"]) (sc := defScope sInit) (by decide +kernel)) (fun _ _ _ _ _ => (pg_name (i := 4) nd rfl (Or.inl rfl))) (fun _ _ _ _ _ => pts_nil) (fun _ _ _ _ _ => (pe_call G_is_step hr_is_step (by rfl) T0.g_is_step T0.kp_is_step b_is_step .nil pass0 (pa_cons (pv 4) pa_nil)))) pa_nil)))) (pss_one (ps_raise rfl (takes_of rfl rfl rfl rfl) (pmk_own0 PySem.F.excBase_ValueError T.xP T.gP T.kP (raises_own T.bP T.tP) rfl))) pss_nil)
  (pss_one (ps_if (PW.pt (pw_and (pt_not (pt_val (pv 3))) (pw_and1 (pt_not (pt_val (pe_call G_ends_with_name hr_ends_with_name (by rfl) TE.g_ends_with_name TE.kp_ends_with_name b_ends_with_name .nil pass0 (pa_cons (pe_fld (pv 0) rfl) pa_nil))))))) (pss_one (ps_raise rfl (takes_of rfl rfl rfl rfl) (pmk_own0 PySem.F.excBase_ValueError T.xP T.gP T.kP (raises_own T.bP T.tP) rfl))) pss_nil)))))), ?_⟩
    refine ⟨_, rfl, a, xs.map V.str, rfl, ?_⟩
    have e0 : But p H H := But.refl p H
    have fin : ∀ (H' : Hp) (t : Addr), But p H H' → H' p = some (.ins C dx (pfl t ab fo)) → SqT K H' t (xs.map V.str) → okPath xs fo = true → Q .non H' := fun H' t b1 b2 b3 b4 => kO b4 H' b1 ⟨⟨dx, t, b2, b3⟩⟩
    have l2 : ∀ t, (putF "absolute" (.bl ab) (putF "steps" (V.ref t) [])).length < 1000 := fun t => by
      have a1 := len_putF "absolute" (.bl ab) (putF "steps" (V.ref t) [])
      have a2 := len_putF "steps" (V.ref t) []
      simp only [List.length_nil] at a2
      omega
    have hxl : (xs.map V.str).length < sizeLine := by rw [List.length_map]; exact hl
    have getz : ∀ (k : Nat) (x : V), (xs.map V.str)[k]? = some x → ∃ z, x = .str z ∧ z ∈ xs := fun k x h => by
      rw [List.getElem?_map] at h
      cases e : xs[k]? with
      | none => rw [e] at h; cases h
      | some z => rw [e] at h; exact ⟨z, (Option.some.inj h).symm, List.mem_of_getElem? e⟩
    let fS : V → V := fun v => match v with | .str z => .bl (stepZ z) | _ => .bl false
    have hall : (xs.map V.str).map fS = (xs.map stepZ).map V.bl := by
      rw [List.map_map, List.map_map]
      rfl
    have hall2 : (xs.map stepZ).all id = xs.all stepZ := by rw [List.all_map]; rfl
    have rest : ∀ (H3 : Hp) (t : Addr), But p H H3 → H3 p = some (.ins C dx (pfl t ab fo)) → SqT K H3 t (xs.map V.str) →
        (tSeq (tIfS (tNot (tB (tCB (rAll K) (tCons (tLc (iTup K (tFld K (tVar 0) "steps")) (gName 4) tYes (tCall spStep [] E0 (tCons (tVar 4) tNil)) [4]) tNil)))) (fun _ _ H => E (.ref CN) none H) tNext)
          (tIfS (tAnd (tNot (tB (tVar 3))) (tNot (tB (tCall (spEnds K) [] E0 (tCons (tFld K (tVar 0) "steps") tNil))))) (fun _ _ H => E (.ref CN) none H) tNext) : TS)
          { nx := fun _ H' => Q .non H', rt := Q } (start ["self", "steps", "absolute", "folder", "step"] [.ref p, .ref a, .bl ab, .bl fo]) H3 := fun H3 t b3 p3 q3 => by
      refine ⟨_, rfl, p, C, dx, _, _, rfl, p3, T.cl, T.nS, pfl_steps _ _ _, t, rfl, ⟨_, q3⟩, fun D hD => lc_map (walk_tup (K := K) (a := t)) fS hxl hD (fun H s => Same.sqT s q3) (fun k x H4 R hk s4 hR => ?_) (fun H4 s4 e4 => ?_)⟩
      · obtain ⟨z, rfl, hzx⟩ := getz k x hk
        exact ⟨_, rfl, z, rfl, hz z hzx, fun H' s' => hR H' s'⟩
      · rw [hall] at e4
        refine ⟨D, xs.map stepZ, rfl, SqL.of e4, _, rfl, ?_⟩
        rw [hall2]
        have b4 := b3.same s4
        have p4 := s4 _ _ p3
        have q4 := Same.sqT s4 q3
        cases ha : xs.all stepZ with
        | false =>
          refine iteT ?_
          exact kE (by unfold okPath; rw [ha]; rfl) _ b4
        | true =>
          refine iteF ?_
          refine ⟨_, rfl, _, rfl, ?_⟩
          cases fo with
          | true =>
            refine iteF (iteF ?_)
            exact fin _ t b4 p4 q4 (by unfold okPath; rw [ha]; rfl)
          | false =>
            refine iteT ⟨_, rfl, p, C, dx, _, _, rfl, p4, T.cl, T.nS, pfl_steps _ _ _, t, xs, rfl, q4, _, rfl, ?_⟩
            cases he : endsName xs with
            | true =>
              refine iteF ?_
              exact fin _ t b4 p4 q4 (by unfold okPath; rw [ha, he]; rfl)
            | false =>
              refine iteT ?_
              exact kE (by unfold okPath; rw [ha, he]; rfl) _ b4
    rcases hS with hS | hS
    · refine .inl ⟨hS, fun t ht => ?_⟩
      have npt : p ≠ t := ne_of_none hp ht
      refine ⟨_, rfl, p, C, dx, _, rfl, by rw [upd_ne npt]; exact hp, T.cl, T.nS, (by show 0 < 1000; decide), ?_⟩
      refine ⟨_, rfl, _, rfl, p, C, dx, _, rfl, upd_same, T.cl, T.nA, (by show 1 < 1000; decide), ?_⟩
      refine ⟨_, rfl, _, rfl, p, C, dx, _, rfl, upd_same, T.cl, T.nF, l2 _, ?_⟩
      refine rest _ t ?_ upd_same ?_
      · exact (((But.ofSame (NG.Same.upd ht)).upd).upd).upd
      · exact SqT.of (by rw [upd_ne npt.symm, upd_ne npt.symm, upd_ne npt.symm, upd_same])
    · refine .inr ⟨hS, ?_⟩
      refine ⟨_, rfl, p, C, dx, _, rfl, hp, T.cl, T.nS, (by show 0 < 1000; decide), ?_⟩
      refine ⟨_, rfl, _, rfl, p, C, dx, _, rfl, upd_same, T.cl, T.nA, (by show 1 < 1000; decide), ?_⟩
      refine ⟨_, rfl, _, rfl, p, C, dx, _, rfl, upd_same, T.cl, T.nF, l2 _, ?_⟩
      have bb : ∀ o1 o2 o3, But p H (upd (upd (upd H p o1) p o2) p o3) := fun o1 o2 o3 => ((e0.upd).upd).upd
      exact rest _ a (bb _ _ _) upd_same (But.sqT hp (bb _ _ _) hS)
end
end NW

set_option maxRecDepth 100000
set_option maxHeartbeats 400000
namespace NW
open PySem L2 NG
abbrev sBTI : Stmt := inClass (top 5) 0
abbrev sRead : Stmt := top 19
structure TxtB (K : PySem.W.Frag) (mg : Str → Option Value) (CB fBI fBad : Addr) : Prop where
  ox : OexC K CB
  nP : PySem.W.findIn K (.ref CB) "place" = some none
  iC : PySem.W.findIn K (.ref CB) "__init__" = some (some (.ref fBI))
  tI : PySem.W.typeIn K (.ref fBI) = some (.type "function")
  gB : mg "BadText" = some (.ref CB)
  g_bad_place : mg "bad_place" = some (.ref fBad)
  kp_bad_place : PySem.W.keepIn K (.ref fBad) = true
def spBTI (K : PySem.W.Frag) (C : Addr) : Sp := fun vs H Q _ => ∃ (a : Addr) (v : V), vs = [.ref a, v] ∧ H a = some (exo a C none) ∧ ∀ dx, H dx = none → dx ≠ a → Q .non (upd (upd H dx (exd dx [("place", v)])) a (exo a C (some dx)))
section
variable {P : Program} {w : World} {K : PySem.W.Frag} {mg : Str → Option Value} {base : Heap} {CB fBI fBad : Addr}
theorem scBTI : FnScope ["self", "place"] ["self", "place"] (defScope sBTI) := ⟨rfl, rfl, rfl, by decide +kernel, rfl, by decide +kernel, by decide +kernel⟩
theorem ok_bti {fd : FuncData} (F : Fun K "__init__" "BadText.__init__" sBTI fBI fd) (T : TxtB K mg CB fBI fBad) : FnOk P w K mg base CX0 1 fBI fd ["self", "place"] (spBTI K CB) := by
  refine F.ok scBTI (fun vs H Q E h => ?_) (fun cdv A outer s H vs Q E hr h => ?_)
  · obtain ⟨a, v, rfl, _⟩ := h
    rfl
  · obtain ⟨a, v, rfl, ha, k⟩ := h
    refine ⟨_, pss_one (ps_ost (pv 0) (pv 1)), ?_⟩
    exact ⟨_, rfl, _, rfl, a, CB, rfl, T.ox, T.nP, .inl ⟨ha, fun dx h1 h2 => k dx h1 h2⟩⟩
end
theorem read_ok {z : Str} {ps : List Str} (A : PartsAre z ps) (h : badP z = none) : okPath (stepsOf ps) (folOf ps) = true := by
  have hb : ∀ p ∈ ps, badPart p = false := by
    unfold badP at h
    by_cases h0 : z = ("" : Str)
    · rw [if_pos h0] at h; cases h
    · rw [if_neg h0, A.sp] at h
      exact goBad_none h
  unfold okPath
  rw [Bool.and_eq_true]
  constructor
  · rw [List.all_eq_true]
    intro p hp
    have h1 := hb p (List.mem_filter.mp hp).1
    have h2 := (List.mem_filter.mp hp).2
    unfold badPart at h1
    rw [h2] at h1
    simpa using h1
  · rcases List.eq_nil_or_concat ps with e | ⟨ys, q, e⟩
    · exact absurd e A.ne
    · rw [List.concat_eq_append] at e
      subst e
      unfold folOf
      rw [List.getLast?_append]
      show (fol3 q || endsName (stepsOf (ys ++ [q]))) = true
      cases h3 : fol3 q with
      | true => rfl
      | false =>
        unfold fol3 at h3
        simp only [Bool.or_eq_false_iff] at h3
        have hpl : plain q = false := by unfold plain; simp [h3.1, h3.2.1]
        have : stepsOf (ys ++ [q]) = stepsOf ys ++ [q] := by
          unfold stepsOf
          rw [List.filter_append]
          congr 1
          simp [hpl]
        rw [this]
        unfold endsName
        rw [List.getLast?_append]
        have h4 : ¬ q = (".." : Str) := by simpa using h3.2.2
        show (!decide (q = (".." : Str))) = true
        rw [decide_eq_false h4]
        rfl
def spRead (K : PySem.W.Frag) (C CB : Addr) : Sp := fun vs H Q E => (∃ (x : V) (t : Value), vs = [x] ∧ TyX K H x t ∧ PySem.W.kitOne K t (.type "str") = some false ∧ ∀ d H', Same H H' → H d = none → H' d = some (.xd [("place", .int 0)]) → E (.ref CB) (some d) H') ∨
  (∃ (z : Str) (ps : List Str), vs = [.str z] ∧ PartsAre z ps ∧ (∀ n, badP z = some n → ∀ d H', Same H H' → H d = none → H' d = some (.xd [("place", .int (n : Nat))]) → E (.ref CB) (some d) H') ∧
    (badP z = none → ∀ p H', Same H H' → H p = none → PathAt K C H' p (stepsOf ps) (absOf ps) (folOf ps) → Q (.ref p) H'))
section
variable {P : Program} {w : World} {K : PySem.W.Frag} {mg : Str → Option Value} {base : Heap} {fName fStep fEnds C CN CB fI fBI fBad fRead : Addr}
theorem scRead : FnScope ["text", "place", "parts", "steps", "part"] ["text"] (defScope sRead) := ⟨rfl, rfl, rfl, by decide +kernel, rfl, by decide +kernel, by decide +kernel⟩
theorem ok_read {fd fdB fdI fdBI : FuncData} (F : Fun K "read_path" "read_path" sRead fRead fd) (T1 : TxtP K mg C CN) (T3 : TxtB K mg CB fBI fBad)
    (G_bad_place : FnOk P w K mg base CX0 3 fBad fdB ["text"] (spBad K)) (b_bad_place : Binds K fdB ["text"] []) (G_bti : FnOk P w K mg base CX0 1 fBI fdBI ["self", "place"] (spBTI K CB)) (b_bti : Binds K fdBI ["self", "place"] [])
    (M_Path : Mk K C fI) (G_Path : FnOk P w K mg base (L2.CX P w) 4 fI fdI ["self", "steps", "absolute", "folder"] (spPath K C CN)) (b_Path : Binds K fdI ["self", "steps", "absolute", "folder"] []) :
    FnOk P w K mg base (L2.CX P w) 6 fRead fd ["text"] (spRead K C CB) := by
  have nd := scRead.nd
  refine F.okX scRead (fun vs H Q E h => ?_) (fun cdv A outer s H vs Q E hr h => ?_)
  · rcases h with ⟨x, t, rfl, _⟩ | ⟨z, ps, rfl, _⟩
    · rfl
    · rfl
  · have hr_bad_place : Room 3 _ := hr.mono (by decide)
    have hr_bti : Room 2 _ := hr.mono (by decide)
    have hr_Path : Room 5 _ := hr
    refine ⟨_, (pss_cons (ps_set (i := 1) nd rfl (Or.inl rfl) (pe_call G_bad_place hr_bad_place (by rfl) T3.g_bad_place T3.kp_bad_place b_bad_place .nil pass0 (pa_cons (pv 0) pa_nil)))
  (pss_cons (ps_if (pt_cmp (pc_notN (pv 1))) (pss_one (ps_raise rfl (takes_of rfl rfl rfl rfl) (pmk_oex T3.ox T3.iC T3.tI G_bti hr_bti b_bti .nil pass0 (by rfl) T3.gB (pa_cons (pv 1) pa_nil)))) pss_nil)
  (pss_cons (ps_set (i := 2) nd rfl (Or.inl rfl) (pe_split (pv 0) pe_str))
  (pss_cons (ps_setLc (i := 3) (own := [("part", 4)]) (tt := tTest (tOp (rIn K true) (tVar 4) (tTup (tCons (tC (V.str "")) (tCons (tC (V.str ".")) tNil))))) rfl nd rfl rfl (sw_true rfl rfl rfl (by decide +kernel)) (pi_list (pv 2)) (blkOk_by (N := ["text", "place", "parts", "steps", "part"]) (sc := defScope sRead) (by decide +kernel)) (fun _ _ _ _ _ => (pg_name (i := 4) nd rfl (Or.inl rfl))) (fun _ _ _ _ _ => pts_one (pt_cmpR op_notIn_seq (pv 4) (pe_tup (pa_cons pe_str (pa_cons pe_str pa_nil))) (by rfl))) (fun _ _ _ _ _ => (pv 4)))
  (pss_one (ps_ret (pe_make M_Path G_Path hr_Path (by rfl) T1.g_Path b_Path .nil (passes_call takes0 (fun _ _ _ _ h => h)) (pa_cons (pv 3) (pa_cons (pe_cmpR op_eq (pe_ix ix_list (pv 2) pe_int (fun _ _ => rfl)) pe_str (nomark _)) (pa_cons (pe_cmpR op_in_seq (pe_ix ix_list (pv 2) (pe_un un_neg pe_int) (fun _ _ => rfl)) (pe_tup (pa_cons pe_str (pa_cons pe_str (pa_cons pe_str pa_nil)))) (by rfl)) pa_nil)))))))))), ?_⟩
    -- what raise BadText(place) leads to
    have rz : ∀ (x : V) (n : Int) (H1 : Hp), Same H H1 → (∀ d H', Same H H' → H d = none → H' d = some (.xd [("place", .int n)]) → E (.ref CB) (some d) H') →
        tMkO CB (spBTI K CB) [] (tCons (tVar 1) tNil) [some x, some (.int n), none, none, none] H1 (fun cls d H' => E cls d H') := fun x n H1 s1 k => by
      refine ⟨_, rfl, (by show 1 ≤ 1000; decide), fun a ha => ⟨a, _, rfl, upd_same, fun dx h1 h2 => ⟨rfl, dx, [("place", .int n)], upd_same, ?_, ?_, ?_⟩⟩⟩
      · rw [upd_ne h2, upd_same]
      · rw [upd_ne h2] at h1; exact h1
      · have h1' : H1 dx = none := by rw [upd_ne h2] at h1; exact h1
        refine k dx _ (fun b o e => ?_) (s1.free h1') upd_same
        have e1 := s1 _ _ e
        have nb : b ≠ dx := ne_of_none e1 h1'
        have na : b ≠ a := ne_of_none e1 ha
        rw [upd_ne nb, del_ne na, upd_ne na, upd_ne nb, upd_ne na]
        exact e1
    rcases h with ⟨x, t, rfl, ty, kt, k⟩ | ⟨z, ps, rfl, A1, kS, kN⟩
    · refine ⟨_, rfl, .inl ⟨x, t, rfl, ty, kt, ?_⟩⟩
      refine ⟨_, rfl, _, rfl, ?_⟩
      refine iteT ?_
      exact rz x 0 H (Same.refl H) k
    · obtain ⟨esp, hne, hok, hzl, hpl⟩ := id A1
      refine ⟨_, rfl, .inr ⟨z, rfl, hzl, fun p hp => (hok p (esp ▸ hp)).1, fun n en H1 s1 => ?_, fun en H1 s1 => ?_⟩⟩
      · refine ⟨_, rfl, _, rfl, ?_⟩
        refine iteT ?_
        exact rz (.str z) n H1 s1 (kS n en)
      · refine ⟨_, rfl, _, rfl, ?_⟩
        refine iteF ?_
        refine ⟨_, rfl, ⟨z, rfl⟩, z, "/", rfl, rfl, by decide +kernel, hzl, fun q hq => ?_⟩
        have s2 : Same H1 (upd H1 q (.lst ((Txt.split z "/").map V.str))) := NG.Same.upd hq
        have eq0 : (upd H1 q (.lst ((Txt.split z "/").map V.str))) q = some (.lst (ps.map V.str)) := by rw [upd_same, ← esp]; rfl
        have hxl : (ps.map V.str).length < sizeLine := by rw [List.length_map]; exact hpl
        let pS : V → Bool := fun v => match v with | .str z => !plain z | _ => false
        have efl : ((ps.map V.str).filter pS).map (fun v => v) = (stepsOf ps).map V.str := by
          rw [List.map_id', List.filter_map]
          rfl
        refine ⟨_, rfl, q, rfl, ⟨_, SqL.of eq0⟩, fun D hD => lc_gen (walk_list (K := K) (a := q)) pS (fun v => v) hxl hD (fun H' s => SqL.of (s _ _ eq0)) (fun k x H4 R hk s4 hR => ?_) (fun k x H4 R hk _ s4 hR => ⟨_, rfl, hR _ (Same.refl _)⟩) (fun H4 s4 e4 => ?_)⟩
        · obtain ⟨zz, rfl⟩ : ∃ zz, x = V.str zz := by
            rw [List.getElem?_map] at hk
            cases e : ps[k]? with
            | none => rw [e] at hk; cases hk
            | some zz => rw [e] at hk; exact ⟨zz, (Option.some.inj hk).symm⟩
          refine ⟨_, rfl, (by show 2 ≤ sizeLine; decide), fun t ht => ⟨t, _, rfl, .inr (SqT.of upd_same), rfl, rfl, _, rfl, ?_⟩⟩
          rw [inV2]
          exact hR _ (NG.Same.upd ht)
        · rw [efl] at e4
          have eq4 : H4 q = some (.lst (ps.map V.str)) := s4 _ _ eq0
          obtain ⟨q0, r0, e0⟩ : ∃ q0 r0, ps = q0 :: r0 := by
            cases ps with
            | nil => exact absurd rfl hne
            | cons a b => exact ⟨a, b, rfl⟩
          obtain ⟨ys, ql, el⟩ : ∃ ys ql, ps = ys ++ [ql] := by
            rcases List.eq_nil_or_concat ps with e | ⟨ys, q, e⟩
            · exact absurd e hne
            · rw [List.concat_eq_append] at e; exact ⟨ys, q, e⟩
          refine ⟨_, rfl, _, rfl, q, _, _, .str q0, rfl, rfl, SqL.of eq4, atI_nat (j := 0) (by rw [e0]; rfl), rfl, ?_⟩
          refine ⟨_, rfl, _, rfl, q, _, _, .str ql, rfl, rfl, SqL.of eq4, (by rw [el, List.map_append]; exact atI_last _ _), (by show 3 ≤ sizeLine; decide), fun t ht => ⟨t, _, rfl, .inr (SqT.of upd_same), rfl, rfl, ?_⟩⟩
          intro x dx hx hdx hne'
          have e1 : decide (V.str q0 = V.str "") = absOf ps := by
            rw [e0]
            show _ = decide (q0 = ("" : Str))
            by_cases h : q0 = ("" : Str)
            · simp [h]
            · rw [decide_eq_false h, decide_eq_false (fun z => h (V.str.inj z))]
          have e2 : (if false = true then !inV (V.str ql) [V.str "", V.str ".", V.str ".."] else inV (V.str ql) [V.str "", V.str ".", V.str ".."]) = folOf ps := by
            have : folOf ps = fol3 ql := by rw [el]; unfold folOf; rw [List.getLast?_append]; rfl
            rw [this]
            show ((("" : Str) == ql) || ((("." : Str) == ql) || (((".." : Str) == ql) || false))) = _
            rw [Bool.or_false, Bool.beq_comm (a := ("" : Str)), Bool.beq_comm (a := ("." : Str)), Bool.beq_comm (a := (".." : Str))]
            rfl
          have s5 : Same H4 (upd H4 t (.tup [.str "", .str ".", .str ".."])) := NG.Same.upd ht
          have sA : Same H (upd H4 t (.tup [.str "", .str ".", .str ".."])) := s1.trans (s2.trans (s4.trans s5))
          have nDd : D ≠ dx := ne_of_none (s5 _ _ e4) hdx
          have nDx : D ≠ x := ne_of_none (s5 _ _ e4) hx
          refine ⟨x, dx, D, stepsOf ps, absOf ps, folOf ps, ?_, upd_same, .inl (SqL.of (by rw [upd_ne nDx, upd_ne nDd]; exact s5 _ _ e4)), fun zz hzz => (hok zz (List.mem_filter.mp hzz).1).1,
            Nat.lt_of_le_of_lt (List.length_filter_le _ _) hpl, fun hO H' b5 p5 => ⟨rfl, ?_⟩, fun hO => ?_⟩
          · show [V.ref x, V.ref D, V.bl (decide (V.str q0 = V.str "")), V.bl _] = _
            rw [e1]
            congr 4
            exact congrArg V.bl e2
          · refine kN en x H' (fun b o e => ?_) (sA.free hx) p5
            have eb := sA _ _ e
            exact b5 b o (by rw [upd_ne (ne_of_none eb hx), upd_ne (ne_of_none eb hdx)]; exact eb) (ne_of_none eb hx)
          · rw [read_ok A1 en] at hO; cases hO
end
end NW

set_option maxRecDepth 100000
set_option maxHeartbeats 400000
namespace NW
open PySem L2 NG TR LamX
abbrev sNNI : Stmt := inClass (top 4) 0
abbrev sCk : Stmt := top 38
abbrev sPl : Stmt := top 39
structure TxtX (K : PySem.W.Frag) (mg : Str → Option Value) (CNN fNNI fCk fPl CT : Addr) : Prop where
  ox : OexC K CNN
  nN : PySem.W.findIn K (.ref CNN) "node" = some none
  iC : PySem.W.findIn K (.ref CNN) "__init__" = some (some (.ref fNNI))
  tI : PySem.W.typeIn K (.ref fNNI) = some (.type "function")
  gN : mg "NoNode" = some (.ref CNN)
  g_ck : mg "check_node" = some (.ref fCk)
  kp_ck : PySem.W.keepIn K (.ref fCk) = true
  g_pl : mg "check_place" = some (.ref fPl)
  kp_pl : PySem.W.keepIn K (.ref fPl) = true
  clT : Cls K CT
  nTn : NoAttr K CT "nodes"
def spNNI (K : PySem.W.Frag) (C : Addr) : Sp := fun vs H Q _ => ∃ (a : Addr) (v : V), vs = [.ref a, v] ∧ H a = some (exo a C none) ∧ ∀ dx, H dx = none → dx ≠ a → Q .non (upd (upd H dx (exd dx [("node", v)])) a (exo a C (some dx)))
/-- no node's number -/
def BadN (K : PySem.W.Frag) (H : Hp) (v : V) (n : Nat) : Prop := (∃ i : Int, v = .int i ∧ ¬ (0 ≤ i ∧ i < (n : Nat))) ∨ ∃ (t : Value) (bi bb : Bool), TyX K H v t ∧ PySem.W.kitOne K t (.type "int") = some bi ∧ PySem.W.kitOne K t (.type "bool") = some bb ∧ (bi && !bb) = false
/-- a thing's field nodes, a tuple of so many -/
def TN (K : PySem.W.Frag) (CT : Addr) (H : Hp) (t : Addr) (n : Nat) : Prop := ∃ (dx T : Addr) (xs : List V), H t = some (.ins CT dx (fl1 "nodes" (.ref T))) ∧ SqT K H T xs ∧ xs.length = n
def spCkN (K : PySem.W.Frag) (CT : Addr) : Sp := fun vs H Q _ => ∃ (t : Addr) (n i : Nat), vs = [.ref t, .int (i : Nat)] ∧ TN K CT H t n ∧ i < n ∧ Q .non H
def spRX (K : PySem.W.Frag) (CT CNN : Addr) : Sp := fun vs H _ E => ∃ (t : Addr) (n : Nat) (v : V), vs = [.ref t, v] ∧ TN K CT H t n ∧ BadN K H v n ∧ ∀ d H', Same H H' → H d = none → H' d = some (.xd [("node", v)]) → E (.ref CNN) (some d) H'
theorem nodes_field (T : Addr) : List.lookup ("nodes" : Str) (fl1 "nodes" (.ref T)) = some (V.ref T) := by unfold fl1; rw [lookup_putF, if_pos rfl]
section
variable {P : Program} {w : World} {K : PySem.W.Frag} {mg : Str → Option Value} {base : Heap} {fNum fAt fDigit fPool CNN fNNI fCk fPl CT fET fFF fCN fCF : Addr} {cs : Nat → Addr}
theorem scNNI : FnScope ["self", "node"] ["self", "node"] (defScope sNNI) := ⟨rfl, rfl, rfl, by decide +kernel, rfl, by decide +kernel, by decide +kernel⟩
theorem ok_nni {fd : FuncData} (F : Fun K "__init__" "NoNode.__init__" sNNI fNNI fd) (TX : TxtX K mg CNN fNNI fCk fPl CT) : FnOk P w K mg base CX0 1 fNNI fd ["self", "node"] (spNNI K CNN) := by
  refine F.ok scNNI (fun vs H Q E h => ?_) (fun cdv A outer s H vs Q E hr h => ?_)
  · obtain ⟨a, v, rfl, _⟩ := h
    rfl
  · obtain ⟨a, v, rfl, ha, k⟩ := h
    refine ⟨_, pss_one (ps_ost (pv 0) (pv 1)), ?_⟩
    exact ⟨_, rfl, _, rfl, a, CNN, rfl, TX.ox, TX.nN, .inl ⟨ha, fun dx h1 h2 => k dx h1 h2⟩⟩
theorem scCk : FnScope ["tree", "node"] ["tree", "node"] (defScope sCk) := ⟨rfl, rfl, rfl, by decide +kernel, rfl, by decide +kernel, by decide +kernel⟩
theorem ok_ckN {fd fdA : FuncData} (F : Fun K "check_node" "check_node" sCk fCk fd) (T : TxtK K mg fNum fAt fDigit fPool) (TX : TxtX K mg CNN fNNI fCk fPl CT) (GA : FnOk P w K mg base CX0 2 fAt fdA ["nodes", "number"] (spAt K)) (bA : Binds K fdA ["nodes", "number"] []) :
    FnOk P w K mg base CX0 3 fCk fd ["tree", "node"] (spCkN K CT) := by
  refine F.ok scCk (fun vs H Q E h => ?_) (fun cdv A outer s H vs Q E hr h => ?_)
  · obtain ⟨t, n, i, rfl, _⟩ := h
    rfl
  · obtain ⟨t, n, i, rfl, ⟨dx, N, xs, ht, hS, rfl⟩, hi, k⟩ := h
    have hr2 : Room 2 _ := hr
    refine ⟨_, (pss_one (ps_if (pt_not (pt_val (pe_call GA hr2 (by rfl) T.g_is_at T.kp_is_at bA .nil pass0 (pa_cons (pe_fld (pv 0) rfl) (pa_cons (pv 1) pa_nil))))) (pss_one ps_dead) pss_nil)), ?_⟩
    refine ⟨_, rfl, t, CT, dx, _, _, rfl, ht, TX.clT, TX.nTn, nodes_field N, _, rfl, N, xs, _, rfl, hS, .inl ⟨(i : Int), rfl, _, rfl, ?_⟩⟩
    rw [decide_eq_true (by omega : 0 ≤ (i : Int)), decide_eq_true (by omega : (i : Int) < (xs.length : Nat))]
    exact iteF k
theorem ok_ckX {fd fdA fdI : FuncData} (F : Fun K "check_node" "check_node" sCk fCk fd) (T : TxtK K mg fNum fAt fDigit fPool) (TX : TxtX K mg CNN fNNI fCk fPl CT) (GA : FnOk P w K mg base CX0 2 fAt fdA ["nodes", "number"] (spAt K)) (bA : Binds K fdA ["nodes", "number"] [])
    (GI : FnOk P w K mg base CX0 1 fNNI fdI ["self", "node"] (spNNI K CNN)) (bI : Binds K fdI ["self", "node"] []) : FnOk P w K mg base (L2.CX P w) 3 fCk fd ["tree", "node"] (spRX K CT CNN) := by
  refine F.okX scCk (fun vs H Q E h => ?_) (fun cdv A outer s H vs Q E hr h => ?_)
  · obtain ⟨t, n, v, rfl, _⟩ := h
    rfl
  · obtain ⟨t, n, v, rfl, ⟨dx, N, xs, ht, hS, rfl⟩, hb, k⟩ := h
    have hr2 : Room 2 _ := hr
    have hr1 : Room 2 _ := hr
    refine ⟨_, (pss_one (ps_if (pt_not (pt_val (pe_call GA hr2 (by rfl) T.g_is_at T.kp_is_at bA .nil pass0 (pa_cons (pe_fld (pv 0) rfl) (pa_cons (pv 1) pa_nil))))) (pss_one (ps_raise rfl (takes_of rfl rfl rfl rfl) (pmk_oex TX.ox TX.iC TX.tI GI hr1 bI .nil pass0 (by rfl) TX.gN (pa_cons (pv 1) pa_nil)))) pss_nil)), ?_⟩
    have rz : tMkO CNN (spNNI K CNN) [] (tCons (tVar 1) tNil) [some (.ref t), some v] H (fun cls d H' => E cls d H') := by
      refine ⟨_, rfl, (by show 1 ≤ 1000; decide), fun a ha => ⟨a, _, rfl, upd_same, fun dx h1 h2 => ⟨rfl, dx, [("node", v)], upd_same, ?_, ?_, ?_⟩⟩⟩
      · rw [upd_ne h2, upd_same]
      · rw [upd_ne h2] at h1; exact h1
      · have h1' : H dx = none := by rw [upd_ne h2] at h1; exact h1
        refine k dx _ (fun b o e => ?_) h1' upd_same
        have nb : b ≠ dx := ne_of_none e h1'
        have na : b ≠ a := ne_of_none e ha
        rw [upd_ne nb, del_ne na, upd_ne na, upd_ne nb, upd_ne na]
        exact e
    refine ⟨_, rfl, t, CT, dx, _, _, rfl, ht, TX.clT, TX.nTn, nodes_field N, _, rfl, N, xs, _, rfl, hS, ?_⟩
    rcases hb with ⟨i, rfl, hi⟩ | ⟨ty, bi, bb, h1, h2, h3, h4⟩
    · refine .inl ⟨i, rfl, _, rfl, ?_⟩
      have : (decide (0 ≤ i) && decide (i < (xs.length : Nat))) = false := by
        by_cases h0 : 0 ≤ i
        · rw [decide_eq_false (fun z => hi ⟨h0, z⟩), Bool.and_false]
        · rw [decide_eq_false h0, Bool.false_and]
      rw [this]
      exact iteT rz
    · exact .inr ⟨ty, bi, bb, h1, h2, h3, h4, _, rfl, iteT rz⟩

/-! ### places -/
def spPlN (K : PySem.W.Frag) (cs : Nat → Addr) (CT : Addr) : Sp := fun vs H Q _ => ∃ (t : Addr) (qs : List Addr) (nds : List Nd) (g : Nat) (nd : Nd), vs = [.ref t, .int (g : Nat)] ∧ TreeAt K cs CT H t qs nds ∧ nds[g]? = some nd ∧ (clsI nd = 0 ∨ clsI nd = 3) ∧ ∀ H', Same H H' → Q .non H'
def BadPl (K : PySem.W.Frag) (H : Hp) (v : V) (nds : List Nd) : Prop := BadN K H v nds.length ∨ ∃ (g : Nat) (nd : Nd), v = .int (g : Nat) ∧ nds[g]? = some nd ∧ (clsI nd = 1 ∨ clsI nd = 2)
def spPlX (K : PySem.W.Frag) (cs : Nat → Addr) (CT CNN : Addr) : Sp := fun vs H _ E => ∃ (t : Addr) (qs : List Addr) (nds : List Nd) (v : V), vs = [.ref t, v] ∧ TreeAt K cs CT H t qs nds ∧ BadPl K H v nds ∧ ∀ d H', Same H H' → H d = none → H' d = some (.xd [("node", v)]) → E (.ref CNN) (some d) H'
theorem tn_of {H : Hp} {t : Addr} {qs : List Addr} {nds : List Nd} (h : TreeAt K cs CT H t qs nds) : TN K CT H t nds.length := by
  obtain ⟨dx, T, h1, h2⟩ := h
  exact ⟨dx, T, _, h1, h2.ob.ls, by rw [List.length_map, h2.ob.len]⟩
theorem scPl : FnScope ["tree", "place"] ["tree", "place"] (defScope sPl) := ⟨rfl, rfl, rfl, by decide +kernel, rfl, by decide +kernel, by decide +kernel⟩
theorem ok_plN {fd fdC : FuncData} (F : Fun K "check_place" "check_place" sPl fPl fd) (T : TxtK K mg fNum fAt fDigit fPool) (TG : TxtG K mg cs) (TX : TxtX K mg CNN fNNI fCk fPl CT) (GC : FnOk P w K mg base CX0 3 fCk fdC ["tree", "node"] (spCkN K CT)) (bC : Binds K fdC ["tree", "node"] []) :
    FnOk P w K mg base CX0 4 fPl fd ["tree", "place"] (spPlN K cs CT) := by
  refine F.ok scPl (fun vs H Q E h => ?_) (fun cdv A outer s H vs Q E hr h => ?_)
  · obtain ⟨t, qs, nds, g, nd, rfl, _⟩ := h
    rfl
  · obtain ⟨t, qs, nds, g, nd, rfl, TA, hn, hc, k⟩ := h
    have hr3 : Room 3 _ := hr
    have TA0 := TA
    obtain ⟨dx, N, ht, TR⟩ := TA
    obtain ⟨q, hq, hqr, hO⟩ := TR.at_ hn
    obtain ⟨dx', fs, hins, _⟩ := obj_ins hO
    have ci := clsI_lt nd
    have ty := TG.ty _ ci
    have hg := (List.getElem?_eq_some_iff.mp hn).1
    refine ⟨_, (pss_cons (ps_expr (pe_call GC hr3 (by rfl) TX.g_ck TX.kp_ck bC .nil pass0 (pa_cons (pv 0) (pa_cons (pv 1) pa_nil))))
  (pss_one (ps_if (pt_not (pt_val (pe_callB call_isiT (by rfl) T.m_isinstance (by decide +kernel) (pa_cons (pe_ix ix_tup (pe_fld (pv 0) rfl) (pv 1) (fun _ _ => rfl)) (pa_cons (pe_tup (pa_cons (pe_glob (v := .ref (cs 0)) (by rfl) TG.m_Folder rfl) (pa_cons (pe_glob (v := .ref (cs 3)) (by rfl) TG.m_Gone rfl) pa_nil))) pa_nil))))) (pss_one ps_dead) pss_nil))), ?_⟩
    refine ⟨_, rfl, _, rfl, t, nds.length, g, rfl, tn_of TA0, hg, ?_⟩
    refine ⟨_, rfl, t, CT, dx, _, _, rfl, ht, TX.clT, TX.nTn, nodes_field N, _, rfl, N, _, _, _, rfl, rfl, TR.ob.ls, atI_nat hqr, (by show 2 ≤ sizeLine; decide), fun tp htp => ?_⟩
    have sp := NG.Same.upd (o := HO.tup [V.ref (cs 0), V.ref (cs 3)]) htp
    refine ⟨_, tp, _, .ref (cs (clsI nd)), [.ref (cs 0), .ref (cs 3)], true, rfl, upd_same, ?_, .base (.ins (sp _ _ hins) (TG.cl _ ci) ty.c1 ty.c2 ty.c3 ty.c4), ?_, ?_⟩
    · exact .cons (.own _) (.cons (.own _) .nil)
    · rcases hc with hc | hc
      · rw [hc]; exact kitAny_of TG (by decide) [0, 3] (by simp)
      · rw [hc]; exact kitAny_of TG (by decide) [0, 3] (by simp)
    · exact ⟨_, rfl, iteF (k _ sp)⟩
theorem ok_plX {fd fdC fdC' fdI : FuncData} (F : Fun K "check_place" "check_place" sPl fPl fd) (T : TxtK K mg fNum fAt fDigit fPool) (TG : TxtG K mg cs) (TX : TxtX K mg CNN fNNI fCk fPl CT) (GC : FnOk P w K mg base CX0 3 fCk fdC ["tree", "node"] (spCkN K CT)) (bC : Binds K fdC ["tree", "node"] [])
    (GX : FnOk P w K mg base (L2.CX P w) 3 fCk fdC' ["tree", "node"] (spRX K CT CNN)) (bX : Binds K fdC' ["tree", "node"] []) (GI : FnOk P w K mg base CX0 1 fNNI fdI ["self", "node"] (spNNI K CNN)) (bI : Binds K fdI ["self", "node"] []) :
    FnOk P w K mg base (L2.CX P w) 4 fPl fd ["tree", "place"] (spPlX K cs CT CNN) := by
  refine F.okX scPl (fun vs H Q E h => ?_) (fun cdv A outer s H vs Q E hr h => ?_)
  · obtain ⟨t, qs, nds, v, rfl, _⟩ := h
    rfl
  · obtain ⟨t, qs, nds, v, rfl, TA, hb, k⟩ := h
    have hr3 : Room 3 _ := hr
    have hr1 : Room 2 _ := hr.mono (by decide)
    rcases hb with hb | ⟨g, nd, rfl, hn, hc⟩
    · refine ⟨_, pss_cons (ps_expr (pe_call GX hr3 (by rfl) TX.g_ck TX.kp_ck bX .nil (passes_call (takes_of rfl rfl rfl rfl) (fun _ _ _ _ h => h)) (pa_cons (pv 0) (pa_cons (pv 1) pa_nil)))) pss_dead, ?_⟩
      exact ⟨_, rfl, _, rfl, t, nds.length, v, rfl, tn_of TA, hb, k⟩
    · have TA0 := TA
      obtain ⟨dx, N, ht, TR⟩ := TA
      obtain ⟨q, hq, hqr, hO⟩ := TR.at_ hn
      obtain ⟨dx', fs, hins, _⟩ := obj_ins hO
      have ci := clsI_lt nd
      have ty := TG.ty _ ci
      have hg := (List.getElem?_eq_some_iff.mp hn).1
      refine ⟨_, (pss_cons (ps_expr (pe_call GC hr3 (by rfl) TX.g_ck TX.kp_ck bC .nil pass0 (pa_cons (pv 0) (pa_cons (pv 1) pa_nil))))
  (pss_one (ps_if (pt_not (pt_val (pe_callB call_isiT (by rfl) T.m_isinstance (by decide +kernel) (pa_cons (pe_ix ix_tup (pe_fld (pv 0) rfl) (pv 1) (fun _ _ => rfl)) (pa_cons (pe_tup (pa_cons (pe_glob (v := .ref (cs 0)) (by rfl) TG.m_Folder rfl) (pa_cons (pe_glob (v := .ref (cs 3)) (by rfl) TG.m_Gone rfl) pa_nil))) pa_nil))))) (pss_one (ps_raise rfl (takes_of rfl rfl rfl rfl) (pmk_oex TX.ox TX.iC TX.tI GI hr1 bI .nil pass0 (by rfl) TX.gN (pa_cons (pv 1) pa_nil)))) pss_nil))), ?_⟩
      refine ⟨_, rfl, _, rfl, t, nds.length, g, rfl, tn_of TA0, hg, ?_⟩
      refine ⟨_, rfl, t, CT, dx, _, _, rfl, ht, TX.clT, TX.nTn, nodes_field N, _, rfl, N, _, _, _, rfl, rfl, TR.ob.ls, atI_nat hqr, (by show 2 ≤ sizeLine; decide), fun tp htp => ?_⟩
      have sp := NG.Same.upd (o := HO.tup [V.ref (cs 0), V.ref (cs 3)]) htp
      refine ⟨_, tp, _, .ref (cs (clsI nd)), [.ref (cs 0), .ref (cs 3)], false, rfl, upd_same, ?_, .base (.ins (sp _ _ hins) (TG.cl _ ci) ty.c1 ty.c2 ty.c3 ty.c4), ?_, ?_⟩
      · exact .cons (.own _) (.cons (.own _) .nil)
      · rcases hc with hc | hc
        · rw [hc]; exact kitAny_of TG (by decide) [0, 3] (by simp)
        · rw [hc]; exact kitAny_of TG (by decide) [0, 3] (by simp)
      · generalize upd H tp (HO.tup [V.ref (cs 0), V.ref (cs 3)]) = H1 at sp ⊢
        refine ⟨_, rfl, iteT ⟨_, rfl, (by show 1 ≤ 1000; decide), fun a ha => ⟨a, _, rfl, upd_same, fun dx h1 h2 => ⟨rfl, dx, [("node", .int (g : Nat))], upd_same, ?_, ?_, ?_⟩⟩⟩⟩
        · rw [upd_ne h2, upd_same]
        · rw [upd_ne h2] at h1; exact h1
        · have h1' : H1 dx = none := by rw [upd_ne h2] at h1; exact h1
          refine k dx _ (fun b o e => ?_) (sp.free h1') upd_same
          have e1 := sp _ _ e
          have nb : b ≠ dx := ne_of_none e1 h1'
          have na : b ≠ a := ne_of_none e1 ha
          rw [upd_ne nb, del_ne na, upd_ne na, upd_ne nb, upd_ne na]
          exact e1
end
end NW

set_option maxRecDepth 100000
set_option maxHeartbeats 400000
namespace NW
open PySem L2 NG TR LamX
abbrev sHm : Stmt := top 42
abbrev sVI : Stmt := inClass (top 41) 0
/-- the entry of a folder, as the dict tells it: a folder's number and a name in a tuple -/
def HomeK (K : PySem.W.Frag) (H : Hp) (kvs : List (Key × V)) (nds : List Nd) (k : Nat) : Prop := ∃ (tp : Addr) (i : Nat) (o : Int) (es : List (Str × Nat)) (e : Str × Nat), valV kvs (Sum.inl (k : Int)) = some (.ref tp) ∧ nds[i]? = some (.fol o es) ∧ e ∈ es ∧ e.2 = k ∧ SqT K H tp [.int (i : Nat), .str e.1]
/-- an entry that leads there, ahead of the j-th one of the i-th node -/
def EntBy (nds : List Nd) (i j k : Nat) : Prop := ∃ (i' : Nat) (nd : Nd) (l : Nat) (e : Str × Nat), nds[i']? = some nd ∧ nd.ents[l]? = some e ∧ e.2 = k ∧ (i' < i ∨ (i' = i ∧ l < j))
def HomesAt (K : PySem.W.Frag) (H : Hp) (kvs : List (Key × V)) (nds : List Nd) : Prop := ∀ (k : Nat) (nd : Nd), nds[k]? = some nd → clsI nd = 0 → 0 < k → HomeK K H kvs nds k
def HomesBy (K : PySem.W.Frag) (H : Hp) (kvs : List (Key × V)) (nds : List Nd) (i j : Nat) : Prop := ∀ (k : Nat) (nd : Nd), nds[k]? = some nd → clsI nd = 0 → EntBy nds i j k → HomeK K H kvs nds k
theorem HomeK.same {K : PySem.W.Frag} {H H' : Hp} {kvs : List (Key × V)} {nds : List Nd} {k : Nat} (h : HomeK K H kvs nds k) (s : Same H H') : HomeK K H' kvs nds k := let ⟨tp, i, o, es, e, a, b, c, d, f⟩ := h; ⟨tp, i, o, es, e, a, b, c, d, Same.sqT s f⟩
theorem HomesBy.same {K : PySem.W.Frag} {H H' : Hp} {kvs : List (Key × V)} {nds : List Nd} {i j : Nat} (h : HomesBy K H kvs nds i j) (s : Same H H') : HomesBy K H' kvs nds i j := fun k nd a b c => (h k nd a b c).same s
theorem sqT_dk {K : PySem.W.Frag} {H : Hp} {a D : Addr} {xs : List V} {kvs ks : List (Key × V)} (h : SqT K H a xs) (e : H D = some (.dK kvs)) : SqT K (upd H D (.dK ks)) a xs := by
  rcases h with (h | ⟨o, h⟩) | h
  · exact .inl (.inl (by rw [upd_ne (ne_of h e (fun z => by cases z))]; exact h))
  · exact .inl (.inr ⟨o, by rw [upd_ne (ne_of h e (fun z => by cases z))]; exact h⟩)
  · exact .inr h
theorem fol_of_ents {nd : Nd} {l : Nat} {e : Str × Nat} (h : nd.ents[l]? = some e) : ∃ o es, nd = .fol o es := by
  cases nd with
  | fol o es => exact ⟨o, es, rfl⟩
  | _ => simp [Nd.ents] at h
theorem homes_all {K : PySem.W.Frag} {H : Hp} {kvs : List (Key × V)} {nds : List Nd} (W : WF LinkText PL nds) (h : HomesBy K H kvs nds nds.length 0) : HomesAt K H kvs nds := fun k nd hk hc h0 => by
  refine h k nd hk hc ?_
  have hf : nd.isFol = true := by
    obtain ⟨o, es, rfl⟩ := clsI_fol hc
    rfl
  have h1 := W.once k nd h0 hk hf
  obtain ⟨i, x, e, a, b, c⟩ := cnt_pos (nds := nds) (k := k) (by omega)
  obtain ⟨l, hl⟩ := List.getElem?_of_mem b
  exact ⟨i, x, l, e, a, hl, c, .inl (List.getElem?_eq_some_iff.mp a).1⟩
def spHm (K : PySem.W.Frag) (cs : Nat → Addr) : Sp := fun vs H Q _ => ∃ (T : Addr) (qs : List Addr) (nds : List Nd), vs = [.ref T] ∧ Trees K cs H T qs nds ∧ nds.length ≤ 1000 ∧ ∀ H' d kvs, Same H H' → H' d = some (.dK kvs) → HomesAt K H' kvs nds → Q (.ref d) H'
section
variable {P : Program} {w : World} {K : PySem.W.Frag} {mg : Str → Option Value} {base : Heap} {fNum fAt fDigit fPool fET fFF fCN fCF fHm CT : Addr} {cs : Nat → Addr}
theorem scHm : FnScope ["nodes", "found", "number", "folder", "name", "inner"] ["nodes"] (defScope sHm) := ⟨rfl, rfl, rfl, by decide +kernel, rfl, by decide +kernel, by decide +kernel⟩
theorem ok_hm {fd : FuncData} (F : Fun K "folder_homes" "folder_homes" sHm fHm fd) (T : TxtK K mg fNum fAt fDigit fPool) (TG : TxtG K mg cs) (T2 : TxtT K mg fET fFF fCN fCF) : FnOk P w K mg base CX0 1 fHm fd ["nodes"] (spHm K cs) := by
  have nd := scHm.nd
  refine F.ok scHm (fun vs H Q E h => ?_) (fun cdv A outer s H vs Q E hr h => ?_)
  · obtain ⟨T, qs, nds, rfl, _⟩ := h
    rfl
  · obtain ⟨N, qs, nds, rfl, TR, hl, k⟩ := h
    have hs : sizeLine = 16777216 := sizeLine_eq
    have W := TR.wf
    have lq : (qs.map V.ref).length = nds.length := by rw [List.length_map, TR.ob.len]
    have hu := hu_of hr
    refine ⟨_, (pss_cons (ps_set (i := 1) nd rfl (Or.inl rfl) pe_dnewK)
  (pss_cons (ps_for PassesOwn.never rfl (pi_enumT (by rfl) T2.m_enumerate (pa_cons (pv 0) pa_nil)) (pg_tup (by rfl) (pgs_cons (pg_name (i := 2) nd rfl (Or.inl rfl)) (pgs_cons (pg_name (i := 3) nd rfl (Or.inl rfl)) pgs_nil)))
  (pss_one (ps_if (pt_val (pe_callB call_isi (by rfl) T.m_isinstance (by decide +kernel) (pa_cons (pv 3) (pa_cons (pe_glob (v := .ref (cs 0)) (by rfl) TG.m_Folder rfl) pa_nil)))) (pss_one (ps_for PassesOwn.never rfl (pi_tup (pe_fld (pv 3) rfl)) (pg_tup (by rfl) (pgs_cons (pg_name (i := 4) nd rfl (Or.inl rfl)) (pgs_cons (pg_name (i := 5) nd rfl (Or.inl rfl)) pgs_nil)))
  (pss_one (ps_if (pt_val (pe_callB call_isi (by rfl) T.m_isinstance (by decide +kernel) (pa_cons (pe_ix ix_tup (pv 0) (pv 5) (fun _ _ => rfl)) (pa_cons (pe_glob (v := .ref (cs 0)) (by rfl) TG.m_Folder rfl) pa_nil)))) (pss_one (ps_dput hu (pv 1) (pv 5) (pe_tup (pa_cons (pv 2) (pa_cons (pv 4) pa_nil))) rfl)) pss_nil)))) pss_nil)))
  (pss_one (ps_ret (pv 1))))), ?_⟩
    intro D hD
    have s1 := NG.Same.upd (o := HO.dK []) hD
    have e1 : (upd H D (HO.dK [])) D = some (.dK []) := upd_same
    generalize upd H D (HO.dK []) = H1 at s1 e1 ⊢
    refine ⟨_, rfl, N, _, rfl, Same.sqT s1 TR.ob.ls, ?_⟩
    refine for_it (walk_enumT (K := K) (a := N) (xs := qs.map V.ref)) (fun i σ H' => (∃ v2 v3 v4 v5 : Option V, σ = [some (.ref N), some (.ref D), v2, v3, v4, v5]) ∧ Same H H' ∧ ∃ kvs, H' D = some (.dK kvs) ∧ kvs.length ≤ 12 * i ∧ HomesBy K H' kvs nds i 0)
      ⟨⟨none, none, none, none, rfl⟩, s1, [], e1, Nat.zero_le _, fun k nd _ _ ⟨i', _, l, _, _, _, _, q⟩ => by omega⟩ (fun i σ H' _ h => Same.sqT h.2.1 TR.ob.ls) ?_ ?_
    · rintro i x σ H2 H3 hi ⟨⟨v2, v3, v4, v5, rfl⟩, s2, kvs, e2, kl, hm⟩ ⟨Tp, ki, y, rfl, hTp, rfl, h1, h2⟩
      cases Option.some.inj h1
      rw [lq] at hi
      have sT := NG.Same.upd (o := HO.tup [V.int (i : Nat), y]) hTp
      have eT : (upd H2 Tp (.tup [.int (i : Nat), y])) Tp = some (.tup [.int (i : Nat), y]) := upd_same
      have s3 := s2.trans sT
      have e3 := sT _ _ e2
      have hm3 := hm.same sT
      generalize upd H2 Tp (.tup [.int (i : Nat), y]) = H3 at eT s3 e3 hm3 ⊢
      have hn : nds[i]? = some nds[i] := List.getElem?_eq_getElem hi
      generalize nds[i] = nx at hn
      have TR3 := TR.same s3
      obtain ⟨q, hq, hqr, hO⟩ := TR3.at_ hn
      have : y = .ref q := Option.some.inj (Eq.trans (Eq.symm h2) hqr)
      subst this
      obtain ⟨dx', fs, hins, _⟩ := obj_ins hO
      have ci := clsI_lt nx
      have ty := TG.ty _ ci
      refine ⟨Tp, [.int (i : Nat), .ref q], rfl, SqT.of eT, rfl, _, _, rfl, _, _, rfl, rfl, ?_⟩
      refine ⟨_, rfl, _, _, _, _, decide (clsI nx = 0), rfl, .own (cs 0), .base (.ins hins (TG.cl _ ci) ty.c1 ty.c2 ty.c3 ty.c4), TG.kit _ 0 ci (by decide), _, rfl, ?_⟩
      by_cases hf : clsI nx = 0
      · obtain ⟨o, es, rfl⟩ := clsI_fol hf
        rw [decide_eq_true hf]
        obtain ⟨dx2, Ea, ps, h1, h2, h3, h4⟩ := hO
        have le12 : es.length ≤ 12 := (W.base.uniq i _ hn).2
        refine iteT ⟨_, rfl, q, cs 0, dx2, _, _, rfl, h1, TG.cl 0 (by decide), TG.nE, (by unfold ffl; rw [lookup_putF, if_pos rfl]), Ea, rfl, ⟨_, h2.sqT⟩, ?_⟩
        refine for_it (walk_tup (K := K) (a := Ea) (xs := ps)) (fun j σ H' => (∃ v4 v5 : Option V, σ = [some (.ref N), some (.ref D), some (.int (i : Nat)), some (.ref q), v4, v5]) ∧ (∀ b u, H3 b = some u → b ≠ D → H' b = some u) ∧ Same H H' ∧ ∃ kvs, H' D = some (.dK kvs) ∧ kvs.length ≤ 12 * i + j ∧ HomesBy K H' kvs nds i j)
          ⟨⟨v4, v5, rfl⟩, fun b u e _ => e, s3, kvs, e3, kl, hm3⟩ (fun j σ H' _ h => ?_) ?_ ?_
        · exact (h2.keep fun o e => h.2.1 _ _ e (ne_of e e3 (fun z => by cases z))).sqT
        · rintro j x σ H4 H5 hj ⟨⟨v4, v5, rfl⟩, b4, s4, kvs, e4, kl, hm4⟩ ⟨rfl, hx⟩
          rw [h3] at hj
          have he : es[j]? = some es[j] := List.getElem?_eq_getElem hj
          generalize es[j] = en at he
          obtain ⟨a, rfl, ha⟩ := h4 j x en hx he
          have ha4 : SqT K H5 a [.str en.1, .int (en.2 : Nat)] := by
            rcases ha with (z | ⟨u, z⟩) | z
            · exact .inl (.inl (b4 _ _ z (ne_of z e3 (fun z => by cases z))))
            · exact .inl (.inr ⟨u, b4 _ _ z (ne_of z e3 (fun z => by cases z))⟩)
            · exact .inr z
          refine ⟨a, [.str en.1, .int (en.2 : Nat)], rfl, ha4, rfl, _, _, rfl, _, _, rfl, rfl, ?_⟩
          obtain ⟨_, _, nd', hnd, _⟩ := W.base.ent i _ hn en (List.mem_of_getElem? he)
          have TR5 := TR.same s4
          obtain ⟨q', hq', hqr', hO'⟩ := TR5.at_ hnd
          obtain ⟨dx3, fs3, hi', _⟩ := obj_ins hO'
          have ci' := clsI_lt nd'
          have ty' := TG.ty _ ci'
          refine ⟨_, rfl, _, rfl, N, _, _, _, rfl, rfl, TR5.ob.ls, atI_nat hqr', _, _, _, _, decide (clsI nd' = 0), rfl, .own (cs 0), .base (.ins hi' (TG.cl _ ci') ty'.c1 ty'.c2 ty'.c3 ty'.c4), TG.kit _ 0 ci' (by decide), _, rfl, ?_⟩
          by_cases hf' : clsI nd' = 0
          · rw [decide_eq_true hf']
            refine iteT ⟨_, rfl, _, rfl, (by show 2 ≤ sizeLine; decide), fun tp htp => ?_⟩
            have st := NG.Same.upd (o := HO.tup [V.int (i : Nat), V.str en.1]) htp
            have e5 := st _ _ e4
            have etp : (upd H5 tp (HO.tup [V.int (i : Nat), V.str en.1])) tp = some (.tup [V.int (i : Nat), V.str en.1]) := upd_same
            have s5 := s4.trans st
            have b5 : ∀ b u, H3 b = some u → b ≠ D → (upd H5 tp (HO.tup [V.int (i : Nat), V.str en.1])) b = some u := fun b u e n => st _ _ (b4 b u e n)
            generalize upd H5 tp (HO.tup [V.int (i : Nat), V.str en.1]) = H6 at st e5 s5 b5 etp ⊢
            refine ⟨_, rfl, _, rfl, D, _, rfl, DPut.k (k := Sum.inl (en.2 : Int)) e5 (by omega), ?_⟩
            refine ⟨⟨_, _, rfl⟩, fun b u e n => ?_, fun b u e => ?_, _, upd_same, Nat.le_trans (length_putK _ _ _) (by omega), ?_⟩
            · rw [upd_ne n]; exact b5 _ _ e n
            · rw [upd_ne (ne_of_none e hD)]; exact s5 _ _ e
            · intro k nd hk hc ⟨i', nd2, l, e', a1, a2, a3, a4⟩
              by_cases hke : k = en.2
              · exact ⟨tp, i, o, es, en, by rw [valV_put, if_pos (by rw [hke])], hn, List.mem_of_getElem? he, hke.symm, sqT_dk (SqT.of etp) e5⟩
              · have hlt : i' < i ∨ (i' = i ∧ l < j) := by
                  rcases a4 with h | ⟨rfl, h⟩
                  · exact .inl h
                  · rcases Nat.lt_or_ge l j with h' | h'
                    · exact .inr ⟨rfl, h'⟩
                    · have : l = j := by omega
                      subst this
                      rw [hn] at a1
                      cases Option.some.inj a1
                      rw [show (Nd.fol o es).ents = es from rfl, he] at a2
                      cases Option.some.inj a2
                      exact absurd a3.symm hke
                obtain ⟨tq, i2, o2, es2, e2', b1, b2, b3, b4', b5'⟩ := (hm4.same st) k nd hk hc ⟨i', nd2, l, e', a1, a2, a3, hlt⟩
                exact ⟨tq, i2, o2, es2, e2', by rw [valV_put, if_neg (fun z => by injection z with z; omega)]; exact b1, b2, b3, b4', sqT_dk b5' e5⟩
          · rw [decide_eq_false hf']
            refine iteF ⟨⟨_, _, rfl⟩, b4, s4, kvs, e4, by omega, fun k nd hk hc ⟨i', nd2, l, e', a1, a2, a3, a4⟩ => hm4 k nd hk hc ⟨i', nd2, l, e', a1, a2, a3, ?_⟩⟩
            rcases a4 with h | ⟨rfl, h⟩
            · exact .inl h
            · rcases Nat.lt_or_ge l j with h' | h'
              · exact .inr ⟨rfl, h'⟩
              · have : l = j := by omega
                subst this
                rw [hn] at a1
                cases Option.some.inj a1
                rw [show (Nd.fol o es).ents = es from rfl, he] at a2
                cases Option.some.inj a2
                rw [a3, hk] at hnd
                cases Option.some.inj hnd
                exact absurd hc hf'
        · rintro σ H4 ⟨⟨v4, v5, rfl⟩, b4, s4, kvs, e4, kl, hm4⟩
          refine ⟨⟨_, _, _, _, rfl⟩, s4, kvs, e4, by omega, fun k nd hk hc ⟨i', nd2, l, e', a1, a2, a3, a4⟩ => hm4 k nd hk hc ⟨i', nd2, l, e', a1, a2, a3, ?_⟩⟩
          rcases Nat.lt_or_ge i' i with h | h
          · exact .inl h
          · have : i' = i := by omega
            subst this
            rw [hn] at a1
            cases Option.some.inj a1
            rw [h3]
            exact .inr ⟨rfl, (List.getElem?_eq_some_iff.mp a2).1⟩
      · rw [decide_eq_false hf]
        refine iteF ⟨⟨_, _, _, _, rfl⟩, s3, kvs, e3, by omega, fun k nd hk hc ⟨i', nd2, l, e', a1, a2, a3, a4⟩ => hm3 k nd hk hc ⟨i', nd2, l, e', a1, a2, a3, .inl ?_⟩⟩
        rcases Nat.lt_or_ge i' i with h | h
        · exact h
        · have : i' = i := by omega
          subst this
          rw [hn] at a1
          cases Option.some.inj a1
          obtain ⟨o, es, rfl⟩ := fol_of_ents a2
          exact absurd rfl hf
    · rintro σ H2 ⟨⟨v2, v3, v4, v5, rfl⟩, s2, kvs, e2, kl, hm⟩
      rw [lq] at hm
      exact ⟨_, rfl, k H2 D kvs s2 e2 (homes_all W hm)⟩
end
end NW

set_option maxRecDepth 100000
set_option maxHeartbeats 400000
namespace NG
open PySem L2
theorem dc_enumR {K : PySem.W.Frag} {a : Addr} {xs : List V} {tt : TT} {tk tv : TE} {i j : Nat} (hij : i ≠ j) {σ : L2.St} {H1 : Hp} {D : Addr} {Z : Hp → Prop} (p : Nat → Bool) (Px : Nat → V → Hp → Prop) (hx : xs.length < sizeLine) (hD : H1 D = none) (hG : ∀ H, Same H1 H → SqT K H a xs)
    (ht : ∀ (k : Nat) (x : V) (H : Hp) (R : Bool → Hp → Prop), xs[k]? = some x → Same H1 H → (∀ H', Same H H' → R (p k) H') → tt (((wipe σ [i, j]).set i (some (.int (k : Nat)))).set j (some x)) H R)
    (hk : ∀ (k : Nat) (x : V) (H : Hp) (R : V → Hp → Prop), xs[k]? = some x → R (.int (k : Nat)) H → tk (((wipe σ [i, j]).set i (some (.int (k : Nat)))).set j (some x)) H R)
    (hv : ∀ (k : Nat) (x : V) (H : Hp) (R : V → Hp → Prop), xs[k]? = some x → p k = true → Same H1 H → (∀ y H', Same H H' → Px k y H' → R y H') → tv (((wipe σ [i, j]).set i (some (.int (k : Nat)))).set j (some x)) H R)
    (hS : ∀ k y H H', Same H H' → Px k y H → Px k y H') (hU : ∀ k y H kvs kvs', H D = some (.dK kvs) → Px k y H → Px k y (L2.upd H D (.dK kvs')))
    (hd : ∀ H kvs, Same H1 H → H D = some (.dK kvs) → (∀ k, k < xs.length → p k = true → ∃ y, valV kvs (Sum.inl (k : Int)) = some y ∧ Px k y H) → Z H) :
    ∃ W : Nat → Nat → Hp → Prop, (∃ m, W 0 m (L2.upd H1 D (.dK []))) ∧ ∀ k m H, W k m H →
      ((IteT K a).stop k H ∧ Z H) ∨ ((IteT K a).go k H ∧ ∃ Nx : Hp → Prop, (∀ H', Nx H' → ∃ m', m' < m ∧ W (k + 1) m' H') ∧ ∀ x H', (IteT K a).yld k H x H' → gTup K 2 (gCons (gName i) (gCons (gName j) gNil)) x (wipe σ [i, j]) H' fun τ H2 => wipe τ [i, j] = wipe σ [i, j] ∧ tt τ H2 fun b H3 =>
        if b = true then tk τ H3 fun y H4 => tv τ H4 fun z H5 => ∃ kvs q, y = kV q ∧ H5 D = some (.dK kvs) ∧ kvs.length < sizeLine ∧ Nx (L2.upd H5 D (.dK (putK kvs q z))) else Nx H3) := by
  refine dc_walk (walk_enumT (K := K) (a := a) (xs := xs)) (fun k H => Same H1 H ∧ ∃ kvs, H D = some (.dK kvs) ∧ kvs.length ≤ k ∧ ∀ j, j < k → p j = true → ∃ y, valV kvs (Sum.inl (j : Int)) = some y ∧ Px j y H) ⟨Same.upd hD, [], upd_same, Nat.le_refl _, fun j h => absurd h (Nat.not_lt_zero j)⟩ (fun _ H _ h => hG H h.1) ?_ ?_
  · rintro k x H H' hlt ⟨s1, kvs, eD, el, hp0⟩ ⟨T, ki, y, rfl, hT, rfl, h1, h2⟩
    cases Option.some.inj h1
    have sT : Same H (L2.upd H T (.tup [.int (k : Nat), y])) := Same.upd hT
    refine ⟨T, [.int (k : Nat), y], rfl, SqT.of upd_same, rfl, _, _, rfl, _, _, rfl, rfl, wipe2 hij _ _, ?_⟩
    have s0 := s1.trans sT
    have eD0 := sT _ _ eD
    have hp1 : ∀ j, j < k → p j = true → ∃ u, valV kvs (Sum.inl (j : Int)) = some u ∧ Px j u (L2.upd H T (.tup [.int (k : Nat), y])) := fun j h q => let ⟨y', a, b⟩ := hp0 j h q; ⟨y', a, hS _ _ _ _ sT b⟩
    generalize L2.upd H T (.tup [.int (k : Nat), y]) = H0 at s0 eD0 hp1
    refine ht k y _ _ h2 s0 (fun H3 s3 => ?_)
    have eD3 := s3 _ _ eD0
    have s13 := s0.trans s3
    refine ite2 (fun hp => ?_) (fun hp => ⟨s13, kvs, eD3, Nat.le_succ_of_le el, fun j h q => ?_⟩)
    · refine hk k y _ _ h2 (hv k y _ _ h2 hp s13 (fun z H5 s5 hz => ⟨kvs, .inl (k : Int), rfl, s5 _ _ eD3, by omega, fun b o e => ?_, _, upd_same, Nat.le_trans (length_putK _ _ _) (by omega), fun j h q => ?_⟩))
      · rw [upd_ne (ne_of_none e hD)]
        exact s5 _ _ (s13 _ _ e)
      · by_cases hj : j = k
        · subst hj
          exact ⟨z, by rw [valV_put, if_pos rfl], hU _ _ _ _ _ (s5 _ _ eD3) hz⟩
        · obtain ⟨y', a1, a2⟩ := hp1 j (by omega) q
          exact ⟨y', by rw [valV_put, if_neg (fun w => by injection w with w; omega)]; exact a1, hU _ _ _ _ _ (s5 _ _ eD3) (hS _ _ _ _ (s3.trans s5) a2)⟩
    · by_cases hj : j = k
      · subst hj
        rw [q] at hp
        exact absurd rfl hp
      · obtain ⟨y', a1, a2⟩ := hp1 j (by omega) q
        exact ⟨y', a1, hS _ _ _ _ s3 a2⟩
  · rintro H ⟨s1, kvs, eD, _, hp⟩
    exact hd H kvs s1 eD hp
end NG
namespace NW
open PySem L2 NG TR LamX
theorem ents_paired {K : PySem.W.Frag} {H : Hp} : ∀ {ps : List V} {es : List (Str × Nat)}, ps.length = es.length → (∀ (k : Nat) (p : V) (e : Str × Nat), ps[k]? = some p → es[k]? = some e → EntO K H p e) →
    ∃ as : List Addr, ps = as.map V.ref ∧ Paired (fun (p : Addr) (kv : Key × V) => SqT K H p [kV kv.1, kv.2]) as (es.map fun e => ((Sum.inr e.1 : Key), V.int (e.2 : Nat)))
  | [], [], _, _ => ⟨[], rfl, .nil⟩
  | [], _ :: _, h, _ => absurd h (by simp)
  | _ :: _, [], h, _ => absurd h (by simp)
  | p :: ps, e :: es, h, k => by
    obtain ⟨as, e1, e2⟩ := ents_paired (K := K) (H := H) (ps := ps) (es := es) (by simpa using h) fun j q en a b => k (j + 1) q en a b
    obtain ⟨a, rfl, ha⟩ := k 0 p e rfl rfl
    exact ⟨a :: as, by rw [e1]; rfl, .cons ha e2⟩
def lnkB (nds : List Nd) (k : Nat) : Bool := match nds[k]? with
  | some nd => decide (clsI nd = 2)
  | none => false
theorem link_parts {z : Str} (h : LinkText z) : ∃ ps, PartsAre z ps ∧ badP z = none := by
  have h3 := (linkText_ok h).2.2
  obtain ⟨qs, hne, hq, hl, rfl, _⟩ := h
  exact ⟨qs, parts_are hne (fun p hp => (hq p hp).1) (by omega), h3⟩
theorem clsI_lnk {nd : Nd} (h : clsI nd = 2) : ∃ o z, nd = .lnk o z := by
  cases nd with
  | lnk o z => exact ⟨o, z, rfl⟩
  | _ => simp [clsI] at h
structure TxtVw (K : PySem.W.Frag) (mg : Str → Option Value) (CV fHm fRead : Addr) : Prop where
  m_dict : mg "dict" = none
  clV : Cls K CV
  n1 : NoAttr K CV "nodes"
  n2 : NoAttr K CV "names"
  n3 : NoAttr K CV "homes"
  n4 : NoAttr K CV "paths"
  gV : mg "View" = some (.ref CV)
  g_hm : mg "folder_homes" = some (.ref fHm)
  kp_hm : PySem.W.keepIn K (.ref fHm) = true
  g_read : mg "read_path" = some (.ref fRead)
  kp_read : PySem.W.keepIn K (.ref fRead) = true
def entK (nd : Nd) : List (Key × V) := nd.ents.map fun e => ((Sum.inr e.1 : Key), V.int (e.2 : Nat))
/-- a view in the heap -/
structure ViewAt (K : PySem.W.Frag) (cs : Nat → Addr) (CV CP : Addr) (H : Hp) (v N : Addr) (qs : List Addr) (nds : List Nd) : Prop where
  ob : ∃ dx F Ln Dh Dp kh kp, ∃ ds : List Addr, H v = some (.ins CV dx F) ∧ F.lookup ("nodes" : Str) = some (.ref N) ∧ F.lookup ("names" : Str) = some (.ref Ln) ∧ F.lookup ("homes" : Str) = some (.ref Dh) ∧ F.lookup ("paths" : Str) = some (.ref Dp) ∧ F.lookup ("up" : Str) = none ∧ F.lookup ("led" : Str) = none ∧
    H Ln = some (.lst (ds.map V.ref)) ∧ ds.length = nds.length ∧ (∀ (i : Nat) (d : Addr) (nd : Nd), ds[i]? = some d → nds[i]? = some nd → H d = some (.dK (mergeK [] (entK nd)))) ∧ H Dh = some (.dK kh) ∧ HomesAt K H kh nds ∧ H Dp = some (.dK kp) ∧
    (∀ (k : Nat) (o : Int) (z : Str), nds[k]? = some (.lnk o z) → ∃ pp ps, valV kp (Sum.inl (k : Int)) = some (.ref pp) ∧ PartsAre z ps ∧ PathAt K CP H pp (stepsOf ps) (absOf ps) (folOf ps))
  tr : Trees K cs H N qs nds
def spVI (K : PySem.W.Frag) (cs : Nat → Addr) (CT CV CP : Addr) : Sp := fun vs H Q _ => ∃ (p dx t : Addr) (qs : List Addr) (nds : List Nd) (H0 : Hp), vs = [.ref p, .ref t] ∧ H p = some (.ins CV dx []) ∧ H0 p = none ∧ Same H0 H ∧ TreeAt K cs CT H0 t qs nds ∧ nds.length ≤ 1000 ∧ ∀ H' N, Same H0 H' → ViewAt K cs CV CP H' p N qs nds → Q .non H'
section
variable {P : Program} {w : World} {K : PySem.W.Frag} {mg : Str → Option Value} {base : Heap} {fNum fAt fDigit fPool fET fFF fCN fCF fHm CT CV CP CB CNN fNNI fCk fPl fRead f : Addr} {cs : Nat → Addr}
theorem scVI : FnScope ["self", "tree", "node", "number"] ["self", "tree"] (defScope sVI) := ⟨rfl, rfl, rfl, by decide +kernel, rfl, by decide +kernel, by decide +kernel⟩
theorem ok_vi {fd fdH fdR : FuncData} (F : Fun K "__init__" "View.__init__" sVI f fd) (T : TxtK K mg fNum fAt fDigit fPool) (TG : TxtG K mg cs) (T2 : TxtT K mg fET fFF fCN fCF) (TX : TxtX K mg CNN fNNI fCk fPl CT) (TV : TxtVw K mg CV fHm fRead)
    (GH : FnOk P w K mg base CX0 1 fHm fdH ["nodes"] (spHm K cs)) (bH : Binds K fdH ["nodes"] []) (GR : FnOk P w K mg base (L2.CX P w) 6 fRead fdR ["text"] (spRead K CP CB)) (bR : Binds K fdR ["text"] []) :
    FnOk P w K mg base CX0 7 f fd ["self", "tree"] (spVI K cs CT CV CP) := by
  have nd := scVI.nd
  refine F.ok scVI (fun vs H Q E h => ?_) (fun cdv A outer s H vs Q E hr h => ?_)
  · obtain ⟨p, dx, t, qs, nds, H0, rfl, _⟩ := h
    rfl
  · obtain ⟨p, dx, t, qs, nds, H0, rfl, hp, fp, s0, TA, hl, k⟩ := h
    have hr6 : Room 6 _ := hr
    have hr1 : Room 1 _ := hr.mono (by decide)
    have hs : sizeLine = 16777216 := sizeLine_eq
    refine ⟨_, (pss_cons (ps_fld (pv 0) (pe_fld (pv 1) rfl) rfl)
  (pss_cons (ps_fld (pv 0) (pe_lc (own := [("node", 2)]) (te := tIf (tB (tCB (rIsi K) (tCons (tVar 2) (tCons (tC (V.ref (cs 0))) tNil)))) (tCB (rDictT K) (tCons (tFld K (tVar 2) "entries") tNil)) tDNewK) rfl nd (pi_tup (pe_fld (pv 1) rfl)) (blkOk_by (N := ["self", "tree", "node", "number"]) (sc := defScope sVI) (by decide +kernel)) (fun _ _ _ _ _ => (pg_name (i := 2) nd rfl (Or.inl rfl))) (fun _ _ _ _ _ => pts_nil) (fun _ _ _ _ _ => (pe_ifExp (pt_val (pe_callB call_isi (by rfl) T.m_isinstance (by decide +kernel) (pa_cons (pv 2) (pa_cons (pe_glob (v := .ref (cs 0)) (by rfl) TG.m_Folder rfl) pa_nil)))) (pe_callTy (call_dictT rfl) (by rfl) TV.m_dict (by decide +kernel) (pa_cons (pe_fld (pv 2) rfl) pa_nil)) pe_dnewK))) rfl)
  (pss_cons (ps_fld (pv 0) (pe_call GH hr1 (by rfl) TV.g_hm TV.kp_hm bH .nil pass0 (pa_cons (pe_fld (pv 1) rfl) pa_nil)) rfl)
  (pss_one (ps_fld (pv 0) (pe_dc (own := [("number", 3), ("node", 2)]) (g := gTup K 2 (gCons (gName 3) (gCons (gName 2) gNil))) (tt := tB (tCB (rIsi K) (tCons (tVar 2) (tCons (tC (V.ref (cs 2))) tNil)))) (tk := tVar 3) (tv := tCall (spRead K CP CB) [] E0 (tCons (tFld K (tVar 2) "text") tNil)) rfl nd (pi_enumT (by rfl) T2.m_enumerate (pa_cons (pe_fld (pv 1) rfl) pa_nil)) (blkOk_by (N := ["self", "tree", "node", "number"]) (sc := defScope sVI) (by decide +kernel))
    (fun _ _ _ _ _ => (pg_tup (by rfl) (pgs_cons (pg_name (i := 3) nd rfl (Or.inl rfl)) (pgs_cons (pg_name (i := 2) nd rfl (Or.inl rfl)) pgs_nil)))) (fun _ _ _ _ _ => pts_one (pt_val (pe_callB call_isi (by rfl) T.m_isinstance (by decide +kernel) (pa_cons (pv 2) (pa_cons (pe_glob (v := .ref (cs 2)) (by rfl) TG.m_Link rfl) pa_nil))))) (fun _ _ _ _ _ => (pv 3)) (fun _ _ _ _ _ => (pe_call GR hr6 (by rfl) TV.g_read TV.kp_read bR .nil (passes_call L2.takes0 (fun _ _ _ _ h => h)) (pa_cons (pe_fld (pv 2) rfl) pa_nil)))) rfl))))), ?_⟩
    have hT : ∀ H', Same H0 H' → ∃ dxt N, H' t = some (.ins CT dxt (fl1 "nodes" (.ref N))) ∧ Trees K cs H' N qs nds := fun H' s => (TA.same s)
    obtain ⟨dxt, N, htN, TRN⟩ := id TA
    have ht : ∀ H', Same H0 H' → H' t = some (.ins CT dxt (fl1 "nodes" (.ref N))) := fun H' s => s _ _ htN
    have hTR : ∀ H', Same H0 H' → Trees K cs H' N qs nds := fun H' s => TRN.same s
    have lq : (qs.map V.ref).length = nds.length := by rw [List.length_map, TRN.ob.len]
    have W := TRN.wf
    have up : ∀ {H' : Hp} {o : HO}, Same H0 H' → Same H0 (upd H' p o) := fun {H' o} s b u e => by rw [upd_ne (ne_of_none e fp)]; exact s _ _ e
    refine ⟨_, rfl, t, CT, dxt, _, _, rfl, ht _ s0, TX.clT, TX.nTn, nodes_field N, _, rfl, p, CV, dx, _, rfl, hp, TV.clV, TV.n1, (by show 0 < 1000; decide), ?_⟩
    have s1 := up (o := .ins CV dx (putF "nodes" (.ref N) [])) s0
    have p1 : (upd H p (.ins CV dx (putF "nodes" (.ref N) []))) p = some (.ins CV dx (putF "nodes" (.ref N) [])) := upd_same
    generalize upd H p (.ins CV dx (putF "nodes" (.ref N) [])) = H1 at s1 p1 ⊢
    have l1 : (putF "nodes" (V.ref N) []).length ≤ 1 := len_putF "nodes" (V.ref N) []
    have a1 : (putF "nodes" (V.ref N) []).lookup ("nodes" : Str) = some (.ref N) := by rw [lookup_putF, if_pos rfl]
    have u1 : (putF "nodes" (V.ref N) []).lookup ("up" : Str) = none := by rw [lookup_putF, if_neg (by decide +kernel)]; rfl
    have w1 : (putF "nodes" (V.ref N) []).lookup ("led" : Str) = none := by rw [lookup_putF, if_neg (by decide +kernel)]; rfl
    generalize putF "nodes" (V.ref N) [] = F1 at p1 l1 a1 u1 w1 ⊢
    refine ⟨_, rfl, t, CT, dxt, _, _, rfl, ht _ s1, TX.clT, TX.nTn, nodes_field N, N, rfl, ⟨_, (hTR _ s1).ob.ls⟩, fun D hD => ?_⟩
    refine lc_rel (walk_tup (K := K) (a := N) (xs := qs.map V.ref)) (R := fun H' => Same H1 H') (S := Same) (Px := fun i y H' => ∃ d nd, y = .ref d ∧ nds[i]? = some nd ∧ H' d = some (.dK (mergeK [] (entK nd)))) (by rw [lq]; omega) (NG.Same.upd hD) (fun H' s => (hTR _ (s1.trans s)).ob.ls) (fun _ _ a b => a.trans b) (fun _ _ _ _ s e => s _ _ e) (fun i y _ _ s ⟨d, nd, a, b, c⟩ => ⟨d, nd, a, b, s _ _ c⟩) (fun H' acc y s e b u hb => ?_) (fun i y H' acc acc' eD ⟨d, nd, a, b, c⟩ => ⟨d, nd, a, b, by rw [upd_ne (ne_of c eD (fun z => by cases z))]; exact c⟩) (fun i x H' Rk hx s hR => ?_) (fun H2 ys s2 e2 hy hys => ?_)
    · rw [upd_ne (ne_of_none hb hD)]
      exact s _ _ hb
    · have hi : i < nds.length := by rw [← lq]; exact (List.getElem?_eq_some_iff.mp hx).1
      have hn : nds[i]? = some nds[i] := List.getElem?_eq_getElem hi
      generalize nds[i] = nx at hn
      obtain ⟨q, hq, hqr, hO⟩ := (hTR _ (s1.trans s)).at_ hn
      have : x = .ref q := Option.some.inj (Eq.trans (Eq.symm hx) hqr)
      subst this
      obtain ⟨dx', fs, hins, _⟩ := obj_ins hO
      have ci := clsI_lt nx
      have ty := TG.ty _ ci
      refine ⟨_, rfl, _, _, _, _, decide (clsI nx = 0), rfl, .own (cs 0), .base (.ins hins (TG.cl _ ci) ty.c1 ty.c2 ty.c3 ty.c4), TG.kit _ 0 ci (by decide), _, rfl, ?_⟩
      by_cases hf : clsI nx = 0
      · obtain ⟨o, es, rfl⟩ := clsI_fol hf
        rw [decide_eq_true hf]
        obtain ⟨dx2, Ea, ps, h1, h2, h3, h4⟩ := hO
        obtain ⟨as, rfl, hpr⟩ := ents_paired h3 h4
        exact iteT ⟨_, rfl, q, cs 0, dx2, _, _, rfl, h1, TG.cl 0 (by decide), TG.nE, (by unfold ffl; rw [lookup_putF, if_pos rfl]), Ea, as, _, rfl, h2, hpr, fun d hd => hR _ _ (NG.Same.upd hd) ⟨d, _, rfl, hn, upd_same⟩⟩
      · rw [decide_eq_false hf]
        have he : nx.ents = [] := by
          cases nx with
          | fol o es => exact absurd rfl hf
          | _ => rfl
        exact iteF fun d hd => hR _ _ (NG.Same.upd hd) ⟨d, nx, rfl, hn, by unfold entK; rw [he]; exact upd_same⟩
    · have s02 := s1.trans s2
      rw [lq] at hy
      have ey : ys = (ys.map fun v => match v with | V.ref a => a | _ => 0).map V.ref := by
        apply List.ext_getElem?
        intro i
        rw [List.getElem?_map, List.getElem?_map]
        cases e : ys[i]? with
        | none => rfl
        | some y =>
          obtain ⟨q, x, rfl, _⟩ := hys i y e
          rfl
      generalize (ys.map fun v => match v with | V.ref a => a | _ => 0) = ds at ey
      subst ey
      rw [List.length_map] at hy
      have hds : ∀ (i : Nat) (d : Addr) (nd : Nd), ds[i]? = some d → nds[i]? = some nd → H2 d = some (.dK (mergeK [] (entK nd))) := fun i d nd a b => by
        obtain ⟨d', nd', c1, c2, c3⟩ := hys i (.ref d) (by rw [List.getElem?_map, a]; rfl)
        cases c1
        rw [b] at c2
        cases Option.some.inj c2
        exact c3
      have nDp : D ≠ p := (ne_of_none p1 hD).symm
      refine ⟨_, rfl, p, CV, dx, _, rfl, s2 _ _ p1, TV.clV, TV.n2, (by omega), ?_⟩
      have s3 := up (o := .ins CV dx (putF "names" (.ref D) F1)) s02
      have p3 : (upd H2 p (.ins CV dx (putF "names" (.ref D) F1))) p = some (.ins CV dx (putF "names" (.ref D) F1)) := upd_same
      have pk : ∀ {Hx : Hp} {b : Addr} {u : HO} {Fx : List (Str × V)} {o : HO}, Hx p = some (.ins CV dx Fx) → Hx b = some u → (∀ C dx fs, u ≠ .ins C dx fs) → (upd Hx p o) b = some u := fun {Hx b u Fx o} e1 e2 hu => by rw [upd_ne (ne_of e2 e1 (fun z => hu CV dx Fx z))]; exact e2
      have eD3 : (upd H2 p (.ins CV dx (putF "names" (.ref D) F1))) D = some (.lst (ds.map V.ref)) := pk (s2 _ _ p1) e2 (fun _ _ _ z => by cases z)
      have hds3 : ∀ (i : Nat) (d : Addr) (nd : Nd), ds[i]? = some d → nds[i]? = some nd → (upd H2 p (.ins CV dx (putF "names" (.ref D) F1))) d = some (.dK (mergeK [] (entK nd))) := fun i d nd a b => pk (s2 _ _ p1) (hds i d nd a b) (fun _ _ _ z => by cases z)
      generalize upd H2 p (.ins CV dx (putF "names" (.ref D) F1)) = H3 at s3 p3 eD3 hds3 ⊢
      have l3 : (putF "names" (V.ref D) F1).length ≤ 2 := by have := len_putF "names" (V.ref D) F1; omega
      have a3 : (putF "names" (V.ref D) F1).lookup ("nodes" : Str) = some (.ref N) := by rw [lookup_putF, if_neg (by decide +kernel)]; exact a1
      have b3 : (putF "names" (V.ref D) F1).lookup ("names" : Str) = some (.ref D) := by rw [lookup_putF, if_pos rfl]
      have u3 : (putF "names" (V.ref D) F1).lookup ("up" : Str) = none := by rw [lookup_putF, if_neg (by decide +kernel)]; exact u1
      have w3 : (putF "names" (V.ref D) F1).lookup ("led" : Str) = none := by rw [lookup_putF, if_neg (by decide +kernel)]; exact w1
      generalize putF "names" (V.ref D) F1 = F3 at p3 l3 a3 b3 u3 w3 ⊢
      refine ⟨_, rfl, t, CT, dxt, _, _, rfl, ht _ s3, TX.clT, TX.nTn, nodes_field N, N, qs, nds, rfl, hTR _ s3, hl, fun H4 d kvs s4 hd hhm => ?_⟩
      have s04 := s3.trans s4
      have p4 := s4 _ _ p3
      refine ⟨_, rfl, p, CV, dx, _, rfl, p4, TV.clV, TV.n3, (by omega), ?_⟩
      have s5 := up (o := .ins CV dx (putF "homes" (.ref d) F3)) s04
      have p5 : (upd H4 p (.ins CV dx (putF "homes" (.ref d) F3))) p = some (.ins CV dx (putF "homes" (.ref d) F3)) := upd_same
      have eD5 : (upd H4 p (.ins CV dx (putF "homes" (.ref d) F3))) D = some (.lst (ds.map V.ref)) := pk p4 (s4 _ _ eD3) (fun _ _ _ z => by cases z)
      have hds5 : ∀ (i : Nat) (d' : Addr) (nd : Nd), ds[i]? = some d' → nds[i]? = some nd → (upd H4 p (.ins CV dx (putF "homes" (.ref d) F3))) d' = some (.dK (mergeK [] (entK nd))) := fun i d' nd a b => pk p4 (s4 _ _ (hds3 i d' nd a b)) (fun _ _ _ z => by cases z)
      have hd5 : (upd H4 p (.ins CV dx (putF "homes" (.ref d) F3))) d = some (.dK kvs) := pk p4 hd (fun _ _ _ z => by cases z)
      have sqp : ∀ {Hx : Hp} {Fx : List (Str × V)} {o : HO} {b : Addr} {xs : List V}, Hx p = some (.ins CV dx Fx) → SqT K Hx b xs → SqT K (upd Hx p o) b xs := fun {Hx Fx o b xs} e h => by
        rcases h with (h | ⟨u, h⟩) | h
        · exact .inl (.inl (pk e h (fun _ _ _ z => by cases z)))
        · exact .inl (.inr ⟨u, pk e h (fun _ _ _ z => by cases z)⟩)
        · exact .inr h
      have hhp : ∀ {Hx : Hp} {Fx : List (Str × V)} {o : HO}, Hx p = some (.ins CV dx Fx) → HomesAt K Hx kvs nds → HomesAt K (upd Hx p o) kvs nds := fun {Hx Fx o} e h k nd c1 c2 c3 => let ⟨tp, i, o', es, e', x1, x2, x3, x4, x5⟩ := h k nd c1 c2 c3; ⟨tp, i, o', es, e', x1, x2, x3, x4, sqp e x5⟩
      have hm5 := hhp (o := .ins CV dx (putF "homes" (.ref d) F3)) p4 hhm
      generalize upd H4 p (.ins CV dx (putF "homes" (.ref d) F3)) = H5 at s5 p5 eD5 hds5 hd5 hm5 ⊢
      have l5 : (putF "homes" (V.ref d) F3).length ≤ 3 := by have := len_putF "homes" (V.ref d) F3; omega
      have a5 : (putF "homes" (V.ref d) F3).lookup ("nodes" : Str) = some (.ref N) := by rw [lookup_putF, if_neg (by decide +kernel)]; exact a3
      have b5 : (putF "homes" (V.ref d) F3).lookup ("names" : Str) = some (.ref D) := by rw [lookup_putF, if_neg (by decide +kernel)]; exact b3
      have c5 : (putF "homes" (V.ref d) F3).lookup ("homes" : Str) = some (.ref d) := by rw [lookup_putF, if_pos rfl]
      have u5 : (putF "homes" (V.ref d) F3).lookup ("up" : Str) = none := by rw [lookup_putF, if_neg (by decide +kernel)]; exact u3
      have w5 : (putF "homes" (V.ref d) F3).lookup ("led" : Str) = none := by rw [lookup_putF, if_neg (by decide +kernel)]; exact w3
      generalize putF "homes" (V.ref d) F3 = F5 at p5 l5 a5 b5 c5 u5 w5 ⊢
      refine ⟨_, rfl, t, CT, dxt, _, _, rfl, ht _ s5, TX.clT, TX.nTn, nodes_field N, N, _, rfl, (hTR _ s5).ob.ls, fun D2 hD2 => ?_⟩
      refine dc_enumR (K := K) (a := N) (xs := qs.map V.ref) (i := 3) (j := 2) (by decide) (lnkB nds) (fun k y H' => ∃ pp ps o z, y = .ref pp ∧ nds[k]? = some (.lnk o z) ∧ PartsAre z ps ∧ PathAt K CP H' pp (stepsOf ps) (absOf ps) (folOf ps)) (by rw [lq]; omega) hD2 (fun H' s => (hTR _ (s5.trans s)).ob.ls) (fun i x H' R hx s hR => ?_) (fun i x H' R hx hR => ⟨_, rfl, hR⟩) (fun i x H' R hx hb s hR => ?_)
        (fun k y H' H'' s ⟨pp, ps, o, z, x1, x2, x3, x4⟩ => ⟨pp, ps, o, z, x1, x2, x3, ⟨let ⟨u1, u2, u3, u4⟩ := x4.ob; ⟨u1, u2, s _ _ u3, Same.sqT s u4⟩⟩⟩) (fun k y H' k1 k2 eD ⟨pp, ps, o, z, x1, x2, x3, x4⟩ => ⟨pp, ps, o, z, x1, x2, x3, ⟨let ⟨u1, u2, u3, u4⟩ := x4.ob; ⟨u1, u2, by rw [upd_ne (ne_of u3 eD (fun z => by cases z))]; exact u3, sqT_dk u4 eD⟩⟩⟩) (fun H6 kvs2 s6 e6 hps => ?_)
      · have hi : i < nds.length := by rw [← lq]; exact (List.getElem?_eq_some_iff.mp hx).1
        have hn : nds[i]? = some nds[i] := List.getElem?_eq_getElem hi
        generalize nds[i] = nx at hn
        obtain ⟨q, hq, hqr, hO⟩ := (hTR _ (s5.trans s)).at_ hn
        have : x = .ref q := Option.some.inj (Eq.trans (Eq.symm hx) hqr)
        subst this
        obtain ⟨dx', fs, hins, _⟩ := obj_ins hO
        have ci := clsI_lt nx
        have ty := TG.ty _ ci
        refine ⟨_, rfl, _, _, _, _, decide (clsI nx = 2), rfl, .own (cs 2), .base (.ins hins (TG.cl _ ci) ty.c1 ty.c2 ty.c3 ty.c4), TG.kit _ 2 ci (by decide), _, rfl, ?_⟩
        have e : lnkB nds i = decide (clsI nx = 2) := by unfold lnkB; rw [hn]
        rw [← e]
        exact hR _ (Same.refl _)
      · have hi : i < nds.length := by rw [← lq]; exact (List.getElem?_eq_some_iff.mp hx).1
        have hn : nds[i]? = some nds[i] := List.getElem?_eq_getElem hi
        generalize nds[i] = nx at hn
        obtain ⟨q, hq, hqr, hO⟩ := (hTR _ (s5.trans s)).at_ hn
        have : x = .ref q := Option.some.inj (Eq.trans (Eq.symm hx) hqr)
        subst this
        unfold lnkB at hb
        rw [hn] at hb
        obtain ⟨o, z, rfl⟩ := clsI_lnk (of_decide_eq_true hb)
        obtain ⟨dx2, h1⟩ := hO
        obtain ⟨ps, A1, A2⟩ := link_parts (W.base.lnk i o z hn)
        refine ⟨_, rfl, q, cs 2, dx2, _, _, rfl, h1, TG.cl 2 (by decide), TG.nT, (by unfold fl2; rw [lookup_putF, if_pos rfl]), .inr ⟨z, ps, rfl, A1, fun n e => ?_, fun _ p' H' s' _ PA => hR _ H' s' ⟨p', ps, o, z, rfl, hn, A1, PA⟩⟩⟩
        rw [A2] at e
        cases e
      · have s06 := s5.trans s6
        have p6 := s6 _ _ p5
        refine ⟨_, rfl, p, CV, dx, _, rfl, p6, TV.clV, TV.n4, (by omega), k _ N (up s06) ⟨⟨dx, _, D, d, D2, kvs, kvs2, ds, upd_same, ?_, ?_, ?_, ?_, ?_, ?_, pk p6 (s6 _ _ eD5) (fun _ _ _ z => by cases z), hy, fun i d' nd a b => pk p6 (s6 _ _ (hds5 i d' nd a b)) (fun _ _ _ z => by cases z), pk p6 (s6 _ _ hd5) (fun _ _ _ z => by cases z),
          hhp p6 (fun k nd c1 c2 c3 => (hm5 k nd c1 c2 c3).same s6), pk p6 e6 (fun _ _ _ z => by cases z), fun k o z hkz => ?_⟩, hTR _ (up s06)⟩⟩
        · rw [lookup_putF, if_neg (by decide +kernel)]; exact a5
        · rw [lookup_putF, if_neg (by decide +kernel)]; exact b5
        · rw [lookup_putF, if_neg (by decide +kernel)]; exact c5
        · rw [lookup_putF, if_pos rfl]
        · rw [lookup_putF, if_neg (by decide +kernel)]; exact u5
        · rw [lookup_putF, if_neg (by decide +kernel)]; exact w5
        · obtain ⟨y, y1, pp, ps, o', z', y2, y3, y4, y5⟩ := hps k (by rw [lq]; exact (List.getElem?_eq_some_iff.mp hkz).1) (by unfold lnkB; rw [hkz]; rfl)
          rw [hkz] at y3
          cases Option.some.inj y3
          subst y2
          obtain ⟨u1, u2, u3, u4⟩ := y5.ob
          have npp : pp ≠ p := fun w => by
            subst w
            rw [p6] at u3
            injection u3 with u3
            injection u3 with _ _ u3
            rw [u3] at b5
            unfold pfl at b5
            rw [lookup_putF, if_neg (by decide +kernel), lookup_putF, if_neg (by decide +kernel), lookup_putF, if_neg (by decide +kernel)] at b5
            cases b5
          exact ⟨pp, ps, y1, y4, ⟨u1, u2, by rw [upd_ne npp]; exact u3, sqp p6 u4⟩⟩
end
end NW

set_option maxRecDepth 100000
set_option maxHeartbeats 400000
namespace NW
open PySem L2 NG TR LamX
abbrev sUp : Stmt := inClass (top 41) 2
abbrev sLed : Stmt := inClass (top 41) 1
/-- the folder above a folder or gone folder -/
def UpIs (nds : List Nd) (g i : Nat) : Prop := (g = 0 ∧ i = 0) ∨ (∃ o, nds[g]? = some (.gon o i)) ∨ (0 < g ∧ ∃ o es e, nds[i]? = some (.fol o es) ∧ e ∈ es ∧ e.2 = g)
def spUp (K : PySem.W.Frag) (cs : Nat → Addr) (CV CP : Addr) : Sp := fun vs H Q _ => ∃ (v N : Addr) (qs : List Addr) (nds : List Nd) (g : Nat) (nd : Nd), vs = [.ref v, .int (g : Nat)] ∧ ViewAt K cs CV CP H v N qs nds ∧ nds[g]? = some nd ∧ (clsI nd = 0 ∨ clsI nd = 3) ∧ ∀ i : Nat, UpIs nds g i → Q (.int (i : Nat)) H
/-- where a step leads by name -/
def nameTo (nd : Nd) (z : Str) : V := match nd.ents.find? (fun e => e.1 == z) with
  | some e => .int (e.2 : Nat)
  | none => .non
theorem valV_merge : ∀ (es : List (Str × Nat)) (acc : List (Key × V)) (z : Str), (es.map (·.1)).Nodup → (∀ e ∈ es, valV acc (Sum.inr e.1) = none) → valV (mergeK acc (es.map fun e => ((Sum.inr e.1 : Key), V.int (e.2 : Nat)))) (Sum.inr z) =
    match es.find? (fun e => e.1 == z) with
    | some e => some (V.int (e.2 : Nat))
    | none => valV acc (Sum.inr z)
  | [], acc, z, _, _ => rfl
  | e :: r, acc, z, hn, ha => by
    rw [List.map_cons, List.nodup_cons] at hn
    have step : mergeK acc ((e :: r).map fun e => ((Sum.inr e.1 : Key), V.int (e.2 : Nat))) = mergeK (putK acc (Sum.inr e.1) (.int (e.2 : Nat))) (r.map fun e => ((Sum.inr e.1 : Key), V.int (e.2 : Nat))) := rfl
    rw [step, valV_merge r _ z hn.2 (fun x hx => by
      rw [valV_put, if_neg (fun q => hn.1 (by injection q with q; rw [← q]; exact List.mem_map.mpr ⟨x, hx, rfl⟩))]
      exact ha x (List.mem_cons_of_mem _ hx))]
    by_cases h : e.1 = z
    · have hz : (e.1 == z) = true := by rw [h]; exact beq_self_eq_true z
      rw [List.find?_cons, hz]
      have : r.find? (fun e => e.1 == z) = none := by
        rw [List.find?_eq_none]
        intro x hx q
        have q' : x.1 = z := by simpa using q
        exact hn.1 (List.mem_map.mpr ⟨x, hx, q'.trans h.symm⟩)
      rw [this]
      show valV (putK acc (Sum.inr e.1) _) (Sum.inr z) = _
      rw [valV_put, if_pos (by rw [h])]
    · have hz : (e.1 == z) = false := by simpa using h
      rw [List.find?_cons, hz]
      cases r.find? (fun e => e.1 == z) with
      | some x => rfl
      | none =>
        show valV (putK acc (Sum.inr e.1) _) (Sum.inr z) = _
        rw [valV_put, if_neg (fun q => h (by injection q with q; exact q.symm))]
def spLed (K : PySem.W.Frag) (cs : Nat → Addr) (CV CP : Addr) : Sp := fun vs H Q _ => ∃ (v N : Addr) (qs : List Addr) (nds : List Nd) (g : Nat) (nd : Nd) (z : Str), vs = [.ref v, .int (g : Nat), .str z] ∧ ViewAt K cs CV CP H v N qs nds ∧ nds[g]? = some nd ∧ (clsI nd = 0 ∨ clsI nd = 3) ∧
  (z = (".." : Str) → ∀ i : Nat, UpIs nds g i → Q (.int (i : Nat)) H) ∧ (z ≠ (".." : Str) → Q (nameTo nd z) H)
section
variable {P : Program} {w : World} {K : PySem.W.Frag} {mg : Str → Option Value} {base : Heap} {fNum fAt fDigit fPool CV CP fHm fRead fUp f : Addr} {cs : Nat → Addr}
theorem scUp : FnScope ["self", "at"] ["self", "at"] (defScope sUp) := ⟨rfl, rfl, rfl, by decide +kernel, rfl, by decide +kernel, by decide +kernel⟩
theorem ok_up {fd : FuncData} (F : Fun K "up" "View.up" sUp f fd) (T : TxtK K mg fNum fAt fDigit fPool) (TG : TxtG K mg cs) (TV : TxtVw K mg CV fHm fRead) : FnOk P w K mg base CX0 1 f fd ["self", "at"] (spUp K cs CV CP) := by
  obtain ⟨tr, gr⟩ := TG.m_ROOT
  refine F.ok scUp (fun vs H Q E h => ?_) (fun cdv A outer s H vs Q E hr h => ?_)
  · obtain ⟨v, N, qs, nds, g, nd, rfl, _⟩ := h
    rfl
  · obtain ⟨v, N, qs, nds, g, nd, rfl, VA, hn, hc, k⟩ := h
    have hu := hu_of hr
    obtain ⟨dx, Fl, Ln, Dh, Dp, kh, kp, ds, hv, f1, f2, f3, f4, f5, f6, g1, g2, g3, g4, g5, g6, g7⟩ := VA.ob
    obtain ⟨q, hq, hqr, hO⟩ := VA.tr.at_ hn
    obtain ⟨dx', fs, hins, _⟩ := obj_ins hO
    have ci := clsI_lt nd
    have ty := TG.ty _ ci
    refine ⟨_, (pss_cons (ps_if (pt_cmpR op_eq (pv 1) (pe_glob (v := .int 0) (by rfl) gr ⟨_, rfl⟩) (nomark _)) (pss_one (ps_ret (pe_glob (v := .int 0) (by rfl) gr ⟨_, rfl⟩))) pss_nil)
  (pss_cons (ps_if (pt_val (pe_callB call_isi (by rfl) T.m_isinstance (by decide +kernel) (pa_cons (pe_ix ix_tup (pe_fld (pv 0) rfl) (pv 1) (fun _ _ => rfl)) (pa_cons (pe_glob (v := .ref (cs 3)) (by rfl) TG.m_Gone rfl) pa_nil)))) (pss_one (ps_ret (pe_fld (pe_ix ix_tup (pe_fld (pv 0) rfl) (pv 1) (fun _ _ => rfl)) rfl))) pss_nil)
  (pss_one (ps_ret (pe_ix ix_tup (pe_dget hu (pe_fld (pv 0) rfl) (pv 1) (fun _ _ => rfl)) pe_int (fun _ _ => rfl)))))), ?_⟩
    refine ⟨_, rfl, rfl, _, rfl, ?_⟩
    by_cases h0 : g = 0
    · subst h0
      rw [show decide (V.int ((0 : Nat) : Int) = V.int 0) = true from decide_eq_true rfl]
      exact iteT (k 0 (.inl ⟨rfl, rfl⟩))
    · rw [decide_eq_false (fun z => by injection z with z; omega)]
      refine iteF ⟨_, rfl, v, CV, dx, _, _, rfl, hv, TV.clV, TV.n1, f1, _, rfl, N, _, _, _, rfl, rfl, VA.tr.ob.ls, atI_nat hqr, _, _, _, _, decide (clsI nd = 3), rfl, .own (cs 3), .base (.ins hins (TG.cl _ ci) ty.c1 ty.c2 ty.c3 ty.c4), TG.kit _ 3 ci (by decide), _, rfl, ?_⟩
      rcases hc with hc | hc
      · rw [hc]
        rw [show decide ((0 : Nat) = 3) = false from rfl]
        obtain ⟨tp, i, o, es, e, b1, b2, b3, b4, b5⟩ := g5 g nd hn hc (by omega)
        refine iteF ⟨_, rfl, v, CV, dx, _, _, rfl, hv, TV.clV, TV.n3, f3, _, rfl, Dh, _, rfl, b1 ▸ DGet.k (k := Sum.inl (g : Int)) g4, ?_⟩
        exact ⟨tp, _, 0, _, rfl, rfl, b5, rfl, k i (.inr (.inr ⟨by omega, o, es, e, b2, b3, b4⟩))⟩
      · rw [hc]
        rw [show decide ((3 : Nat) = 3) = true from rfl]
        cases nd with
        | gon o ab =>
          obtain ⟨dx2, h1⟩ := hO
          exact iteT ⟨_, rfl, v, CV, dx, _, _, rfl, hv, TV.clV, TV.n1, f1, _, rfl, N, _, _, _, rfl, rfl, VA.tr.ob.ls, atI_nat hqr, q, cs 3, dx2, _, _, rfl, h1, TG.cl 3 (by decide), TG.nA, (by unfold fl2; rw [lookup_putF, if_pos rfl]), k ab (.inr (.inl ⟨o, hn⟩))⟩
        | _ => simp [clsI] at hc
theorem scLed : FnScope ["self", "at", "step"] ["self", "at", "step"] (defScope sLed) := ⟨rfl, rfl, rfl, by decide +kernel, rfl, by decide +kernel, by decide +kernel⟩
theorem ok_led {fd fdU : FuncData} (F : Fun K "led" "View.led" sLed f fd) (TV : TxtVw K mg CV fHm fRead) (MU : Meth K CV "up" fUp) (GU : FnOk P w K mg base CX0 1 fUp fdU ["self", "at"] (spUp K cs CV CP)) (bU : Binds K fdU ["self", "at"] []) :
    FnOk P w K mg base CX0 2 f fd ["self", "at", "step"] (spLed K cs CV CP) := by
  refine F.ok scLed (fun vs H Q E h => ?_) (fun cdv A outer s H vs Q E hr h => ?_)
  · obtain ⟨v, N, qs, nds, g, nd, z, rfl, _⟩ := h
    rfl
  · obtain ⟨v, N, qs, nds, g, nd, z, rfl, VA, hn, hc, kU, kN⟩ := h
    have hr1 : Room 1 _ := hr
    have hu := hu_of hr
    obtain ⟨dx, Fl, Ln, Dh, Dp, kh, kp, ds, hv, f1, f2, f3, f4, f5, f6, g1, g2, g3, g4, g5, g6, g7⟩ := id VA.ob
    refine ⟨_, (pss_cons (ps_if (pt_cmpR op_eq (pv 2) pe_str (nomark _)) (pss_one (ps_ret (pe_meth (pv 0) TV.clV MU GU hr1 bU .nil pass0 (pa_cons (pv 1) pa_nil)))) pss_nil)
  (pss_one (ps_ret (pe_dget1 hu (pe_ix ix_list (pe_fld (pv 0) rfl) (pv 1) (fun _ _ => rfl)) (pv 2) ⟨by rfl, by rfl, by rfl, by rfl⟩)))), ?_⟩
    refine ⟨_, rfl, rfl, _, rfl, ?_⟩
    by_cases hz : z = ".."
    · subst hz
      rw [decide_eq_true rfl]
      exact iteT ⟨_, rfl, v, dx, _, rfl, hv, f5, _, rfl, v, N, qs, nds, g, nd, rfl, VA, hn, hc, kU rfl⟩
    · rw [decide_eq_false (fun q => hz (V.str.inj q))]
      have hgl : g < ds.length := by rw [g2]; exact (List.getElem?_eq_some_iff.mp hn).1
      have hd : ds[g]? = some ds[g] := List.getElem?_eq_getElem hgl
      generalize ds[g] = d at hd
      have hD := g3 g d nd hd hn
      refine iteF ⟨_, rfl, v, CV, dx, _, _, rfl, hv, TV.clV, TV.n2, f2, _, rfl, Ln, _, _, _, rfl, rfl, SqL.of g1, atI_nat (by rw [List.getElem?_map, hd]; rfl), d, rfl, .inl ⟨_, .inl hD⟩, _, rfl, _, DGet.k (k := Sum.inr z) hD, ?_⟩
      have W := VA.tr.wf
      have hv' := valV_merge nd.ents [] z (W.base.uniq g nd hn).1 (fun e _ => rfl)
      have hk := kN hz
      unfold nameTo at hk
      unfold entK
      rw [hv']
      cases hf : nd.ents.find? (fun e => e.1 == z) with
      | some e => rw [hf] at hk; exact hk
      | none => rw [hf] at hk; exact hk
end
end NW

set_option maxRecDepth 100000
set_option maxHeartbeats 400000
namespace NW
open PySem L2 NG TR LamX
abbrev sCmI : Stmt := inClass (top 47) 0
abbrev sCmE : Stmt := inClass (top 47) 1
abbrev sGoI : Stmt := inClass (top 49) 0
abbrev sBeg : Stmt := top 50
abbrev sBgn : Stmt := top 51
abbrev sEnd : Stmt := top 43
def spCmI (K : PySem.W.Frag) (C : Addr) : Sp := fun vs H Q _ => ∃ (p dx : Addr) (v : V), vs = [.ref p, v] ∧ H p = some (.ins C dx []) ∧ Q .non (upd H p (.ins C dx (fl1 "node" v)))
structure TxtGo (K : PySem.W.Frag) (mg : Str → Option Value) (CC CG CP fCmI fBeg fBgn fEnd : Addr) : Prop where
  clC : Cls K CC
  nC : NoAttr K CC "node"
  gC : mg "Came" = some (.ref CC)
  mkC : Mk K CC fCmI
  clG : Cls K CG
  g1 : NoAttr K CG "look"
  g2 : NoAttr K CG "at"
  g3 : NoAttr K CG "steps"
  g4 : NoAttr K CG "wants"
  g5 : NoAttr K CG "links"
  g6 : NoAttr K CG "result"
  gG : mg "Going" = some (.ref CG)
  clP : Cls K CP
  nS : NoAttr K CP "steps"
  nA : NoAttr K CP "absolute"
  nF : NoAttr K CP "folder"
  gbeg : mg "beginning" = some (.ref fBeg)
  kbeg : PySem.W.keepIn K (.ref fBeg) = true
  gbgn : mg "begun" = some (.ref fBgn)
  kbgn : PySem.W.keepIn K (.ref fBgn) = true
  gend : mg "ended_in" = some (.ref fEnd)
  kend : PySem.W.keepIn K (.ref fEnd) = true
/-- a walk that is at its end where it began -/
def GoAt (CG CC : Addr) (H : Hp) (g : Addr) (at_ : V) : Prop := ∃ dx F r dr, H g = some (.ins CG dx F) ∧ F.lookup ("at" : Str) = some at_ ∧ F.lookup ("result" : Str) = some (.ref r) ∧ H r = some (.ins CC dr (fl1 "node" at_))
theorem GoAt.same {CG CC : Addr} {H H' : Hp} {g : Addr} {at_ : V} (h : GoAt CG CC H g at_) (s : Same H H') : GoAt CG CC H' g at_ := let ⟨dx, F, r, dr, h1, h2, h3, h4⟩ := h; ⟨dx, F, r, dr, s _ _ h1, h2, h3, s _ _ h4⟩
def spGoI (K : PySem.W.Frag) (CG CC : Addr) : Sp := fun vs H Q _ => ∃ (p dx st : Addr) (lk at_ wa li : V) (H0 : Hp), vs = [.ref p, lk, at_, .ref st, wa, li] ∧ H p = some (.ins CG dx []) ∧ H0 p = none ∧ Same H0 H ∧ SqT K H0 st [] ∧ ∀ H', Same H0 H' → GoAt CG CC H' p at_ → Q .non H'
def spBeg (K : PySem.W.Frag) (CP : Addr) : Sp := fun vs H Q _ => ∃ (at_ : V) (p : Addr) (xs : List Str) (ab fo : Bool), vs = [at_, .ref p] ∧ PathAt K CP H p xs ab fo ∧ Q (if ab = true then .int 0 else at_) H
def spBgn (K : PySem.W.Frag) (CP CG CC : Addr) : Sp := fun vs H Q _ => ∃ (pl lk : V) (p : Addr) (ab fo : Bool), vs = [pl, .ref p, lk] ∧ PathAt K CP H p [] ab fo ∧ ∀ H' g, Same H H' → GoAt CG CC H' g (if ab = true then .int 0 else pl) → Q (.ref g) H'
def spEnd (CG CC : Addr) : Sp := fun vs H Q _ => ∃ (v : V) (g : Addr) (at_ : V), vs = [v, .ref g] ∧ GoAt CG CC H g at_ ∧ ∀ r dr, H r = some (.ins CC dr (fl1 "node" at_)) → Q (.ref r) H
/-- a walk under way: its look, where it stands, its steps, whether it wants a folder, its links so far -/
def GoW (K : PySem.W.Frag) (CG CC : Addr) (H : Hp) (p : Addr) (lk : V) (g : Nat) (xs : List Str) (wa : Bool) (li : Nat) : Prop := ∃ dx F st, H p = some (.ins CG dx F) ∧ F.lookup ("look" : Str) = some lk ∧ F.lookup ("at" : Str) = some (.int (g : Nat)) ∧ F.lookup ("steps" : Str) = some (.ref st) ∧ SqT K H st (xs.map V.str) ∧
  F.lookup ("wants" : Str) = some (.bl wa) ∧ F.lookup ("links" : Str) = some (.int (li : Nat)) ∧ (∀ m ∈ (["looked", "found", "taken", "followed", "refused", "state"] : List Str), F.lookup m = none) ∧ F.length ≤ 10 ∧
  (xs = [] → ∃ r dr, F.lookup ("result" : Str) = some (.ref r) ∧ H r = some (.ins CC dr (fl1 "node" (.int (g : Nat))))) ∧ (xs ≠ [] → F.lookup ("result" : Str) = some .non)
theorem GoW.same {K : PySem.W.Frag} {CG CC : Addr} {H H' : Hp} {p : Addr} {lk : V} {g : Nat} {xs : List Str} {wa : Bool} {li : Nat} (h : GoW K CG CC H p lk g xs wa li) (s : Same H H') : GoW K CG CC H' p lk g xs wa li :=
  let ⟨dx, F, st, a1, a2, a3, a4, a5, a6, a7, a8, al, a9, b1⟩ := h
  ⟨dx, F, st, s _ _ a1, a2, a3, a4, Same.sqT s a5, a6, a7, a8, al, fun e => let ⟨r, dr, x, y⟩ := a9 e; ⟨r, dr, x, s _ _ y⟩, b1⟩
def spGoG (K : PySem.W.Frag) (CG CC : Addr) : Sp := fun vs H Q _ => ∃ (p dx st : Addr) (lk : V) (g : Nat) (xs : List Str) (wa : Bool) (li : Nat) (H0 : Hp), vs = [.ref p, lk, .int (g : Nat), .ref st, .bl wa, .int (li : Nat)] ∧ H p = some (.ins CG dx []) ∧ H0 p = none ∧ Same H0 H ∧ SqT K H0 st (xs.map V.str) ∧
  ∀ H', Same H0 H' → GoW K CG CC H' p lk g xs wa li → Q .non H'
section
variable {P : Program} {w : World} {K : PySem.W.Frag} {mg : Str → Option Value} {base : Heap} {fNum fAt fDigit fPool CC CG CP fCmI fBeg fBgn fEnd f : Addr} {cs : Nat → Addr}
theorem scCmI : FnScope ["self", "node"] ["self", "node"] (defScope sCmI) := ⟨rfl, rfl, rfl, by decide +kernel, rfl, by decide +kernel, by decide +kernel⟩
theorem ok_cmI {fd : FuncData} (F : Fun K "__init__" "Came.__init__" sCmI f fd) (T : TxtGo K mg CC CG CP fCmI fBeg fBgn fEnd) : FnOk P w K mg base CX0 1 f fd ["self", "node"] (spCmI K CC) := by
  refine F.ok scCmI (fun vs H Q E h => ?_) (fun cdv A outer s H vs Q E hr h => ?_)
  · obtain ⟨p, dx, v, rfl, _⟩ := h
    rfl
  · obtain ⟨p, dx, v, rfl, hp, k⟩ := h
    refine ⟨_, pss_one (ps_fld (pv 0) (pv 1) rfl), ?_⟩
    exact ⟨_, rfl, _, rfl, p, CC, dx, _, rfl, hp, T.clC, T.nC, (by show 0 < 1000; decide), k⟩
theorem scGoI : FnScope ["self", "look", "at", "steps", "wants", "links"] ["self", "look", "at", "steps", "wants", "links"] (defScope sGoI) := ⟨rfl, rfl, rfl, by decide +kernel, rfl, by decide +kernel, by decide +kernel⟩
theorem ok_goI {fd fdC : FuncData} (F : Fun K "__init__" "Going.__init__" sGoI f fd) (T : TxtGo K mg CC CG CP fCmI fBeg fBgn fEnd) (ml : mg "len" = none) (GC : FnOk P w K mg base CX0 1 fCmI fdC ["self", "node"] (spCmI K CC)) (bC : Binds K fdC ["self", "node"] []) :
    FnOk P w K mg base CX0 3 f fd ["self", "look", "at", "steps", "wants", "links"] (spGoI K CG CC) := by
  refine F.ok scGoI (fun vs H Q E h => ?_) (fun cdv A outer s H vs Q E hr h => ?_)
  · obtain ⟨p, dx, st, lk, at_, wa, li, H0, rfl, _⟩ := h
    rfl
  · obtain ⟨p, dx, st, lk, at_, wa, li, H0, rfl, hp, fp, s0, hst, k⟩ := h
    have hr2 : Room 2 _ := hr
    refine ⟨_, (pss_cons (ps_fld (pv 0) (pv 1) rfl)
  (pss_cons (ps_fld (pv 0) (pv 2) rfl)
  (pss_cons (ps_fld (pv 0) (pv 3) rfl)
  (pss_cons (ps_fld (pv 0) (pv 4) rfl)
  (pss_cons (ps_fld (pv 0) (pv 5) rfl)
  (pss_one (ps_fld (pv 0) (pe_ifExp (pt_cmpR op_eq (pe_callB call_len_seq (by rfl) ml (by decide +kernel) (pa_cons (pv 3) pa_nil)) pe_int (nomark _)) (pe_make T.mkC GC hr2 (by rfl) T.gC bC .nil pass0 (pa_cons (pv 2) pa_nil)) pe_non) rfl))))))), ?_⟩
    have up : ∀ {H' : Hp} {o : HO}, Same H0 H' → Same H0 (upd H' p o) := fun {H' o} s b u e => by rw [upd_ne (ne_of_none e fp)]; exact s _ _ e
    refine ⟨_, rfl, _, rfl, p, CG, dx, _, rfl, hp, T.clG, T.g1, (by show 0 < 1000; decide), ?_⟩
    have s1 := up (o := .ins CG dx (putF "look" lk [])) s0
    have p1 : (upd H p (.ins CG dx (putF "look" lk []))) p = some (.ins CG dx (putF "look" lk [])) := upd_same
    generalize upd H p (.ins CG dx (putF "look" lk [])) = H1 at s1 p1 ⊢
    have l1 : (putF "look" lk []).length ≤ 1 := len_putF "look" lk []
    generalize putF "look" lk [] = F1 at p1 l1 ⊢
    refine ⟨_, rfl, _, rfl, p, CG, dx, _, rfl, p1, T.clG, T.g2, (by omega), ?_⟩
    have s2 := up (o := .ins CG dx (putF "at" at_ F1)) s1
    have p2 : (upd H1 p (.ins CG dx (putF "at" at_ F1))) p = some (.ins CG dx (putF "at" at_ F1)) := upd_same
    generalize upd H1 p (.ins CG dx (putF "at" at_ F1)) = H2 at s2 p2 ⊢
    have l2 : (putF "at" at_ F1).length ≤ 2 := by have := len_putF "at" at_ F1; omega
    have a2 : (putF "at" at_ F1).lookup ("at" : Str) = some at_ := by rw [lookup_putF, if_pos rfl]
    generalize putF "at" at_ F1 = F2 at p2 l2 a2 ⊢
    refine ⟨_, rfl, _, rfl, p, CG, dx, _, rfl, p2, T.clG, T.g3, (by omega), ?_⟩
    have s3 := up (o := .ins CG dx (putF "steps" (V.ref st) F2)) s2
    have p3 : (upd H2 p (.ins CG dx (putF "steps" (V.ref st) F2))) p = some (.ins CG dx (putF "steps" (V.ref st) F2)) := upd_same
    generalize upd H2 p (.ins CG dx (putF "steps" (V.ref st) F2)) = H3 at s3 p3 ⊢
    have l3 : (putF "steps" (V.ref st) F2).length ≤ 3 := by have := len_putF "steps" (V.ref st) F2; omega
    have a3 : (putF "steps" (V.ref st) F2).lookup ("at" : Str) = some at_ := by rw [lookup_putF, if_neg (by decide +kernel)]; exact a2
    generalize putF "steps" (V.ref st) F2 = F3 at p3 l3 a3 ⊢
    refine ⟨_, rfl, _, rfl, p, CG, dx, _, rfl, p3, T.clG, T.g4, (by omega), ?_⟩
    have s4 := up (o := .ins CG dx (putF "wants" wa F3)) s3
    have p4 : (upd H3 p (.ins CG dx (putF "wants" wa F3))) p = some (.ins CG dx (putF "wants" wa F3)) := upd_same
    generalize upd H3 p (.ins CG dx (putF "wants" wa F3)) = H4 at s4 p4 ⊢
    have l4 : (putF "wants" wa F3).length ≤ 4 := by have := len_putF "wants" wa F3; omega
    have a4 : (putF "wants" wa F3).lookup ("at" : Str) = some at_ := by rw [lookup_putF, if_neg (by decide +kernel)]; exact a3
    generalize putF "wants" wa F3 = F4 at p4 l4 a4 ⊢
    refine ⟨_, rfl, _, rfl, p, CG, dx, _, rfl, p4, T.clG, T.g5, (by omega), ?_⟩
    have s5 := up (o := .ins CG dx (putF "links" li F4)) s4
    have p5 : (upd H4 p (.ins CG dx (putF "links" li F4))) p = some (.ins CG dx (putF "links" li F4)) := upd_same
    generalize upd H4 p (.ins CG dx (putF "links" li F4)) = H5 at s5 p5 ⊢
    have l5 : (putF "links" li F4).length ≤ 5 := by have := len_putF "links" li F4; omega
    have a5 : (putF "links" li F4).lookup ("at" : Str) = some at_ := by rw [lookup_putF, if_neg (by decide +kernel)]; exact a4
    generalize putF "links" li F4 = F5 at p5 l5 a5 ⊢
    refine ⟨_, rfl, st, _, rfl, .inr (Same.sqT s5 hst), rfl, _, rfl, ?_⟩
    rw [show decide (V.int ((([] : List V).length : Nat) : Int) = V.int 0) = true from decide_eq_true rfl]
    refine iteT ⟨_, rfl, fun x dx' nx ndx nex => ⟨x, dx', at_, rfl, upd_same, rfl, ?_⟩⟩
    have s6 : Same H5 (upd (upd (upd H5 dx' (.own x)) x (.ins CC dx' [])) x (.ins CC dx' (fl1 "node" at_))) := fun b u e => by
      rw [upd_ne (ne_of_none e nx)]
      exact new_ext (C := CC) nx ndx _ _ e
    have ex : (upd (upd (upd H5 dx' (.own x)) x (.ins CC dx' [])) x (.ins CC dx' (fl1 "node" at_))) x = some (.ins CC dx' (fl1 "node" at_)) := upd_same
    generalize upd (upd (upd H5 dx' (.own x)) x (.ins CC dx' [])) x (.ins CC dx' (fl1 "node" at_)) = H6 at s6 ex ⊢
    have nxp : x ≠ p := (ne_of_none p5 nx).symm
    refine ⟨_, rfl, p, CG, dx, _, rfl, s6 _ _ p5, T.clG, T.g6, (by omega), k _ (up (s5.trans s6)) ⟨dx, _, x, dx', upd_same, ?_, ?_, by rw [upd_ne nxp]; exact ex⟩⟩
    · rw [lookup_putF, if_neg (by decide +kernel)]; exact a5
    · rw [lookup_putF, if_pos rfl]
theorem nef (f : Str) (h : f ∉ (["looked", "found", "taken", "followed", "refused", "state"] : List Str)) : ∀ m ∈ (["looked", "found", "taken", "followed", "refused", "state"] : List Str), ¬ m = f := fun m hm e => h (e ▸ hm)
theorem ok_goG {fd fdC : FuncData} (F : Fun K "__init__" "Going.__init__" sGoI f fd) (T : TxtGo K mg CC CG CP fCmI fBeg fBgn fEnd) (ml : mg "len" = none) (GC : FnOk P w K mg base CX0 1 fCmI fdC ["self", "node"] (spCmI K CC)) (bC : Binds K fdC ["self", "node"] []) :
    FnOk P w K mg base CX0 3 f fd ["self", "look", "at", "steps", "wants", "links"] (spGoG K CG CC) := by
  refine F.ok scGoI (fun vs H Q E h => ?_) (fun cdv A outer s H vs Q E hr h => ?_)
  · obtain ⟨p, dx, st, lk, g, xs, wa, li, H0, rfl, _⟩ := h
    rfl
  · obtain ⟨p, dx, st, lk, g, xs, wa, li, H0, rfl, hp, fp, s0, hst, k⟩ := h
    have hr2 : Room 2 _ := hr
    refine ⟨_, (pss_cons (ps_fld (pv 0) (pv 1) rfl)
  (pss_cons (ps_fld (pv 0) (pv 2) rfl)
  (pss_cons (ps_fld (pv 0) (pv 3) rfl)
  (pss_cons (ps_fld (pv 0) (pv 4) rfl)
  (pss_cons (ps_fld (pv 0) (pv 5) rfl)
  (pss_one (ps_fld (pv 0) (pe_ifExp (pt_cmpR op_eq (pe_callB call_len_seq (by rfl) ml (by decide +kernel) (pa_cons (pv 3) pa_nil)) pe_int (nomark _)) (pe_make T.mkC GC hr2 (by rfl) T.gC bC .nil pass0 (pa_cons (pv 2) pa_nil)) pe_non) rfl))))))), ?_⟩
    have up : ∀ {H' : Hp} {o : HO}, Same H0 H' → Same H0 (upd H' p o) := fun {H' o} s b u e => by rw [upd_ne (ne_of_none e fp)]; exact s _ _ e
    refine ⟨_, rfl, _, rfl, p, CG, dx, _, rfl, hp, T.clG, T.g1, (by show 0 < 1000; decide), ?_⟩
    have s1 := up (o := .ins CG dx (putF "look" lk [])) s0
    have p1 : (upd H p (.ins CG dx (putF "look" lk []))) p = some (.ins CG dx (putF "look" lk [])) := upd_same
    generalize upd H p (.ins CG dx (putF "look" lk [])) = H1 at s1 p1 ⊢
    have l1 : (putF "look" lk []).length ≤ 1 := by have := len_putF "look" lk []; simp only [List.length_nil] at this; omega
    have k11 : (putF "look" lk []).lookup ("look" : Str) = some lk := by rw [lookup_putF, if_pos rfl]
    have m1 : ∀ m ∈ (["looked", "found", "taken", "followed", "refused", "state"] : List Str), (putF "look" lk []).lookup m = none := fun m hm => by
      rw [lookup_putF, if_neg (nef "look" (by decide +kernel) m hm)]; rfl
    generalize putF "look" lk [] = F1 at p1 l1 k11 m1 ⊢
    refine ⟨_, rfl, _, rfl, p, CG, dx, _, rfl, p1, T.clG, T.g2, (by omega), ?_⟩
    have s2 := up (o := .ins CG dx (putF "at" (.int (g : Nat)) F1)) s1
    have p2 : (upd H1 p (.ins CG dx (putF "at" (.int (g : Nat)) F1))) p = some (.ins CG dx (putF "at" (.int (g : Nat)) F1)) := upd_same
    generalize upd H1 p (.ins CG dx (putF "at" (.int (g : Nat)) F1)) = H2 at s2 p2 ⊢
    have l2 : (putF "at" (.int (g : Nat)) F1).length ≤ 2 := by have := len_putF "at" (.int (g : Nat)) F1; omega
    have k21 : (putF "at" (.int (g : Nat)) F1).lookup ("look" : Str) = some lk := by rw [lookup_putF, if_neg (by decide +kernel)]; exact k11
    have k22 : (putF "at" (.int (g : Nat)) F1).lookup ("at" : Str) = some (.int (g : Nat)) := by rw [lookup_putF, if_pos rfl]
    have m2 : ∀ m ∈ (["looked", "found", "taken", "followed", "refused", "state"] : List Str), (putF "at" (.int (g : Nat)) F1).lookup m = none := fun m hm => by
      rw [lookup_putF, if_neg (nef "at" (by decide +kernel) m hm)]; exact m1 m hm
    generalize putF "at" (.int (g : Nat)) F1 = F2 at p2 l2 k21 k22 m2 ⊢
    refine ⟨_, rfl, _, rfl, p, CG, dx, _, rfl, p2, T.clG, T.g3, (by omega), ?_⟩
    have s3 := up (o := .ins CG dx (putF "steps" (.ref st) F2)) s2
    have p3 : (upd H2 p (.ins CG dx (putF "steps" (.ref st) F2))) p = some (.ins CG dx (putF "steps" (.ref st) F2)) := upd_same
    generalize upd H2 p (.ins CG dx (putF "steps" (.ref st) F2)) = H3 at s3 p3 ⊢
    have l3 : (putF "steps" (.ref st) F2).length ≤ 3 := by have := len_putF "steps" (.ref st) F2; omega
    have k31 : (putF "steps" (.ref st) F2).lookup ("look" : Str) = some lk := by rw [lookup_putF, if_neg (by decide +kernel)]; exact k21
    have k32 : (putF "steps" (.ref st) F2).lookup ("at" : Str) = some (.int (g : Nat)) := by rw [lookup_putF, if_neg (by decide +kernel)]; exact k22
    have k33 : (putF "steps" (.ref st) F2).lookup ("steps" : Str) = some (.ref st) := by rw [lookup_putF, if_pos rfl]
    have m3 : ∀ m ∈ (["looked", "found", "taken", "followed", "refused", "state"] : List Str), (putF "steps" (.ref st) F2).lookup m = none := fun m hm => by
      rw [lookup_putF, if_neg (nef "steps" (by decide +kernel) m hm)]; exact m2 m hm
    generalize putF "steps" (.ref st) F2 = F3 at p3 l3 k31 k32 k33 m3 ⊢
    refine ⟨_, rfl, _, rfl, p, CG, dx, _, rfl, p3, T.clG, T.g4, (by omega), ?_⟩
    have s4 := up (o := .ins CG dx (putF "wants" (.bl wa) F3)) s3
    have p4 : (upd H3 p (.ins CG dx (putF "wants" (.bl wa) F3))) p = some (.ins CG dx (putF "wants" (.bl wa) F3)) := upd_same
    generalize upd H3 p (.ins CG dx (putF "wants" (.bl wa) F3)) = H4 at s4 p4 ⊢
    have l4 : (putF "wants" (.bl wa) F3).length ≤ 4 := by have := len_putF "wants" (.bl wa) F3; omega
    have k41 : (putF "wants" (.bl wa) F3).lookup ("look" : Str) = some lk := by rw [lookup_putF, if_neg (by decide +kernel)]; exact k31
    have k42 : (putF "wants" (.bl wa) F3).lookup ("at" : Str) = some (.int (g : Nat)) := by rw [lookup_putF, if_neg (by decide +kernel)]; exact k32
    have k43 : (putF "wants" (.bl wa) F3).lookup ("steps" : Str) = some (.ref st) := by rw [lookup_putF, if_neg (by decide +kernel)]; exact k33
    have k44 : (putF "wants" (.bl wa) F3).lookup ("wants" : Str) = some (.bl wa) := by rw [lookup_putF, if_pos rfl]
    have m4 : ∀ m ∈ (["looked", "found", "taken", "followed", "refused", "state"] : List Str), (putF "wants" (.bl wa) F3).lookup m = none := fun m hm => by
      rw [lookup_putF, if_neg (nef "wants" (by decide +kernel) m hm)]; exact m3 m hm
    generalize putF "wants" (.bl wa) F3 = F4 at p4 l4 k41 k42 k43 k44 m4 ⊢
    refine ⟨_, rfl, _, rfl, p, CG, dx, _, rfl, p4, T.clG, T.g5, (by omega), ?_⟩
    have s5 := up (o := .ins CG dx (putF "links" (.int (li : Nat)) F4)) s4
    have p5 : (upd H4 p (.ins CG dx (putF "links" (.int (li : Nat)) F4))) p = some (.ins CG dx (putF "links" (.int (li : Nat)) F4)) := upd_same
    generalize upd H4 p (.ins CG dx (putF "links" (.int (li : Nat)) F4)) = H5 at s5 p5 ⊢
    have l5 : (putF "links" (.int (li : Nat)) F4).length ≤ 5 := by have := len_putF "links" (.int (li : Nat)) F4; omega
    have k51 : (putF "links" (.int (li : Nat)) F4).lookup ("look" : Str) = some lk := by rw [lookup_putF, if_neg (by decide +kernel)]; exact k41
    have k52 : (putF "links" (.int (li : Nat)) F4).lookup ("at" : Str) = some (.int (g : Nat)) := by rw [lookup_putF, if_neg (by decide +kernel)]; exact k42
    have k53 : (putF "links" (.int (li : Nat)) F4).lookup ("steps" : Str) = some (.ref st) := by rw [lookup_putF, if_neg (by decide +kernel)]; exact k43
    have k54 : (putF "links" (.int (li : Nat)) F4).lookup ("wants" : Str) = some (.bl wa) := by rw [lookup_putF, if_neg (by decide +kernel)]; exact k44
    have k55 : (putF "links" (.int (li : Nat)) F4).lookup ("links" : Str) = some (.int (li : Nat)) := by rw [lookup_putF, if_pos rfl]
    have m5 : ∀ m ∈ (["looked", "found", "taken", "followed", "refused", "state"] : List Str), (putF "links" (.int (li : Nat)) F4).lookup m = none := fun m hm => by
      rw [lookup_putF, if_neg (nef "links" (by decide +kernel) m hm)]; exact m4 m hm
    generalize putF "links" (.int (li : Nat)) F4 = F5 at p5 l5 k51 k52 k53 k54 k55 m5 ⊢
    refine ⟨_, rfl, st, _, rfl, .inr (Same.sqT s5 hst), rfl, _, rfl, ?_⟩
    cases xs with
    | nil =>
      rw [show decide (V.int (((([] : List Str).map V.str).length : Nat) : Int) = V.int 0) = true from decide_eq_true rfl]
      refine iteT ⟨_, rfl, fun x dx' nx ndx nex => ⟨x, dx', .int (g : Nat), rfl, upd_same, rfl, ?_⟩⟩
      have s6 : Same H5 (upd (upd (upd H5 dx' (.own x)) x (.ins CC dx' [])) x (.ins CC dx' (fl1 "node" (.int (g : Nat))))) := fun b u e => by
        rw [upd_ne (ne_of_none e nx)]
        exact new_ext (C := CC) nx ndx _ _ e
      have ex : (upd (upd (upd H5 dx' (.own x)) x (.ins CC dx' [])) x (.ins CC dx' (fl1 "node" (.int (g : Nat))))) x = some (.ins CC dx' (fl1 "node" (.int (g : Nat)))) := upd_same
      generalize upd (upd (upd H5 dx' (.own x)) x (.ins CC dx' [])) x (.ins CC dx' (fl1 "node" (.int (g : Nat)))) = H6 at s6 ex ⊢
      have nxp : x ≠ p := (ne_of_none p5 nx).symm
      have sF := up (o := .ins CG dx (putF "result" (.ref x) F5)) (s5.trans s6)
      refine ⟨_, rfl, p, CG, dx, _, rfl, s6 _ _ p5, T.clG, T.g6, (by omega), k _ sF ⟨dx, _, st, upd_same, ?_, ?_, ?_, Same.sqT sF hst, ?_, ?_, fun m hm => ?_, (by have := len_putF "result" (V.ref x) F5; omega), fun _ => ⟨x, dx', ?_, by rw [upd_ne nxp]; exact ex⟩, fun h => absurd rfl h⟩⟩
      · rw [lookup_putF, if_neg (by decide +kernel)]; exact k51
      · rw [lookup_putF, if_neg (by decide +kernel)]; exact k52
      · rw [lookup_putF, if_neg (by decide +kernel)]; exact k53
      · rw [lookup_putF, if_neg (by decide +kernel)]; exact k54
      · rw [lookup_putF, if_neg (by decide +kernel)]; exact k55
      · rw [lookup_putF, if_neg (nef "result" (by decide +kernel) m hm)]; exact m5 m hm
      · rw [lookup_putF, if_pos rfl]
    | cons z r =>
      rw [decide_eq_false (fun q => by injection q with q; simp at q; omega)]
      have sF := up (o := .ins CG dx (putF "result" .non F5)) s5
      refine iteF ⟨_, rfl, p, CG, dx, _, rfl, p5, T.clG, T.g6, (by omega), k _ sF ⟨dx, _, st, upd_same, ?_, ?_, ?_, Same.sqT sF hst, ?_, ?_, fun m hm => ?_, (by have := len_putF "result" V.non F5; omega), fun h => (by cases h), fun _ => ?_⟩⟩
      · rw [lookup_putF, if_neg (by decide +kernel)]; exact k51
      · rw [lookup_putF, if_neg (by decide +kernel)]; exact k52
      · rw [lookup_putF, if_neg (by decide +kernel)]; exact k53
      · rw [lookup_putF, if_neg (by decide +kernel)]; exact k54
      · rw [lookup_putF, if_neg (by decide +kernel)]; exact k55
      · rw [lookup_putF, if_neg (nef "result" (by decide +kernel) m hm)]; exact m5 m hm
      · rw [lookup_putF, if_pos rfl]
theorem scBeg : FnScope ["at", "path"] ["at", "path"] (defScope sBeg) := ⟨rfl, rfl, rfl, by decide +kernel, rfl, by decide +kernel, by decide +kernel⟩
theorem ok_beg {fd : FuncData} (F : Fun K "beginning" "beginning" sBeg f fd) (T : TxtGo K mg CC CG CP fCmI fBeg fBgn fEnd) (TG : TxtG K mg cs) : FnOk P w K mg base CX0 1 f fd ["at", "path"] (spBeg K CP) := by
  obtain ⟨tr, gr⟩ := TG.m_ROOT
  refine F.ok scBeg (fun vs H Q E h => ?_) (fun cdv A outer s H vs Q E hr h => ?_)
  · obtain ⟨a, p, xs, ab, fo, rfl, _⟩ := h
    rfl
  · obtain ⟨a, p, xs, ab, fo, rfl, ⟨dx, t, hp, _⟩, k⟩ := h
    refine ⟨_, (pss_one (ps_ret (pe_ifExp (pt_val (pe_fld (pv 1) rfl)) (pe_glob (v := .int 0) (by rfl) gr ⟨_, rfl⟩) (pv 0)))), ?_⟩
    refine ⟨_, rfl, p, CP, dx, _, _, rfl, hp, T.clP, T.nA, pfl_abs t ab fo, _, rfl, ?_⟩
    cases ab with
    | true => exact iteT k
    | false => exact iteF ⟨_, rfl, k⟩
theorem scBgn : FnScope ["place", "path", "look"] ["place", "path", "look"] (defScope sBgn) := ⟨rfl, rfl, rfl, by decide +kernel, rfl, by decide +kernel, by decide +kernel⟩
theorem ok_bgn {fGoI : Addr} {fd fdG fdB : FuncData} (F : Fun K "begun" "begun" sBgn f fd) (T : TxtGo K mg CC CG CP fCmI fBeg fBgn fEnd) (MG : Mk K CG fGoI) (GG : FnOk P w K mg base CX0 3 fGoI fdG ["self", "look", "at", "steps", "wants", "links"] (spGoI K CG CC)) (bG : Binds K fdG ["self", "look", "at", "steps", "wants", "links"] [])
    (GB : FnOk P w K mg base CX0 1 fBeg fdB ["at", "path"] (spBeg K CP)) (bB : Binds K fdB ["at", "path"] []) : FnOk P w K mg base CX0 5 f fd ["place", "path", "look"] (spBgn K CP CG CC) := by
  refine F.ok scBgn (fun vs H Q E h => ?_) (fun cdv A outer s H vs Q E hr h => ?_)
  · obtain ⟨pl, lk, p, ab, fo, rfl, _⟩ := h
    rfl
  · obtain ⟨pl, lk, p, ab, fo, rfl, PA, k⟩ := h
    have hr4 : Room 4 _ := hr
    have hr1 : Room 1 _ := hr.mono (by decide)
    obtain ⟨dx, t, hp, ht⟩ := id PA.ob
    refine ⟨_, (pss_one (ps_ret (pe_make MG GG hr4 (by rfl) T.gG bG .nil pass0 (pa_cons (pv 2) (pa_cons (pe_call GB hr1 (by rfl) T.gbeg T.kbeg bB .nil pass0 (pa_cons (pv 0) (pa_cons (pv 1) pa_nil))) (pa_cons (pe_fld (pv 1) rfl) (pa_cons (pe_fld (pv 1) rfl) (pa_cons pe_int pa_nil)))))))), ?_⟩
    refine ⟨_, rfl, _, rfl, _, rfl, pl, p, [], ab, fo, rfl, PA, ?_⟩
    refine ⟨_, rfl, p, CP, dx, _, _, rfl, hp, T.clP, T.nS, pfl_steps t ab fo, _, rfl, p, CP, dx, _, _, rfl, hp, T.clP, T.nF, pfl_fo t ab fo, fun x dx' nx ndx nex => ?_⟩
    have s1 := new_ext (C := CG) nx ndx
    exact ⟨x, dx', t, lk, _, _, _, H, rfl, upd_same, nx, s1, ht, fun H' s g => ⟨rfl, k H' x s g⟩⟩
theorem scEnd : FnScope ["view", "going"] ["view", "going"] (defScope sEnd) := ⟨rfl, rfl, rfl, by decide +kernel, rfl, by decide +kernel, by decide +kernel⟩
theorem ok_end {fd : FuncData} (F : Fun K "ended_in" "ended_in" sEnd f fd) (T : TxtGo K mg CC CG CP fCmI fBeg fBgn fEnd) : FnOk P w K mg base CX0 1 f fd ["view", "going"] (spEnd CG CC) := by
  refine F.ok scEnd (fun vs H Q E h => ?_) (fun cdv A outer s H vs Q E hr h => ?_)
  · obtain ⟨v, g, a, rfl, _⟩ := h
    rfl
  · obtain ⟨v, g, a, rfl, ⟨dx, Fl, r, dr, h1, h2, h3, h4⟩, k⟩ := h
    refine ⟨_, (pss_cons (ps_while PassesOwn.never (pt_cmp (pc_isN (pe_fld (pv 1) rfl))) pss_dead) (pss_one (ps_ret (pe_fld (pv 1) rfl)))), ?_⟩
    unfold tSeq
    dsimp only
    refine while_by (fun σ H' => σ = [some v, some (.ref g)] ∧ H' = H) (fun _ _ => 0) ⟨rfl, rfl⟩ ?_ ?_
    · rintro σ H' ⟨rfl, rfl⟩
      refine ⟨_, rfl, g, CG, dx, _, _, rfl, h1, T.clG, T.g6, h3, _, rfl, ?_⟩
      rw [decide_eq_false (fun z : V.ref r = V.non => by cases z)]
      exact iteF ⟨_, rfl, g, CG, dx, _, _, rfl, h1, T.clG, T.g6, h3, k r dr h4⟩
    · rintro σ H' Q1 Q2 hq ⟨x, rfl', g', C', dx', fs', v', a1, a2, a3, a4, a5, c, a6, q⟩
      exact ⟨x, rfl', g', C', dx', fs', v', a1, a2, a3, a4, a5, c, a6, hq _ _ q⟩
end
end NW

set_option maxRecDepth 100000
set_option maxHeartbeats 400000
namespace NW
open PySem L2 NG TR LamX
abbrev sRfI : Stmt := inClass (top 48) 0
abbrev sGoF : Stmt := inClass (top 49) 2
abbrev sGoR : Stmt := inClass (top 49) 5
def spRfI (K : PySem.W.Frag) (C : Addr) : Sp := fun vs H Q _ => ∃ (p dx : Addr) (v : V), vs = [.ref p, v] ∧ H p = some (.ins C dx []) ∧ Q .non (upd H p (.ins C dx (fl1 "why" v)))
structure TxtRf (K : PySem.W.Frag) (mg : Str → Option Value) (CR fRfI : Addr) : Prop where
  clR : Cls K CR
  nR : NoAttr K CR "why"
  gR : mg "Refused" = some (.ref CR)
  mkR : Mk K CR fRfI
/-- a walk that was refused -/
def RefAt (CG CR : Addr) (H : Hp) (e : Addr) (g : Nat) (why : Str) : Prop := ∃ dx F r dr, H e = some (.ins CG dx F) ∧ F.lookup ("at" : Str) = some (.int (g : Nat)) ∧ F.lookup ("result" : Str) = some (.ref r) ∧ H r = some (.ins CR dr (fl1 "why" (.str why)))
theorem RefAt.same {CG CR : Addr} {H H' : Hp} {e : Addr} {g : Nat} {why : Str} (h : RefAt CG CR H e g why) (s : Same H H') : RefAt CG CR H' e g why := let ⟨dx, F, r, dr, h1, h2, h3, h4⟩ := h; ⟨dx, F, r, dr, s _ _ h1, h2, h3, s _ _ h4⟩
def spGoR (K : PySem.W.Frag) (CG CC CR : Addr) : Sp := fun vs H Q _ => ∃ (p : Addr) (lk : V) (g : Nat) (xs : List Str) (wa : Bool) (li : Nat) (why : Str), vs = [.ref p, .str why] ∧ GoW K CG CC H p lk g xs wa li ∧ ∀ H' e, Same H H' → RefAt CG CR H' e g why → Q (.ref e) H'
def spGoF (K : PySem.W.Frag) (cs : Nat → Addr) (CG CC CV CP : Addr) : Sp := fun vs H Q _ => ∃ (p : Addr) (lk : V) (g : Nat) (z : Str) (xs : List Str) (wa : Bool) (li : Nat) (v N : Addr) (qs : List Addr) (nds : List Nd) (nd : Nd), vs = [.ref p, .ref v] ∧ GoW K CG CC H p lk g (z :: xs) wa li ∧ ViewAt K cs CV CP H v N qs nds ∧ nds[g]? = some nd ∧ (clsI nd = 0 ∨ clsI nd = 3) ∧
  (z = (".." : Str) → ∀ i : Nat, UpIs nds g i → Q (.int (i : Nat)) H) ∧ (z ≠ (".." : Str) → Q (nameTo nd z) H)
section
variable {P : Program} {w : World} {K : PySem.W.Frag} {mg : Str → Option Value} {base : Heap} {CC CG CP CR CV fCmI fBeg fBgn fEnd fRfI fHm fRead fLed f : Addr} {cs : Nat → Addr}
theorem scRfI : FnScope ["self", "why"] ["self", "why"] (defScope sRfI) := ⟨rfl, rfl, rfl, by decide +kernel, rfl, by decide +kernel, by decide +kernel⟩
theorem ok_rfI {fd : FuncData} (F : Fun K "__init__" "Refused.__init__" sRfI f fd) (T : TxtRf K mg CR fRfI) : FnOk P w K mg base CX0 1 f fd ["self", "why"] (spRfI K CR) := by
  refine F.ok scRfI (fun vs H Q E h => ?_) (fun cdv A outer s H vs Q E hr h => ?_)
  · obtain ⟨p, dx, v, rfl, _⟩ := h
    rfl
  · obtain ⟨p, dx, v, rfl, hp, k⟩ := h
    refine ⟨_, pss_one (ps_fld (pv 0) (pv 1) rfl), ?_⟩
    exact ⟨_, rfl, _, rfl, p, CR, dx, _, rfl, hp, T.clR, T.nR, (by show 0 < 1000; decide), k⟩
theorem scGoR : FnScope ["self", "why", "ended"] ["self", "why"] (defScope sGoR) := ⟨rfl, rfl, rfl, by decide +kernel, rfl, by decide +kernel, by decide +kernel⟩
theorem ok_goR {fGoI : Addr} {fd fdG fdR : FuncData} (F : Fun K "refused" "Going.refused" sGoR f fd) (T : TxtGo K mg CC CG CP fCmI fBeg fBgn fEnd) (TR : TxtRf K mg CR fRfI) (MG : Mk K CG fGoI) (GG : FnOk P w K mg base CX0 3 fGoI fdG ["self", "look", "at", "steps", "wants", "links"] (spGoG K CG CC)) (bG : Binds K fdG ["self", "look", "at", "steps", "wants", "links"] [])
    (GR : FnOk P w K mg base CX0 1 fRfI fdR ["self", "why"] (spRfI K CR)) (bR : Binds K fdR ["self", "why"] []) : FnOk P w K mg base CX0 5 f fd ["self", "why"] (spGoR K CG CC CR) := by
  have nd := scGoR.nd
  refine F.ok scGoR (fun vs H Q E h => ?_) (fun cdv A outer s H vs Q E hr h => ?_)
  · obtain ⟨p, lk, g, xs, wa, li, why, rfl, _⟩ := h
    rfl
  · obtain ⟨p, lk, g, xs, wa, li, why, rfl, ⟨dx, Fl, st, hp, a2, a3, a4, a5, a6, a7, _⟩, k⟩ := h
    have hr4 : Room 4 _ := hr
    have hr2 : Room 2 _ := hr.mono (by decide)
    refine ⟨_, (pss_cons (ps_set (i := 2) nd rfl (Or.inl rfl) (pe_make MG GG hr4 (by rfl) T.gG bG .nil pass0 (pa_cons (pe_fld (pv 0) rfl) (pa_cons (pe_fld (pv 0) rfl) (pa_cons (pe_fld (pv 0) rfl) (pa_cons (pe_fld (pv 0) rfl) (pa_cons (pe_fld (pv 0) rfl) pa_nil)))))))
  (pss_cons (ps_fld (pv 2) (pe_make TR.mkR GR hr2 (by rfl) TR.gR bR .nil pass0 (pa_cons (pv 1) pa_nil)) rfl)
  (pss_one (ps_ret (pv 2))))), ?_⟩
    refine ⟨_, rfl, p, CG, dx, _, _, rfl, hp, T.clG, T.g1, a2, _, rfl, p, CG, dx, _, _, rfl, hp, T.clG, T.g2, a3, _, rfl, p, CG, dx, _, _, rfl, hp, T.clG, T.g3, a4, _, rfl, p, CG, dx, _, _, rfl, hp, T.clG, T.g4, a6, _, rfl, p, CG, dx, _, _, rfl, hp, T.clG, T.g5, a7, fun x dx' nx ndx nex => ?_⟩
    refine ⟨x, dx', st, lk, g, xs, wa, li, H, rfl, upd_same, nx, new_ext (C := CG) nx ndx, a5, fun H1 s1 GW => ⟨rfl, ?_⟩⟩
    obtain ⟨dg, F2, st2, g1, _, g3, _, _, _, _, _, gl, _⟩ := GW
    have s0 := fun b u e => s1 b u e
    refine ⟨_, rfl, fun y dy ny ndy ney => ⟨y, dy, .str why, rfl, upd_same, rfl, ?_⟩⟩
    have s2 : Same H1 (upd (upd (upd H1 dy (.own y)) y (.ins CR dy [])) y (.ins CR dy (fl1 "why" (.str why)))) := fun b u e => by
      rw [upd_ne (ne_of_none e ny)]
      exact new_ext (C := CR) ny ndy _ _ e
    have ey : (upd (upd (upd H1 dy (.own y)) y (.ins CR dy [])) y (.ins CR dy (fl1 "why" (.str why)))) y = some (.ins CR dy (fl1 "why" (.str why))) := upd_same
    generalize upd (upd (upd H1 dy (.own y)) y (.ins CR dy [])) y (.ins CR dy (fl1 "why" (.str why))) = H2 at s2 ey ⊢
    have nyx : y ≠ x := (ne_of_none g1 ny).symm
    refine ⟨_, rfl, x, CG, dg, _, rfl, s2 _ _ g1, T.clG, T.g6, (by omega), _, rfl, k _ x (fun b u e => ?_) ⟨dg, _, y, dy, upd_same, ?_, ?_, by rw [upd_ne nyx]; exact ey⟩⟩
    · rw [upd_ne (ne_of_none e nx)]
      exact s2 _ _ (s1 _ _ e)
    · rw [lookup_putF, if_neg (by decide +kernel)]; exact g3
    · rw [lookup_putF, if_pos rfl]
theorem scGoF : FnScope ["self", "view"] ["self", "view"] (defScope sGoF) := ⟨rfl, rfl, rfl, by decide +kernel, rfl, by decide +kernel, by decide +kernel⟩
theorem ok_goF {fd fdL : FuncData} (F : Fun K "found" "Going.found" sGoF f fd) (T : TxtGo K mg CC CG CP fCmI fBeg fBgn fEnd) (TV : TxtVw K mg CV fHm fRead) (ML : Meth K CV "led" fLed) (GL : FnOk P w K mg base CX0 2 fLed fdL ["self", "at", "step"] (spLed K cs CV CP)) (bL : Binds K fdL ["self", "at", "step"] []) :
    FnOk P w K mg base CX0 3 f fd ["self", "view"] (spGoF K cs CG CC CV CP) := by
  refine F.ok scGoF (fun vs H Q E h => ?_) (fun cdv A outer s H vs Q E hr h => ?_)
  · obtain ⟨p, lk, g, z, xs, wa, li, v, N, qs, nds, nd, rfl, _⟩ := h
    rfl
  · obtain ⟨p, lk, g, z, xs, wa, li, v, N, qs, nds, nd, rfl, ⟨dx, Fl, st, hp, a2, a3, a4, a5, _⟩, VA, hn, hc, kU, kN⟩ := h
    have hr2 : Room 2 _ := hr
    obtain ⟨dv, Fv, Ln, Dh, Dp, kh, kp, ds, hv, f1, f2, f3, f4, f5, f6, _⟩ := id VA.ob
    refine ⟨_, (pss_one (ps_ret (pe_meth (pv 1) TV.clV ML GL hr2 bL .nil pass0 (pa_cons (pe_fld (pv 0) rfl) (pa_cons (pe_ix ix_tup (pe_fld (pv 0) rfl) pe_int (fun _ _ => rfl)) pa_nil))))), ?_⟩
    refine ⟨_, rfl, v, dv, _, rfl, hv, f6, _, rfl, p, CG, dx, _, _, rfl, hp, T.clG, T.g2, a3, _, rfl, p, CG, dx, _, _, rfl, hp, T.clG, T.g3, a4, st, _, 0, .str z, rfl, rfl, a5, (atI_zero : atI (V.str z :: xs.map V.str) 0 = some (V.str z)), ?_⟩
    exact ⟨v, N, qs, nds, g, nd, z, rfl, VA, hn, hc, kU, kN⟩
end
end NW

set_option maxRecDepth 100000
set_option maxHeartbeats 400000
namespace NW
open PySem L2 NG TR LamX
abbrev sGoL : Stmt := inClass (top 49) 4
theorem cut_one (z : Str) (xs : List Str) : cutV ((z :: xs).map V.str) (some 1) none = xs.map V.str := by
  unfold cutV
  simp [HT.sIx]
  exact List.take_of_length_le (by rw [List.length_map]; exact Nat.le_refl _)
theorem not_whole (z : Str) (xs : List Str) : ¬ (HT.sIx ((z :: xs).map V.str).length 0 (some 1) = 0 ∧ HT.sIx ((z :: xs).map V.str).length ((z :: xs).map V.str).length none = ((z :: xs).map V.str).length) := by
  intro h
  have h1 := h.1
  simp [HT.sIx] at h1
def spGoL (K : PySem.W.Frag) (CG CC CR CP : Addr) : Sp := fun vs H Q _ => ∃ (p pp : Addr) (lk : V) (g : Nat) (z : Str) (xs ss : List Str) (wa ab fo : Bool) (li : Nat), vs = [.ref p, .ref pp] ∧ GoW K CG CC H p lk g (z :: xs) wa li ∧ PathAt K CP H pp ss ab fo ∧ ss.length + xs.length ≤ 100000 ∧ li ≤ 8 ∧
  (li = 8 → ∀ H' e, Same H H' → RefAt CG CR H' e g "links" → Q (.ref e) H') ∧ (li < 8 → ∀ H' e, Same H H' → GoW K CG CC H' e lk (if ab = true then 0 else g) (ss ++ xs) (wa || (xs.isEmpty && fo)) (li + 1) → Q (.ref e) H')
section
variable {P : Program} {w : World} {K : PySem.W.Frag} {mg : Str → Option Value} {base : Heap} {CC CG CP CR CV fCmI fBeg fBgn fEnd fGoR f : Addr} {cs : Nat → Addr}
theorem scGoL : FnScope ["self", "path", "left", "wants"] ["self", "path"] (defScope sGoL) := ⟨rfl, rfl, rfl, by decide +kernel, rfl, by decide +kernel, by decide +kernel⟩
theorem ok_goL {fGoI : Addr} {fd fdG fdR fdB : FuncData} (F : Fun K "followed" "Going.followed" sGoL f fd) (T : TxtGo K mg CC CG CP fCmI fBeg fBgn fEnd) (ml : mg "len" = none) (gm : ∃ t, mg "MOST_LINKS" = some (.int 8 t)) (MR : Meth K CG "refused" fGoR) (GR : FnOk P w K mg base CX0 5 fGoR fdR ["self", "why"] (spGoR K CG CC CR)) (bR : Binds K fdR ["self", "why"] [])
    (MG : Mk K CG fGoI) (GG : FnOk P w K mg base CX0 3 fGoI fdG ["self", "look", "at", "steps", "wants", "links"] (spGoG K CG CC)) (bG : Binds K fdG ["self", "look", "at", "steps", "wants", "links"] []) (GB : FnOk P w K mg base CX0 1 fBeg fdB ["at", "path"] (spBeg K CP)) (bB : Binds K fdB ["at", "path"] []) :
    FnOk P w K mg base CX0 6 f fd ["self", "path"] (spGoL K CG CC CR CP) := by
  have nd := scGoL.nd
  obtain ⟨tm, gm⟩ := gm
  refine F.ok scGoL (fun vs H Q E h => ?_) (fun cdv A outer s H vs Q E hr h => ?_)
  · obtain ⟨p, pp, lk, g, z, xs, ss, wa, ab, fo, li, rfl, _⟩ := h
    rfl
  · obtain ⟨p, pp, lk, g, z, xs, ss, wa, ab, fo, li, rfl, GW, PA, hln, hli, k1, k2⟩ := h
    have hr5 : Room 5 _ := hr
    have hr4 : Room 4 _ := hr.mono (by decide)
    have hr1 : Room 1 _ := hr.mono (by decide)
    have hs : sizeLine = 16777216 := sizeLine_eq
    obtain ⟨dx, Fl, st, hp, a2, a3, a4, a5, a6, a7, a8, _⟩ := id GW
    obtain ⟨dxp, t, hpp, hst⟩ := id PA.ob
    refine ⟨_, (pss_cons (ps_if (pt_cmpR op_eq (pe_fld (pv 0) rfl) (pe_glob (v := .int 8) (by rfl) gm ⟨_, rfl⟩) (nomark _)) (pss_one (ps_ret (pe_meth (pv 0) T.clG MR GR hr5 bR .nil pass0 (pa_cons pe_str pa_nil)))) pss_nil)
  (pss_cons (ps_set (i := 2) nd rfl (Or.inl rfl) (pe_slice sl_tup (pe_fld (pv 0) rfl) (po_some pe_int) po_none))
  (C8.pss_cut (ps_set (i := 3) nd rfl (Or.inl rfl) (pe_or (pe_fld (pv 0) rfl) (pe_one (pe_and (pe_cmpR op_eq (pe_callB call_len_seq (by rfl) ml (by decide +kernel) (pa_cons (pv 2) pa_nil)) pe_int (nomark _)) (pe_one (pe_fld (pv 1) rfl))))))
  (pss_one (ps_ret (pe_make MG GG hr4 (by rfl) T.gG bG .nil pass0 (pa_cons (pe_fld (pv 0) rfl) (pa_cons (pe_call GB hr1 (by rfl) T.gbeg T.kbeg bB .nil pass0 (pa_cons (pe_fld (pv 0) rfl) (pa_cons (pv 1) pa_nil))) (pa_cons (pe_op op_catA (pe_fld (pv 1) rfl) (pv 2)) (pa_cons (pv 3) (pa_cons (pe_op op_add (pe_fld (pv 0) rfl) pe_int) pa_nil))))))))))), ?_⟩
    refine ⟨_, rfl, p, CG, dx, _, _, rfl, hp, T.clG, T.g5, a7, rfl, _, rfl, ?_⟩
    by_cases h8 : li = 8
    · subst h8
      rw [show decide (V.int ((8 : Nat) : Int) = V.int 8) = true from decide_eq_true rfl]
      exact iteT ⟨_, rfl, p, dx, _, rfl, hp, a8 "refused" (by simp), p, lk, g, _, wa, 8, "links", rfl, GW, fun H' e s R => k1 rfl H' e s R⟩
    · rw [decide_eq_false (fun q => by injection q with q; omega)]
      refine iteF ⟨_, rfl, p, CG, dx, _, _, rfl, hp, T.clG, T.g3, a4, _, rfl, st, _, rfl, a5, not_whole z xs, fun tl htl => ?_⟩
      rw [cut_one]
      have s1 := NG.Same.upd (o := HO.tup (xs.map V.str)) htl
      have e1 : (upd H tl (.tup (xs.map V.str))) tl = some (.tup (xs.map V.str)) := upd_same
      generalize upd H tl (.tup (xs.map V.str)) = H1 at s1 e1 ⊢
      refine ⟨fun σ H' => σ = [some (.ref p), some (.ref pp), some (.ref tl), some (.bl (wa || (xs.isEmpty && fo)))] ∧ H' = H1, ?_, ?_⟩
      · refine ⟨_, rfl, p, CG, dx, _, _, rfl, s1 _ _ hp, T.clG, T.g4, a6, wa, rfl, ?_⟩
        cases wa with
        | true => exact iteT ⟨rfl, rfl⟩
        | false =>
          refine iteF ⟨_, rfl, tl, _, rfl, .inr (SqT.of e1), rfl, _, rfl, ?_⟩
          cases xs with
          | nil =>
            rw [show decide (V.int (((([] : List Str).map V.str).length : Nat) : Int) = V.int 0) = true from decide_eq_true rfl]
            exact iteT ⟨_, rfl, pp, CP, dxp, _, _, rfl, s1 _ _ hpp, T.clP, T.nF, pfl_fo t ab fo, rfl, rfl⟩
          | cons y r =>
            rw [decide_eq_false (fun q => by injection q with q; simp at q; omega)]
            exact iteF ⟨rfl, rfl⟩
      · rintro σ H2 ⟨rfl, rfl⟩
        refine ⟨_, rfl, p, CG, dx, _, _, rfl, s1 _ _ hp, T.clG, T.g1, a2, _, rfl, p, CG, dx, _, _, rfl, s1 _ _ hp, T.clG, T.g2, a3, _, rfl, _, pp, ss, ab, fo, rfl, ⟨⟨dxp, t, s1 _ _ hpp, Same.sqT s1 hst⟩⟩, ?_⟩
        refine ⟨_, rfl, pp, CP, dxp, _, _, rfl, s1 _ _ hpp, T.clP, T.nS, pfl_steps t ab fo, _, rfl, ?_⟩
        refine ⟨t, tl, ss.map V.str, xs.map V.str, rfl, rfl, Same.sqT s1 hst, SqT.of e1, by rw [List.length_map, List.length_map]; omega, fun e => ?_, fun _ e => ?_, fun _ _ u hu => ?_⟩
        · have hss : ss = [] := List.map_eq_nil_iff.mp e
          refine ⟨_, rfl, _, rfl, p, CG, dx, _, _, rfl, s1 _ _ hp, T.clG, T.g5, a7, _, _, rfl, rfl, fun x dx' nx ndx nex => ⟨x, dx', tl, lk, if ab = true then 0 else g, ss ++ xs, _, li + 1, H2, ?_, upd_same, nx, new_ext (C := CG) nx ndx, (by rw [hss]; exact SqT.of e1), fun H' s GW' => ⟨rfl, k2 (by omega) H' x (fun b w e => s _ _ (s1 _ _ e)) GW'⟩⟩⟩
          cases ab <;> rfl
        · have hxs : xs = [] := List.map_eq_nil_iff.mp e
          refine ⟨_, rfl, _, rfl, p, CG, dx, _, _, rfl, s1 _ _ hp, T.clG, T.g5, a7, _, _, rfl, rfl, fun x dx' nx ndx nex => ⟨x, dx', t, lk, if ab = true then 0 else g, ss ++ xs, _, li + 1, H2, ?_, upd_same, nx, new_ext (C := CG) nx ndx, (by rw [hxs, List.append_nil]; exact Same.sqT s1 hst), fun H' s GW' => ⟨rfl, k2 (by omega) H' x (fun b w e => s _ _ (s1 _ _ e)) GW'⟩⟩⟩
          cases ab <;> rfl
        · have su := NG.Same.upd (o := HO.tup (ss.map V.str ++ xs.map V.str)) hu
          have eu : (upd H2 u (.tup (ss.map V.str ++ xs.map V.str))) u = some (.tup (ss.map V.str ++ xs.map V.str)) := upd_same
          generalize upd H2 u (.tup (ss.map V.str ++ xs.map V.str)) = H3 at su eu ⊢
          refine ⟨_, rfl, _, rfl, p, CG, dx, _, _, rfl, su _ _ (s1 _ _ hp), T.clG, T.g5, a7, _, _, rfl, rfl, fun x dx' nx ndx nex => ⟨x, dx', u, lk, if ab = true then 0 else g, ss ++ xs, _, li + 1, H3, ?_, upd_same, nx, new_ext (C := CG) nx ndx, (by rw [List.map_append]; exact SqT.of eu), fun H' s GW' => ⟨rfl, k2 (by omega) H' x (fun b w e => s _ _ (su _ _ (s1 _ _ e))) GW'⟩⟩⟩
          cases ab <;> rfl
end
end NW

set_option maxRecDepth 100000
set_option maxHeartbeats 400000
namespace NW
open PySem L2 NG TR LamX
abbrev sGoT : Stmt := inClass (top 49) 3
/-- what a look leads to -/
inductive Nx where
  | ref (why : Str)
  | go (g : Nat) (xs : List Str) (wa : Bool) (li : Nat)
def NxAt (K : PySem.W.Frag) (CG CC CR : Addr) (H : Hp) (e : Addr) (lk : V) (g : Nat) : Nx → Prop
  | .ref why => RefAt CG CR H e g why
  | .go g' xs wa li => GoW K CG CC H e lk g' xs wa li
def LookAt (K : PySem.W.Frag) (CL : Addr) (H : Hp) (lk : Addr) (fo la : Bool) (ow : Option (List Int)) : Prop := ∃ dx F, H lk = some (.ins CL dx F) ∧ F.lookup ("follow" : Str) = some (.bl fo) ∧ F.lookup ("last" : Str) = some (.bl la) ∧
  (match ow with
  | none => F.lookup ("owners" : Str) = some .non
  | some ns => ∃ T, F.lookup ("owners" : Str) = some (.ref T) ∧ SqT K H T (ns.map V.int))
def hasOwn (ow : Option (List Int)) (o : Int) : Bool := match ow with
  | none => true
  | some ns => ns.contains o
/-- a look that has found the node nd of number k -/
def takenN (nd : Nd) (fo la : Bool) (ow : Option (List Int)) (k : Nat) (g : Nat) (xs : List Str) (wa : Bool) (li : Nat) : Nx :=
  if hasOwn ow nd.owner = false then .ref "owner" else
  match nd with
  | .fil _ => if (!xs.isEmpty || wa) = true then .ref "file" else .go k xs wa li
  | .lnk _ z => if (fo && (!xs.isEmpty || wa || la)) = true then (if li = 8 then .ref "links" else .go (if absOf (partsOf z) = true then 0 else g) (stepsOf (partsOf z) ++ xs) (wa || (xs.isEmpty && folOf (partsOf z))) (li + 1))
      else if (!xs.isEmpty || wa) = true then .ref "link" else .go k xs wa li
  | _ => .go k xs wa li
theorem inV_ints (o : Int) : ∀ ns : List Int, inV (V.int o) (ns.map V.int) = ns.contains o
  | [] => rfl
  | n :: r => by
    show (eqV (V.int n) (V.int o) || inV (V.int o) (r.map V.int)) = _
    rw [inV_ints o r, List.contains_cons]
    show ((n == o) || r.contains o) = ((o == n) || r.contains o)
    rw [Bool.beq_comm]
theorem flat_ints (ns : List Int) : (ns.map V.int).all flatV = true := by
  rw [List.all_eq_true]
  intro x hx
  obtain ⟨n, _, rfl⟩ := List.mem_map.mp hx
  rfl
theorem link_steps {z : Str} (h : LinkText z) : (stepsOf (partsOf z)).length ≤ 7 := by
  obtain ⟨qs, hne, hq, hl, rfl, _⟩ := h
  rw [parts_join hne (fun p hp => (hq p hp).1)]
  exact Nat.le_trans (List.length_filter_le _ _) hl
def spGoT (K : PySem.W.Frag) (cs : Nat → Addr) (CG CC CR CV CP CL : Addr) : Sp := fun vs H Q _ => ∃ (p v lk : Addr) (g : Nat) (z : Str) (xs : List Str) (wa : Bool) (li : Nat) (N : Addr) (qs : List Addr) (nds : List Nd) (fo la : Bool) (ow : Option (List Int)) (num : V), vs = [.ref p, .ref v, num] ∧
  GoW K CG CC H p (.ref lk) g (z :: xs) wa li ∧ ViewAt K cs CV CP H v N qs nds ∧ LookAt K CL H lk fo la ow ∧ xs.length ≤ 50000 ∧ li ≤ 8 ∧
  ((num = .non ∧ ∀ H' e, Same H H' → RefAt CG CR H' e g "none" → Q (.ref e) H') ∨ ∃ (k : Nat) (nd : Nd), num = .int (k : Nat) ∧ nds[k]? = some nd ∧ ∀ H' e, Same H H' → NxAt K CG CC CR H' e (.ref lk) g (takenN nd fo la ow k g xs wa li) → Q (.ref e) H')
section
variable {P : Program} {w : World} {K : PySem.W.Frag} {mg : Str → Option Value} {base : Heap} {fNum fAt fDigit fPool CC CG CP CR CV CL fCmI fBeg fBgn fEnd fGoR fGoL fHm fRead fWk fSt f : Addr} {cs : Nat → Addr}
theorem scGoT : FnScope ["self", "view", "number", "node", "goes_on"] ["self", "view", "number"] (defScope sGoT) := ⟨rfl, rfl, rfl, by decide +kernel, rfl, by decide +kernel, by decide +kernel⟩
theorem ok_goT {fGoI : Addr} {fd fdG fdR fdL : FuncData} (F : Fun K "taken" "Going.taken" sGoT f fd) (TK : TxtK K mg fNum fAt fDigit fPool) (TG : TxtG K mg cs) (T : TxtGo K mg CC CG CP fCmI fBeg fBgn fEnd) (TV : TxtVw K mg CV fHm fRead) (clL : Cls K CL) (nF : NoAttr K CL "follow") (nL : NoAttr K CL "last") (nO : NoAttr K CL "owners")
    (MR : Meth K CG "refused" fGoR) (GR : FnOk P w K mg base CX0 5 fGoR fdR ["self", "why"] (spGoR K CG CC CR)) (bR : Binds K fdR ["self", "why"] []) (MF : Meth K CG "followed" fGoL) (GF : FnOk P w K mg base CX0 6 fGoL fdL ["self", "path"] (spGoL K CG CC CR CP)) (bF : Binds K fdL ["self", "path"] [])
    (MG : Mk K CG fGoI) (GG : FnOk P w K mg base CX0 3 fGoI fdG ["self", "look", "at", "steps", "wants", "links"] (spGoG K CG CC)) (bG : Binds K fdG ["self", "look", "at", "steps", "wants", "links"] []) :
    FnOk P w K mg base CX0 7 f fd ["self", "view", "number"] (spGoT K cs CG CC CR CV CP CL) := by
  have nd := scGoT.nd
  refine F.ok scGoT (fun vs H Q E h => ?_) (fun cdv A outer s H vs Q E hr h => ?_)
  · obtain ⟨p, v, lk, g, z, xs, wa, li, N, qs, nds, fo, la, ow, num, rfl, _⟩ := h
    rfl
  · obtain ⟨p, v, lk, g, z, xs, wa, li, N, qs, nds, fo, la, ow, num, rfl, GW, VA, LA, hxl, hli, hnum⟩ := h
    have hr6 : Room 6 _ := hr
    have hr5 : Room 5 _ := hr.mono (by decide)
    have hr4 : Room 4 _ := hr.mono (by decide)
    have hu := hu_of hr
    have hs : sizeLine = 16777216 := sizeLine_eq
    obtain ⟨dx, Fl, st, hp, a2, a3, a4, a5, a6, a7, a8, _⟩ := id GW
    obtain ⟨dv, Fv, Ln, Dh, Dp, kh, kp, ds, hv, f1, f2, f3, f4, f5, f6, g1, g2, g3, g4, g5, g6, g7⟩ := id VA.ob
    obtain ⟨dl, FL, hlk, o1, o2, o3⟩ := id LA
    refine ⟨_, (pss_cons (ps_if (pt_cmp (pc_isN (pv 2))) (pss_one (ps_ret (pe_meth (pv 0) T.clG MR GR hr5 bR .nil pass0 (pa_cons pe_str pa_nil)))) pss_nil)
  (pss_cons (ps_set (i := 3) nd rfl (Or.inl rfl) (pe_ix ix_tup (pe_fld (pv 1) rfl) (pv 2) (fun _ _ => rfl)))
  (C8.pss_cut (ps_if (PW.pt (pw_and (pt_cmp (pc_notN (pe_fld (pe_fld (pv 0) rfl) rfl))) (pw_and1 (pt_cmpR op_notIn_seq (pe_fld (pv 3) rfl) (pe_fld (pe_fld (pv 0) rfl) rfl) (by rfl))))) (pss_one (ps_ret (pe_meth (pv 0) T.clG MR GR hr5 bR .nil pass0 (pa_cons pe_str pa_nil)))) pss_nil)
  (C8.pss_cut (ps_set (i := 4) nd rfl (Or.inl rfl) (pe_or (pe_cmpR op_gt (pe_callB call_len_seq (by rfl) TK.m_len (by decide +kernel) (pa_cons (pe_fld (pv 0) rfl) pa_nil)) pe_int (nomark _)) (pe_one (pe_fld (pv 0) rfl))))
  (pss_cons (ps_if (PW.pt (pw_and (pt_val (pe_callB call_isi (by rfl) TK.m_isinstance (by decide +kernel) (pa_cons (pv 3) (pa_cons (pe_glob (v := .ref (cs 1)) (by rfl) TG.m_File rfl) pa_nil)))) (pw_and1 (pt_val (pv 4))))) (pss_one (ps_ret (pe_meth (pv 0) T.clG MR GR hr5 bR .nil pass0 (pa_cons pe_str pa_nil)))) pss_nil)
  (pss_cons (ps_if (PW.pt (pw_and (pt_val (pe_callB call_isi (by rfl) TK.m_isinstance (by decide +kernel) (pa_cons (pv 3) (pa_cons (pe_glob (v := .ref (cs 2)) (by rfl) TG.m_Link rfl) pa_nil)))) (pw_and (pt_val (pe_fld (pe_fld (pv 0) rfl) rfl)) (pw_and1 (PW.pt (pw_or (pt_val (pv 4)) (pw_or1 (pt_val (pe_fld (pe_fld (pv 0) rfl) rfl))))))))) (pss_one (ps_ret (pe_meth (pv 0) T.clG MF GF hr6 bF .nil pass0 (pa_cons (pe_dget hu (pe_fld (pv 1) rfl) (pv 2) (fun _ _ => rfl)) pa_nil)))) pss_nil)
  (pss_cons (ps_if (PW.pt (pw_and (pt_val (pe_callB call_isi (by rfl) TK.m_isinstance (by decide +kernel) (pa_cons (pv 3) (pa_cons (pe_glob (v := .ref (cs 2)) (by rfl) TG.m_Link rfl) pa_nil)))) (pw_and1 (pt_val (pv 4))))) (pss_one (ps_ret (pe_meth (pv 0) T.clG MR GR hr5 bR .nil pass0 (pa_cons pe_str pa_nil)))) pss_nil)
  (pss_one (ps_ret (pe_make MG GG hr4 (by rfl) T.gG bG .nil pass0 (pa_cons (pe_fld (pv 0) rfl) (pa_cons (pv 2) (pa_cons (pe_slice sl_tup (pe_fld (pv 0) rfl) (po_some pe_int) po_none) (pa_cons (pe_fld (pv 0) rfl) (pa_cons (pe_fld (pv 0) rfl) pa_nil))))))))))))))), ?_⟩
    rcases hnum with ⟨rfl, k0⟩ | ⟨k, nx, rfl, hn, kk⟩
    · refine ⟨_, rfl, _, rfl, ?_⟩
      rw [decide_eq_true (rfl : V.non = V.non)]
      exact iteT ⟨_, rfl, p, dx, _, rfl, hp, a8 "refused" (by simp), p, .ref lk, g, _, wa, li, "none", rfl, GW, k0⟩
    · obtain ⟨q, hq, hqr, hO⟩ := VA.tr.at_ hn
      obtain ⟨dq, fq, hins, hown⟩ := obj_ins hO
      have ci := clsI_lt nx
      have ty := TG.ty _ ci
      have hrf : ∀ (why : Str) {Q' : VK}, (∀ H' e, Same H H' → RefAt CG CR H' e g why → Q' (.ref e) H') → spGoR K CG CC CR [.ref p, .str why] H Q' E := fun why Q' h => ⟨p, .ref lk, g, _, wa, li, why, rfl, GW, h⟩
      refine ⟨_, rfl, _, rfl, ?_⟩
      rw [decide_eq_false (fun z : V.int (k : Nat) = V.non => by cases z)]
      refine iteF ⟨_, rfl, v, CV, dv, _, _, rfl, hv, TV.clV, TV.n1, f1, _, rfl, N, _, _, _, rfl, rfl, VA.tr.ob.ls, atI_nat hqr, ?_⟩
      refine ⟨fun σ H' => σ = [some (.ref p), some (.ref v), some (.int (k : Nat)), some (.ref q), none] ∧ H' = H ∧ hasOwn ow nx.owner = true, ?_, ?_⟩
      · cases ow with
        | none =>
          refine ⟨_, rfl, p, CG, dx, _, _, rfl, hp, T.clG, T.g1, a2, lk, CL, dl, _, V.non, rfl, hlk, clL, nO, o3, _, rfl, ?_⟩
          rw [show (!decide (V.non = V.non)) = false from by rw [decide_eq_true rfl]; rfl]
          exact iteF (iteF ⟨rfl, rfl, rfl⟩)
        | some ns =>
          obtain ⟨To, o4, o5⟩ := o3
          refine ⟨_, rfl, p, CG, dx, _, _, rfl, hp, T.clG, T.g1, a2, lk, CL, dl, _, V.ref To, rfl, hlk, clL, nO, o4, _, rfl, ?_⟩
          rw [show (!decide (V.ref To = V.non)) = true from by rw [decide_eq_false (fun z => by cases z)]; rfl]
          refine iteT ⟨_, rfl, q, _, dq, _, _, rfl, hins, TG.cl _ ci, TG.nO _ ci, hown, _, rfl, p, CG, dx, _, _, rfl, hp, T.clG, T.g1, a2, lk, CL, dl, _, V.ref To, rfl, hlk, clL, nO, o4, To, _, rfl, .inr o5, rfl, flat_ints ns, _, rfl, ?_⟩
          rw [if_pos rfl, inV_ints]
          cases hc : ns.contains nx.owner with
          | true => exact iteF ⟨rfl, rfl, hc⟩
          | false =>
            refine iteT ⟨_, rfl, p, dx, _, rfl, hp, a8 "refused" (by simp), p, .ref lk, g, _, wa, li, "owner", rfl, GW, fun H' e s R => kk H' e s ?_⟩
            unfold takenN
            rw [if_pos (show hasOwn (some ns) nx.owner = false from hc)]
            exact R
      · rintro σ H1 ⟨rfl, rfl, hh⟩
        refine ⟨fun σ H' => σ = [some (.ref p), some (.ref v), some (.int (k : Nat)), some (.ref q), some (.bl (!xs.isEmpty || wa))] ∧ H' = H1, ?_, ?_⟩
        · refine ⟨_, rfl, p, CG, dx, _, _, rfl, hp, T.clG, T.g3, a4, st, _, rfl, .inr a5, _, _, rfl, rfl, _, rfl, ?_⟩
          cases xs with
          | nil =>
            rw [decide_eq_false (by simp)]
            exact iteF ⟨_, rfl, p, CG, dx, _, _, rfl, hp, T.clG, T.g4, a6, rfl, rfl⟩
          | cons y r =>
            rw [decide_eq_true (by simp; omega)]
            exact iteT ⟨rfl, rfl⟩
        · rintro σ H2 ⟨rfl, rfl⟩
          unfold takenN at kk
          rw [hh, if_neg (by decide)] at kk
          generalize (!xs.isEmpty || wa) = gn at kk ⊢
          cases nx with
          | fil o =>
            refine ⟨_, rfl, _, _, _, _, decide (1 = 1), rfl, .own (cs 1), .base (.ins hins (TG.cl _ ci) ty.c1 ty.c2 ty.c3 ty.c4), TG.kit 1 1 (by decide) (by decide), _, rfl, iteT ⟨_, rfl, gn, rfl, ?_⟩⟩
            cases gn with
            | true => exact iteT ⟨_, rfl, p, dx, _, rfl, hp, a8 "refused" (by simp), p, .ref lk, g, _, wa, li, "file", rfl, GW, fun H' e s R => kk H' e s R⟩
            | false =>
              refine iteF ⟨_, rfl, _, _, _, _, decide (1 = 2), rfl, .own (cs 2), .base (.ins hins (TG.cl _ ci) ty.c1 ty.c2 ty.c3 ty.c4), TG.kit 1 2 (by decide) (by decide), _, rfl, iteF (iteF ⟨_, rfl, _, _, _, _, decide (1 = 2), rfl, .own (cs 2), .base (.ins hins (TG.cl _ ci) ty.c1 ty.c2 ty.c3 ty.c4), TG.kit 1 2 (by decide) (by decide), _, rfl, iteF (iteF ?_)⟩)⟩
              refine ⟨_, rfl, p, CG, dx, _, _, rfl, hp, T.clG, T.g1, a2, _, rfl, _, rfl, p, CG, dx, _, _, rfl, hp, T.clG, T.g3, a4, _, rfl, st, _, rfl, a5, not_whole z xs, fun tl htl => ?_⟩
              rw [cut_one]
              have st1 := NG.Same.upd (o := HO.tup (xs.map V.str)) htl
              have et1 : (upd H2 tl (.tup (xs.map V.str))) tl = some (.tup (xs.map V.str)) := upd_same
              generalize upd H2 tl (.tup (xs.map V.str)) = H3 at st1 et1 ⊢
              exact ⟨_, rfl, p, CG, dx, _, _, rfl, st1 _ _ hp, T.clG, T.g4, a6, _, rfl, p, CG, dx, _, _, rfl, st1 _ _ hp, T.clG, T.g5, a7, fun x dx' nx ndx nex => ⟨x, dx', tl, .ref lk, k, xs, wa, li, H3, rfl, upd_same, nx, new_ext (C := CG) nx ndx, SqT.of et1, fun H' s GW' => ⟨rfl, kk H' x (st1.trans s) GW'⟩⟩⟩
          | lnk o zt =>
            obtain ⟨pp, ps, y1, A1, PAz⟩ := g7 k o zt hn
            have hsp := A1.sp
            subst hsp
            have hst7 := link_steps (VA.tr.wf.base.lnk k o zt hn)
            refine ⟨_, rfl, _, _, _, _, decide (2 = 1), rfl, .own (cs 1), .base (.ins hins (TG.cl _ ci) ty.c1 ty.c2 ty.c3 ty.c4), TG.kit 2 1 (by decide) (by decide), _, rfl, iteF (iteF ⟨_, rfl, _, _, _, _, decide (2 = 2), rfl, .own (cs 2), .base (.ins hins (TG.cl _ ci) ty.c1 ty.c2 ty.c3 ty.c4), TG.kit 2 2 (by decide) (by decide), _, rfl, iteT ⟨_, rfl, p, CG, dx, _, _, rfl, hp, T.clG, T.g1, a2, lk, CL, dl, _, _, rfl, hlk, clL, nF, o1, fo, rfl, ?_⟩⟩)⟩
            cases fo with
            | false =>
              refine iteF (iteF ?_)
              refine ⟨_, rfl, _, _, _, _, decide (2 = 2), rfl, .own (cs 2), .base (.ins hins (TG.cl _ ci) ty.c1 ty.c2 ty.c3 ty.c4), TG.kit 2 2 (by decide) (by decide), _, rfl, iteT ⟨_, rfl, gn, rfl, ?_⟩⟩
              cases gn with
              | true => exact iteT ⟨_, rfl, p, dx, _, rfl, hp, a8 "refused" (by simp), p, .ref lk, g, _, wa, li, "link", rfl, GW, fun H' e s R => kk H' e s R⟩
              | false =>
                refine iteF ?_
                refine ⟨_, rfl, p, CG, dx, _, _, rfl, hp, T.clG, T.g1, a2, _, rfl, _, rfl, p, CG, dx, _, _, rfl, hp, T.clG, T.g3, a4, _, rfl, st, _, rfl, a5, not_whole z xs, fun tl htl => ?_⟩
                rw [cut_one]
                have st1 := NG.Same.upd (o := HO.tup (xs.map V.str)) htl
                have et1 : (upd H2 tl (.tup (xs.map V.str))) tl = some (.tup (xs.map V.str)) := upd_same
                generalize upd H2 tl (.tup (xs.map V.str)) = H3 at st1 et1 ⊢
                exact ⟨_, rfl, p, CG, dx, _, _, rfl, st1 _ _ hp, T.clG, T.g4, a6, _, rfl, p, CG, dx, _, _, rfl, st1 _ _ hp, T.clG, T.g5, a7, fun x dx' nx ndx nex => ⟨x, dx', tl, .ref lk, k, xs, wa, li, H3, rfl, upd_same, nx, new_ext (C := CG) nx ndx, SqT.of et1, fun H' s GW' => ⟨rfl, kk H' x (st1.trans s) GW'⟩⟩⟩
            | true =>
              refine iteT ⟨_, rfl, gn, rfl, ?_⟩
              cases gn with
              | true =>
                refine iteT (iteT ?_)
                exact ⟨_, rfl, p, dx, _, rfl, hp, a8 "followed" (by simp), _, rfl, v, CV, dv, _, _, rfl, hv, TV.clV, TV.n4, f4, _, rfl, Dp, _, rfl, y1 ▸ DGet.k (k := Sum.inl (k : Int)) g6, p, pp, .ref lk, g, z, xs, stepsOf (partsOf zt), wa, absOf (partsOf zt), folOf (partsOf zt), li, rfl, GW, PAz, by omega, hli, fun h8 H' e s R => kk H' e s (show NxAt K CG CC CR H' e (V.ref lk) g (if li = 8 then Nx.ref "links" else Nx.go (if absOf (partsOf zt) = true then 0 else g) (stepsOf (partsOf zt) ++ xs) (wa || (xs.isEmpty && folOf (partsOf zt))) (li + 1)) from by rw [if_pos h8]; exact R), fun h8 H' e s R => kk H' e s (show NxAt K CG CC CR H' e (V.ref lk) g (if li = 8 then Nx.ref "links" else Nx.go (if absOf (partsOf zt) = true then 0 else g) (stepsOf (partsOf zt) ++ xs) (wa || (xs.isEmpty && folOf (partsOf zt))) (li + 1)) from by rw [if_neg (Nat.ne_of_lt h8)]; exact R)⟩
              | false =>
                refine iteF ⟨_, rfl, p, CG, dx, _, _, rfl, hp, T.clG, T.g1, a2, lk, CL, dl, _, _, rfl, hlk, clL, nL, o2, la, rfl, ?_⟩
                cases la with
                | true =>
                  refine iteT ?_
                  exact ⟨_, rfl, p, dx, _, rfl, hp, a8 "followed" (by simp), _, rfl, v, CV, dv, _, _, rfl, hv, TV.clV, TV.n4, f4, _, rfl, Dp, _, rfl, y1 ▸ DGet.k (k := Sum.inl (k : Int)) g6, p, pp, .ref lk, g, z, xs, stepsOf (partsOf zt), wa, absOf (partsOf zt), folOf (partsOf zt), li, rfl, GW, PAz, by omega, hli, fun h8 H' e s R => kk H' e s (show NxAt K CG CC CR H' e (V.ref lk) g (if li = 8 then Nx.ref "links" else Nx.go (if absOf (partsOf zt) = true then 0 else g) (stepsOf (partsOf zt) ++ xs) (wa || (xs.isEmpty && folOf (partsOf zt))) (li + 1)) from by rw [if_pos h8]; exact R), fun h8 H' e s R => kk H' e s (show NxAt K CG CC CR H' e (V.ref lk) g (if li = 8 then Nx.ref "links" else Nx.go (if absOf (partsOf zt) = true then 0 else g) (stepsOf (partsOf zt) ++ xs) (wa || (xs.isEmpty && folOf (partsOf zt))) (li + 1)) from by rw [if_neg (Nat.ne_of_lt h8)]; exact R)⟩
                | false =>
                  refine iteF ⟨_, rfl, _, _, _, _, decide (2 = 2), rfl, .own (cs 2), .base (.ins hins (TG.cl _ ci) ty.c1 ty.c2 ty.c3 ty.c4), TG.kit 2 2 (by decide) (by decide), _, rfl, iteT ⟨_, rfl, false, rfl, iteF ?_⟩⟩
                  refine ⟨_, rfl, p, CG, dx, _, _, rfl, hp, T.clG, T.g1, a2, _, rfl, _, rfl, p, CG, dx, _, _, rfl, hp, T.clG, T.g3, a4, _, rfl, st, _, rfl, a5, not_whole z xs, fun tl htl => ?_⟩
                  rw [cut_one]
                  have st1 := NG.Same.upd (o := HO.tup (xs.map V.str)) htl
                  have et1 : (upd H2 tl (.tup (xs.map V.str))) tl = some (.tup (xs.map V.str)) := upd_same
                  generalize upd H2 tl (.tup (xs.map V.str)) = H3 at st1 et1 ⊢
                  exact ⟨_, rfl, p, CG, dx, _, _, rfl, st1 _ _ hp, T.clG, T.g4, a6, _, rfl, p, CG, dx, _, _, rfl, st1 _ _ hp, T.clG, T.g5, a7, fun x dx' nx ndx nex => ⟨x, dx', tl, .ref lk, k, xs, wa, li, H3, rfl, upd_same, nx, new_ext (C := CG) nx ndx, SqT.of et1, fun H' s GW' => ⟨rfl, kk H' x (st1.trans s) GW'⟩⟩⟩
          | fol o es =>
            refine ⟨_, rfl, _, _, _, _, decide (0 = 1), rfl, .own (cs 1), .base (.ins hins (TG.cl _ ci) ty.c1 ty.c2 ty.c3 ty.c4), TG.kit 0 1 (by decide) (by decide), _, rfl, iteF (iteF ⟨_, rfl, _, _, _, _, decide (0 = 2), rfl, .own (cs 2), .base (.ins hins (TG.cl _ ci) ty.c1 ty.c2 ty.c3 ty.c4), TG.kit 0 2 (by decide) (by decide), _, rfl, iteF (iteF ⟨_, rfl, _, _, _, _, decide (0 = 2), rfl, .own (cs 2), .base (.ins hins (TG.cl _ ci) ty.c1 ty.c2 ty.c3 ty.c4), TG.kit 0 2 (by decide) (by decide), _, rfl, iteF (iteF ?_)⟩)⟩)⟩
            refine ⟨_, rfl, p, CG, dx, _, _, rfl, hp, T.clG, T.g1, a2, _, rfl, _, rfl, p, CG, dx, _, _, rfl, hp, T.clG, T.g3, a4, _, rfl, st, _, rfl, a5, not_whole z xs, fun tl htl => ?_⟩
            rw [cut_one]
            have st1 := NG.Same.upd (o := HO.tup (xs.map V.str)) htl
            have et1 : (upd H2 tl (.tup (xs.map V.str))) tl = some (.tup (xs.map V.str)) := upd_same
            generalize upd H2 tl (.tup (xs.map V.str)) = H3 at st1 et1 ⊢
            exact ⟨_, rfl, p, CG, dx, _, _, rfl, st1 _ _ hp, T.clG, T.g4, a6, _, rfl, p, CG, dx, _, _, rfl, st1 _ _ hp, T.clG, T.g5, a7, fun x dx' nx ndx nex => ⟨x, dx', tl, .ref lk, k, xs, wa, li, H3, rfl, upd_same, nx, new_ext (C := CG) nx ndx, SqT.of et1, fun H' s GW' => ⟨rfl, kk H' x (st1.trans s) GW'⟩⟩⟩
          | gon o ab =>
            refine ⟨_, rfl, _, _, _, _, decide (3 = 1), rfl, .own (cs 1), .base (.ins hins (TG.cl _ ci) ty.c1 ty.c2 ty.c3 ty.c4), TG.kit 3 1 (by decide) (by decide), _, rfl, iteF (iteF ⟨_, rfl, _, _, _, _, decide (3 = 2), rfl, .own (cs 2), .base (.ins hins (TG.cl _ ci) ty.c1 ty.c2 ty.c3 ty.c4), TG.kit 3 2 (by decide) (by decide), _, rfl, iteF (iteF ⟨_, rfl, _, _, _, _, decide (3 = 2), rfl, .own (cs 2), .base (.ins hins (TG.cl _ ci) ty.c1 ty.c2 ty.c3 ty.c4), TG.kit 3 2 (by decide) (by decide), _, rfl, iteF (iteF ?_)⟩)⟩)⟩
            refine ⟨_, rfl, p, CG, dx, _, _, rfl, hp, T.clG, T.g1, a2, _, rfl, _, rfl, p, CG, dx, _, _, rfl, hp, T.clG, T.g3, a4, _, rfl, st, _, rfl, a5, not_whole z xs, fun tl htl => ?_⟩
            rw [cut_one]
            have st1 := NG.Same.upd (o := HO.tup (xs.map V.str)) htl
            have et1 : (upd H2 tl (.tup (xs.map V.str))) tl = some (.tup (xs.map V.str)) := upd_same
            generalize upd H2 tl (.tup (xs.map V.str)) = H3 at st1 et1 ⊢
            exact ⟨_, rfl, p, CG, dx, _, _, rfl, st1 _ _ hp, T.clG, T.g4, a6, _, rfl, p, CG, dx, _, _, rfl, st1 _ _ hp, T.clG, T.g5, a7, fun x dx' nx ndx nex => ⟨x, dx', tl, .ref lk, k, xs, wa, li, H3, rfl, upd_same, nx, new_ext (C := CG) nx ndx, SqT.of et1, fun H' s GW' => ⟨rfl, kk H' x (st1.trans s) GW'⟩⟩⟩
end
end NW

set_option maxRecDepth 100000
set_option maxHeartbeats 400000
namespace NW
open PySem L2 NG TR LamX
abbrev sGoK : Stmt := inClass (top 49) 1
theorem up_there {LT PL : Str → Prop} {nds : List Nd} (W : WF LT PL nds) {g i : Nat} {nd : Nd} (hg : nds[g]? = some nd) (h : UpIs nds g i) : ∃ x, nds[i]? = some x := by
  rcases h with ⟨rfl, rfl⟩ | ⟨o, h⟩ | ⟨_, o, es, e, h, _⟩
  · exact ⟨_, hg⟩
  · obtain ⟨_, o', es, h'⟩ := W.base.gon g o i h
    exact ⟨_, h'⟩
  · exact ⟨_, h⟩
/-- one look of a walk -/
def spGoK (K : PySem.W.Frag) (cs : Nat → Addr) (CG CC CR CV CP CL : Addr) : Sp := fun vs H Q _ => ∃ (p v lk : Addr) (g : Nat) (z : Str) (xs : List Str) (wa : Bool) (li : Nat) (N : Addr) (qs : List Addr) (nds : List Nd) (nd0 : Nd) (fo la : Bool) (ow : Option (List Int)), vs = [.ref p, .ref v] ∧
  GoW K CG CC H p (.ref lk) g (z :: xs) wa li ∧ ViewAt K cs CV CP H v N qs nds ∧ LookAt K CL H lk fo la ow ∧ xs.length ≤ 50000 ∧ li ≤ 8 ∧ nds[g]? = some nd0 ∧ (clsI nd0 = 0 ∨ clsI nd0 = 3) ∧
  (z = (".." : Str) → ∀ (i : Nat) (nd : Nd), UpIs nds g i → nds[i]? = some nd → ∀ H' e, Same H H' → NxAt K CG CC CR H' e (.ref lk) g (takenN nd fo la ow i g xs wa li) → Q (.ref e) H') ∧
  (z ≠ (".." : Str) → nd0.ents.find? (fun e => e.1 == z) = none → ∀ H' e, Same H H' → RefAt CG CR H' e g "none" → Q (.ref e) H') ∧
  (z ≠ (".." : Str) → ∀ (en : Str × Nat) (nd : Nd), nd0.ents.find? (fun e => e.1 == z) = some en → nds[en.2]? = some nd → ∀ H' e, Same H H' → NxAt K CG CC CR H' e (.ref lk) g (takenN nd fo la ow en.2 g xs wa li) → Q (.ref e) H')
section
variable {P : Program} {w : World} {K : PySem.W.Frag} {mg : Str → Option Value} {base : Heap} {CC CG CP CR CV CL fCmI fBeg fBgn fEnd fGoT fGoF f : Addr} {cs : Nat → Addr}
theorem scGoK : FnScope ["self", "view"] ["self", "view"] (defScope sGoK) := ⟨rfl, rfl, rfl, by decide +kernel, rfl, by decide +kernel, by decide +kernel⟩
theorem ok_goK {fd fdT fdF : FuncData} (F : Fun K "looked" "Going.looked" sGoK f fd) (T : TxtGo K mg CC CG CP fCmI fBeg fBgn fEnd) (MT : Meth K CG "taken" fGoT) (GT : FnOk P w K mg base CX0 7 fGoT fdT ["self", "view", "number"] (spGoT K cs CG CC CR CV CP CL)) (bT : Binds K fdT ["self", "view", "number"] [])
    (MF : Meth K CG "found" fGoF) (GF : FnOk P w K mg base CX0 3 fGoF fdF ["self", "view"] (spGoF K cs CG CC CV CP)) (bF : Binds K fdF ["self", "view"] []) : FnOk P w K mg base CX0 8 f fd ["self", "view"] (spGoK K cs CG CC CR CV CP CL) := by
  refine F.ok scGoK (fun vs H Q E h => ?_) (fun cdv A outer s H vs Q E hr h => ?_)
  · obtain ⟨p, v, lk, g, z, xs, wa, li, N, qs, nds, nd0, fo, la, ow, rfl, _⟩ := h
    rfl
  · obtain ⟨p, v, lk, g, z, xs, wa, li, N, qs, nds, nd0, fo, la, ow, rfl, GW, VA, LA, hxl, hli, hn, hc, kU, kN, kE⟩ := h
    have hr7 : Room 7 _ := hr
    have hr3 : Room 3 _ := hr.mono (by decide)
    have W := VA.tr.wf
    obtain ⟨dx, Fl, st, hp, a2, a3, a4, a5, a6, a7, a8, _⟩ := id GW
    refine ⟨_, (pss_one (ps_ret (pe_meth (pv 0) T.clG MT GT hr7 bT .nil pass0 (pa_cons (pv 1) (pa_cons (pe_meth (pv 0) T.clG MF GF hr3 bF .nil pass0 (pa_cons (pv 1) pa_nil)) pa_nil))))), ?_⟩
    refine ⟨_, rfl, p, dx, _, rfl, hp, a8 "taken" (by simp), _, rfl, _, rfl, p, dx, _, rfl, hp, a8 "found" (by simp), _, rfl, p, .ref lk, g, z, xs, wa, li, v, N, qs, nds, nd0, rfl, GW, VA, hn, hc, fun ez i hi => ?_, fun ez => ?_⟩
    · obtain ⟨nd, hnd⟩ := up_there W hn hi
      exact ⟨p, v, lk, g, z, xs, wa, li, N, qs, nds, fo, la, ow, _, rfl, GW, VA, LA, hxl, hli, .inr ⟨i, nd, rfl, hnd, kU ez i nd hi hnd⟩⟩
    · unfold nameTo
      cases hf : nd0.ents.find? (fun e => e.1 == z) with
      | none => exact ⟨p, v, lk, g, z, xs, wa, li, N, qs, nds, fo, la, ow, _, rfl, GW, VA, LA, hxl, hli, .inl ⟨rfl, kN ez hf⟩⟩
      | some en =>
        obtain ⟨_, _, nd, hnd, _⟩ := W.base.ent g nd0 hn en (List.mem_of_find?_eq_some hf)
        exact ⟨p, v, lk, g, z, xs, wa, li, N, qs, nds, fo, la, ow, _, rfl, GW, VA, LA, hxl, hli, .inr ⟨en.2, nd, rfl, hnd, kE ez en nd hf hnd⟩⟩
end
end NW

set_option maxRecDepth 100000
set_option maxHeartbeats 400000
namespace NW
open PySem L2 NG TR LamX
/-! ### whole walks -/
def Lk (nds : List Nd) (g : Nat) (z : Str) (i : Nat) (nd : Nd) : Prop := nds[i]? = some nd ∧ ((z = (".." : Str) ∧ UpIs nds g i) ∨ (z ≠ (".." : Str) ∧ ∃ nd0 en, nds[g]? = some nd0 ∧ nd0.ents.find? (fun e => e.1 == z) = some en ∧ i = en.2))
/-- what a walk comes to: a node, or the reason -/
inductive Run (nds : List Nd) (fo la : Bool) (ow : Option (List Int)) : Nat → List Str → Bool → Nat → (Nat ⊕ Str) → Prop where
  | came (g : Nat) (wa : Bool) (li : Nat) : Run nds fo la ow g [] wa li (.inl g)
  | none {g : Nat} {z : Str} {xs : List Str} {wa : Bool} {li : Nat} {nd0 : Nd} (h1 : z ≠ (".." : Str)) (h2 : nds[g]? = some nd0) (h3 : nd0.ents.find? (fun e => e.1 == z) = .none) : Run nds fo la ow g (z :: xs) wa li (.inr "none")
  | ref {g : Nat} {z : Str} {xs : List Str} {wa : Bool} {li : Nat} {i : Nat} {nd : Nd} {why : Str} (h : Lk nds g z i nd) (t : takenN nd fo la ow i g xs wa li = .ref why) : Run nds fo la ow g (z :: xs) wa li (.inr why)
  | go {g : Nat} {z : Str} {xs : List Str} {wa : Bool} {li : Nat} {i : Nat} {nd : Nd} {g' : Nat} {xs' : List Str} {wa' : Bool} {li' : Nat} {r : Nat ⊕ Str} (h : Lk nds g z i nd) (t : takenN nd fo la ow i g xs wa li = .go g' xs' wa' li') (k : Run nds fo la ow g' xs' wa' li' r) : Run nds fo la ow g (z :: xs) wa li r
def ResAt (CC CR : Addr) (H : Hp) (r : Addr) : Nat ⊕ Str → Prop
  | .inl g => ∃ dr, H r = some (.ins CC dr (fl1 "node" (.int (g : Nat))))
  | .inr why => ∃ dr, H r = some (.ins CR dr (fl1 "why" (.str why)))
def FolG (nds : List Nd) (g : Nat) : Prop := ∃ nd, nds[g]? = some nd ∧ (clsI nd = 0 ∨ clsI nd = 3)
theorem taken_go {nd : Nd} {fo la : Bool} {ow : Option (List Int)} {i g g' : Nat} {xs xs' : List Str} {wa wa' : Bool} {li li' : Nat} {LT PL : Str → Prop} {nds : List Nd} (W : WF LinkText PL nds) (hi : nds[i]? = some nd) (hg : FolG nds g) (hli : li ≤ 8)
    (t : takenN nd fo la ow i g xs wa li = .go g' xs' wa' li') : li' ≤ 8 ∧ (9 - li') * 10 + xs'.length < (9 - li) * 10 + (xs.length + 1) ∧ (xs' ≠ [] → FolG nds g') := by
  unfold takenN at t
  split at t
  · cases t
  · cases nd with
    | fil o =>
      dsimp only at t
      split at t
      · cases t
      · rename_i hx
        injection t with t1 t2 t3 t4
        subst t1 t2 t3 t4
        refine ⟨hli, by omega, fun h => absurd ?_ hx⟩
        cases xs with
        | nil => exact absurd rfl h
        | cons a b => rfl
    | lnk o z =>
      dsimp only at t
      split at t
      · split at t
        · cases t
        · rename_i h8
          injection t with t1 t2 t3 t4
          subst t1 t2 t3 t4
          have h7 := link_steps (W.base.lnk i o z hi)
          refine ⟨by omega, by rw [List.length_append]; omega, fun _ => ?_⟩
          split
          · obtain ⟨o', es, h⟩ := W.base.root
            exact ⟨_, h, .inl rfl⟩
          · exact hg
      · split at t
        · cases t
        · rename_i hx
          injection t with t1 t2 t3 t4
          subst t1 t2 t3 t4
          refine ⟨hli, by omega, fun h => absurd ?_ hx⟩
          cases xs with
          | nil => exact absurd rfl h
          | cons a b => rfl
    | fol o es =>
      dsimp only at t
      injection t with t1 t2 t3 t4
      subst t1 t2 t3 t4
      exact ⟨hli, by omega, fun _ => ⟨_, hi, .inl rfl⟩⟩
    | gon o ab =>
      dsimp only at t
      injection t with t1 t2 t3 t4
      subst t1 t2 t3 t4
      exact ⟨hli, by omega, fun _ => ⟨_, hi, .inr rfl⟩⟩
end NW

set_option maxRecDepth 100000
set_option maxHeartbeats 400000
namespace NW
open PySem L2 NG TR LamX
theorem HomesAt.same {K : PySem.W.Frag} {H H' : Hp} {kvs : List (Key × V)} {nds : List Nd} (h : HomesAt K H kvs nds) (s : Same H H') : HomesAt K H' kvs nds := fun k nd a b c => (h k nd a b c).same s
theorem ViewAt.same {K : PySem.W.Frag} {cs : Nat → Addr} {CV CP : Addr} {H H' : Hp} {v N : Addr} {qs : List Addr} {nds : List Nd} (h : ViewAt K cs CV CP H v N qs nds) (s : Same H H') : ViewAt K cs CV CP H' v N qs nds := by
  obtain ⟨⟨dv, Fv, Ln, Dh, Dp, kh, kp, ds, hv, f1, f2, f3, f4, f5, f6, g1, g2, g3, g4, g5, g6, g7⟩, tr⟩ := h
  exact ⟨⟨dv, Fv, Ln, Dh, Dp, kh, kp, ds, s _ _ hv, f1, f2, f3, f4, f5, f6, s _ _ g1, g2, fun i d nd a b => s _ _ (g3 i d nd a b), s _ _ g4, g5.same s, s _ _ g6, fun k o z hk => let ⟨pp, ps, x1, x2, x3⟩ := g7 k o z hk; ⟨pp, ps, x1, x2, ⟨let ⟨u1, u2, u3, u4⟩ := x3.ob; ⟨u1, u2, s _ _ u3, Same.sqT s u4⟩⟩⟩⟩, tr.same s⟩
theorem LookAt.same {K : PySem.W.Frag} {CL : Addr} {H H' : Hp} {lk : Addr} {fo la : Bool} {ow : Option (List Int)} (h : LookAt K CL H lk fo la ow) (s : Same H H') : LookAt K CL H' lk fo la ow := by
  obtain ⟨dx, F, h1, h2, h3, h4⟩ := h
  refine ⟨dx, F, s _ _ h1, h2, h3, ?_⟩
  cases ow with
  | none => exact h4
  | some ns => exact let ⟨T, a, b⟩ := h4; ⟨T, a, Same.sqT s b⟩
def spEndG (K : PySem.W.Frag) (cs : Nat → Addr) (CG CC CR CV CP CL : Addr) : Sp := fun vs H Q _ => ∃ (v e lk : Addr) (g : Nat) (xs : List Str) (wa : Bool) (li : Nat) (N : Addr) (qs : List Addr) (nds : List Nd) (fo la : Bool) (ow : Option (List Int)), vs = [.ref v, .ref e] ∧ GoW K CG CC H e (.ref lk) g xs wa li ∧ ViewAt K cs CV CP H v N qs nds ∧ LookAt K CL H lk fo la ow ∧ li ≤ 8 ∧ (9 - li) * 10 + xs.length ≤ 50000 ∧ (xs ≠ [] → FolG nds g) ∧
  ∀ H' r res, Same H H' → Run nds fo la ow g xs wa li res → ResAt CC CR H' r res → Q (.ref r) H'
section
variable {P : Program} {w : World} {K : PySem.W.Frag} {mg : Str → Option Value} {base : Heap} {CC CG CP CR CV CL fCmI fBeg fBgn fEnd fGoK f : Addr} {cs : Nat → Addr}
theorem ok_endG {fd fdK : FuncData} (F : Fun K "ended_in" "ended_in" sEnd f fd) (T : TxtGo K mg CC CG CP fCmI fBeg fBgn fEnd) (MK : Meth K CG "looked" fGoK) (GK : FnOk P w K mg base CX0 8 fGoK fdK ["self", "view"] (spGoK K cs CG CC CR CV CP CL)) (bK : Binds K fdK ["self", "view"] []) :
    FnOk P w K mg base CX0 9 f fd ["view", "going"] (spEndG K cs CG CC CR CV CP CL) := by
  have nd := scEnd.nd
  refine F.ok scEnd (fun vs H Q E h => ?_) (fun cdv A outer s H vs Q E hr h => ?_)
  · obtain ⟨v, e, lk, g, xs, wa, li, N, qs, nds, fo, la, ow, rfl, _⟩ := h
    rfl
  · obtain ⟨v, e0, lk, g0, xs0, wa0, li0, N, qs, nds, fo, la, ow, rfl, GW0, VA, LA, hli0, hm0, hf0, k⟩ := h
    have hr8 : Room 8 _ := hr
    have W := VA.tr.wf
    refine ⟨_, (pss_cons (ps_while PassesOwn.never (pt_cmp (pc_isN (pe_fld (pv 1) rfl))) (pss_one (ps_set (i := 1) nd rfl (Or.inl rfl) (pe_meth (pv 1) T.clG MK GK hr8 bK .nil pass0 (pa_cons (pv 0) pa_nil))))) (pss_one (ps_ret (pe_fld (pv 1) rfl)))), ?_⟩
    unfold tSeq
    dsimp only
    refine ⟨fun m σ H' => ∃ e : Addr, σ = [some (.ref v), some (.ref e)] ∧ Same H H' ∧ m ≤ 50000 ∧ ((∃ g xs wa li, GoW K CG CC H' e (.ref lk) g xs wa li ∧ li ≤ 8 ∧ m = (9 - li) * 10 + xs.length ∧ (xs ≠ [] → FolG nds g) ∧ ∀ res, Run nds fo la ow g xs wa li res → Run nds fo la ow g0 xs0 wa0 li0 res) ∨
      ∃ g why, RefAt CG CR H' e g why ∧ Run nds fo la ow g0 xs0 wa0 li0 (.inr why)), ⟨_, e0, rfl, Same.refl _, hm0, .inl ⟨g0, xs0, wa0, li0, GW0, hli0, rfl, hf0, fun _ h => h⟩⟩, ?_⟩
    rintro m σ H1 ⟨e, rfl, s1, hm, hst⟩
    rcases hst with ⟨g, xs, wa, li, GW, hli, rfl, hfol, hrun⟩ | ⟨g, why, RA, hrun⟩
    · obtain ⟨dx, Fl, st, hp, a2, a3, a4, a5, a6, a7, a8, al, a9, b1⟩ := id GW
      cases xs with
      | nil =>
        obtain ⟨r, dr, h3, h4⟩ := a9 rfl
        refine ⟨_, rfl, e, CG, dx, _, V.ref r, rfl, hp, T.clG, T.g6, h3, _, rfl, ?_⟩
        rw [decide_eq_false (fun z : V.ref r = V.non => by cases z)]
        exact iteF ⟨_, rfl, e, CG, dx, _, V.ref r, rfl, hp, T.clG, T.g6, h3, k H1 r (.inl g) s1 (hrun _ (.came g wa li)) ⟨dr, h4⟩⟩
      | cons z r =>
        refine ⟨_, rfl, e, CG, dx, _, V.non, rfl, hp, T.clG, T.g6, b1 (by simp), _, rfl, ?_⟩
        rw [decide_eq_true (rfl : V.non = V.non)]
        obtain ⟨nd0, hn0, hc0⟩ := hfol (by simp)
        have step : ∀ (i : Nat) (nd : Nd), Lk nds g z i nd → ∀ (H2 : Hp) (e' : Addr), Same H1 H2 → NxAt K CG CC CR H2 e' (.ref lk) g (takenN nd fo la ow i g r wa li) → ∃ m', m' < (9 - li) * 10 + (z :: r).length ∧ ∃ e2 : Addr, [some (V.ref v), some (V.ref e')] = [some (.ref v), some (.ref e2)] ∧ Same H H2 ∧ m' ≤ 50000 ∧ ((∃ g xs wa li, GoW K CG CC H2 e2 (.ref lk) g xs wa li ∧ li ≤ 8 ∧ m' = (9 - li) * 10 + xs.length ∧ (xs ≠ [] → FolG nds g) ∧ ∀ res, Run nds fo la ow g xs wa li res → Run nds fo la ow g0 xs0 wa0 li0 res) ∨
            ∃ g why, RefAt CG CR H2 e2 g why ∧ Run nds fo la ow g0 xs0 wa0 li0 (.inr why)) := fun i nd hL H2 e' s2 hN => by
          cases ht : takenN nd fo la ow i g r wa li with
          | ref why =>
            rw [ht] at hN
            exact ⟨0, by rw [List.length_cons]; omega, e', rfl, s1.trans s2, by omega, .inr ⟨g, why, hN, hrun _ (.ref hL ht)⟩⟩
          | go g' xs' wa' li' =>
            rw [ht] at hN
            obtain ⟨t1, t2, t3⟩ := taken_go (LT := LinkText) (PL := PL) W hL.1 ⟨nd0, hn0, hc0⟩ hli ht
            exact ⟨(9 - li') * 10 + xs'.length, by rw [List.length_cons]; exact t2, e', rfl, s1.trans s2, by rw [List.length_cons] at hm; omega, .inl ⟨g', xs', wa', li', hN, t1, rfl, t3, fun res hr => hrun _ (.go hL ht hr)⟩⟩
        refine iteT ⟨_, fun _ _ h => h, _, rfl, e, dx, _, rfl, hp, a8 "looked" (by simp), _, rfl, e, v, lk, g, z, r, wa, li, N, qs, nds, nd0, fo, la, ow, rfl, GW, VA.same s1, LA.same s1, ?_, hli, hn0, hc0, fun ez i nd hU hi H2 e' s2 hN => step i nd ⟨hi, .inl ⟨ez, hU⟩⟩ H2 e' s2 hN, fun ez hf H2 e' s2 hR => ?_, fun ez en nd hf hi H2 e' s2 hN => step en.2 nd ⟨hi, .inr ⟨ez, nd0, en, hn0, hf, rfl⟩⟩ H2 e' s2 hN⟩
        · rw [List.length_cons] at hm; omega
        · exact ⟨0, by rw [List.length_cons]; omega, e', rfl, s1.trans s2, by omega, .inr ⟨g, "none", hR, hrun _ (.none ez hn0 hf)⟩⟩
    · obtain ⟨dx, Fl, r, dr, h1, h2, h3, h4⟩ := RA
      refine ⟨_, rfl, e, CG, dx, _, V.ref r, rfl, h1, T.clG, T.g6, h3, _, rfl, ?_⟩
      rw [decide_eq_false (fun z : V.ref r = V.non => by cases z)]
      exact iteF ⟨_, rfl, e, CG, dx, _, V.ref r, rfl, h1, T.clG, T.g6, h3, k H1 r (.inr why) s1 hrun ⟨dr, h4⟩⟩
end
end NW

set_option maxRecDepth 100000
set_option maxHeartbeats 400000
namespace NW
open PySem L2 NG TR LamX
abbrev sWk : Stmt := top 52
def spBgG (K : PySem.W.Frag) (CP CG CC : Addr) : Sp := fun vs H Q _ => ∃ (g : Nat) (lk : V) (p : Addr) (ss : List Str) (ab fl : Bool), vs = [.int (g : Nat), .ref p, lk] ∧ PathAt K CP H p ss ab fl ∧ ∀ H' e, Same H H' → GoW K CG CC H' e lk (if ab = true then 0 else g) ss fl 0 → Q (.ref e) H'
/-- walk, from a folder or gone folder -/
def spWkG (K : PySem.W.Frag) (cs : Nat → Addr) (CT CP CC CR CL : Addr) : Sp := fun vs H Q _ => ∃ (t : Addr) (qs : List Addr) (nds : List Nd) (g : Nat) (p lk : Addr) (ss : List Str) (ab fl fo la : Bool) (ow : Option (List Int)), vs = [.ref t, .int (g : Nat), .ref p, .ref lk] ∧ TreeAt K cs CT H t qs nds ∧ nds.length ≤ 1000 ∧ FolG nds g ∧ PathAt K CP H p ss ab fl ∧ LookAt K CL H lk fo la ow ∧ ss.length ≤ 40000 ∧
  ∀ H' r res, Same H H' → Run nds fo la ow (if ab = true then 0 else g) ss fl 0 res → ResAt CC CR H' r res → Q (.ref r) H'
section
variable {P : Program} {w : World} {K : PySem.W.Frag} {mg : Str → Option Value} {base : Heap} {CC CG CP CR CV CL CT CNN fNNI fCk fPl fHm fRead fCmI fBeg fBgn fEnd fVI fWk f : Addr} {cs : Nat → Addr}
theorem ok_bgG {fGoI : Addr} {fd fdG fdB : FuncData} (F : Fun K "begun" "begun" sBgn f fd) (T : TxtGo K mg CC CG CP fCmI fBeg fBgn fEnd) (MG : Mk K CG fGoI) (GG : FnOk P w K mg base CX0 3 fGoI fdG ["self", "look", "at", "steps", "wants", "links"] (spGoG K CG CC)) (bG : Binds K fdG ["self", "look", "at", "steps", "wants", "links"] [])
    (GB : FnOk P w K mg base CX0 1 fBeg fdB ["at", "path"] (spBeg K CP)) (bB : Binds K fdB ["at", "path"] []) : FnOk P w K mg base CX0 5 f fd ["place", "path", "look"] (spBgG K CP CG CC) := by
  refine F.ok scBgn (fun vs H Q E h => ?_) (fun cdv A outer s H vs Q E hr h => ?_)
  · obtain ⟨g, lk, p, ss, ab, fl, rfl, _⟩ := h
    rfl
  · obtain ⟨g, lk, p, ss, ab, fl, rfl, PA, k⟩ := h
    have hr4 : Room 4 _ := hr
    have hr1 : Room 1 _ := hr.mono (by decide)
    obtain ⟨dx, t, hp, ht⟩ := id PA.ob
    refine ⟨_, (pss_one (ps_ret (pe_make MG GG hr4 (by rfl) T.gG bG .nil pass0 (pa_cons (pv 2) (pa_cons (pe_call GB hr1 (by rfl) T.gbeg T.kbeg bB .nil pass0 (pa_cons (pv 0) (pa_cons (pv 1) pa_nil))) (pa_cons (pe_fld (pv 1) rfl) (pa_cons (pe_fld (pv 1) rfl) (pa_cons pe_int pa_nil)))))))), ?_⟩
    refine ⟨_, rfl, _, rfl, _, rfl, .int (g : Nat), p, ss, ab, fl, rfl, PA, ?_⟩
    refine ⟨_, rfl, p, CP, dx, _, _, rfl, hp, T.clP, T.nS, pfl_steps t ab fl, _, rfl, p, CP, dx, _, _, rfl, hp, T.clP, T.nF, pfl_fo t ab fl, fun x dx' nx ndx nex => ?_⟩
    refine ⟨x, dx', t, lk, if ab = true then 0 else g, ss, fl, 0, H, ?_, upd_same, nx, new_ext (C := CG) nx ndx, ht, fun H' s GW => ⟨rfl, k H' x s GW⟩⟩
    cases ab <;> rfl
theorem scWk : FnScope ["tree", "place", "path", "look"] ["tree", "place", "path", "look"] (defScope sWk) := ⟨rfl, rfl, rfl, by decide +kernel, rfl, by decide +kernel, by decide +kernel⟩
theorem ok_wkG {fd fdP fdV fdB fdE : FuncData} (F : Fun K "walk" "walk" sWk fWk fd) (TX : TxtX K mg CNN fNNI fCk fPl CT) (TV : TxtVw K mg CV fHm fRead) (T : TxtGo K mg CC CG CP fCmI fBeg fBgn fEnd) (MV : Mk K CV fVI)
    (GP : FnOk P w K mg base CX0 4 fPl fdP ["tree", "place"] (spPlN K cs CT)) (bP : Binds K fdP ["tree", "place"] []) (GV : FnOk P w K mg base CX0 7 fVI fdV ["self", "tree"] (spVI K cs CT CV CP)) (bV : Binds K fdV ["self", "tree"] [])
    (GB : FnOk P w K mg base CX0 5 fBgn fdB ["place", "path", "look"] (spBgG K CP CG CC)) (bB : Binds K fdB ["place", "path", "look"] []) (GE : FnOk P w K mg base CX0 9 fEnd fdE ["view", "going"] (spEndG K cs CG CC CR CV CP CL)) (bE : Binds K fdE ["view", "going"] []) :
    FnOk P w K mg base CX0 10 fWk fd ["tree", "place", "path", "look"] (spWkG K cs CT CP CC CR CL) := by
  refine F.ok scWk (fun vs H Q E h => ?_) (fun cdv A outer s H vs Q E hr h => ?_)
  · obtain ⟨t, qs, nds, g, p, lk, ss, ab, fl, fo, la, ow, rfl, _⟩ := h
    rfl
  · obtain ⟨t, qs, nds, g, p, lk, ss, ab, fl, fo, la, ow, rfl, TA, hl, hfg, PA, LA, hsl, k⟩ := h
    have hr4 : Room 4 _ := hr.mono (by decide)
    have hr8 : Room 8 _ := hr.mono (by decide)
    have hr5 : Room 5 _ := hr.mono (by decide)
    have hr9 : Room 9 _ := hr
    obtain ⟨x, hn, hc⟩ := id hfg
    refine ⟨_, (pss_cons (ps_expr (pe_call GP hr4 (by rfl) TX.g_pl TX.kp_pl bP .nil pass0 (pa_cons (pv 0) (pa_cons (pv 1) pa_nil))))
  (pss_one (ps_ret (pe_call GE hr9 (by rfl) T.gend T.kend bE .nil pass0 (pa_cons (pe_make MV GV hr8 (by rfl) TV.gV bV .nil pass0 (pa_cons (pv 0) pa_nil)) (pa_cons (pe_call GB hr5 (by rfl) T.gbgn T.kbgn bB .nil pass0 (pa_cons (pv 1) (pa_cons (pv 2) (pa_cons (pv 3) pa_nil)))) pa_nil)))))), ?_⟩
    refine ⟨_, rfl, _, rfl, t, qs, nds, g, x, rfl, TA, hn, hc, fun H1 s1 => ?_⟩
    refine ⟨_, rfl, fun v dx nv ndx nex => ⟨v, dx, t, qs, nds, H1, rfl, upd_same, nv, new_ext (C := CV) nv ndx, TA.same s1, hl, fun H2 N s2 VA => ⟨rfl, ?_⟩⟩⟩
    refine ⟨_, rfl, _, rfl, _, rfl, g, .ref lk, p, ss, ab, fl, rfl, ⟨let ⟨a, b, c, d⟩ := PA.ob; ⟨a, b, s2 _ _ (s1 _ _ c), Same.sqT (s1.trans s2) d⟩⟩, fun H3 e s3 GW => ?_⟩
    refine ⟨v, e, lk, _, ss, fl, 0, N, qs, nds, fo, la, ow, rfl, GW, VA.same s3, LA.same (s1.trans (s2.trans s3)), by omega, by omega, fun _ => ?_, fun H4 r res s4 hR hA => k H4 r res (s1.trans (s2.trans (s3.trans s4))) hR hA⟩
    have W := VA.tr.wf
    cases ab with
    | true =>
      obtain ⟨o', es, h⟩ := W.base.root
      exact ⟨_, h, .inl rfl⟩
    | false => exact hfg
end
end NW

set_option maxRecDepth 100000
set_option maxHeartbeats 400000
namespace NW
open PySem L2 NG TR LamX
abbrev sLkI : Stmt := inClass (top 46) 0
def OwnL' (K : PySem.W.Frag) (H : Hp) (ow : V) : Prop := ow = .non ∨ ∃ (L : Addr) (ns : List Int), ow = .ref L ∧ SqL K H L (ns.map V.int) ∧ (∀ n ∈ ns, 0 ≤ n) ∧ ns.length ≤ 100
def OwnO (K : PySem.W.Frag) (H : Hp) (ow : V) : Option (List Int) → Prop
  | none => ow = .non
  | some ns => ∃ L : Addr, ow = .ref L ∧ SqL K H L (ns.map V.int) ∧ (∀ n ∈ ns, 0 ≤ n) ∧ ns.length ≤ 100
def spLkG (K : PySem.W.Frag) (CL : Addr) : Sp := fun vs H Q _ => ∃ (p dx : Addr) (fo la : Bool) (ow : V) (oo : Option (List Int)) (H0 : Hp), vs = [.ref p, .bl fo, .bl la, ow] ∧ H p = some (.ins CL dx []) ∧ H0 p = none ∧ Same H0 H ∧ OwnO K H0 ow oo ∧ ∀ H', Same H0 H' → LookAt K CL H' p fo la oo → Q .non H'
structure TxtLk (K : PySem.W.Frag) (mg : Str → Option Value) (CL fWk fSt : Addr) : Prop where
  clL : Cls K CL
  n1 : NoAttr K CL "follow"
  n2 : NoAttr K CL "last"
  n3 : NoAttr K CL "owners"
  gL : mg "Look" = some (.ref CL)
  gwk : mg "walk" = some (.ref fWk)
  kwk : PySem.W.keepIn K (.ref fWk) = true
section
variable {P : Program} {w : World} {K : PySem.W.Frag} {mg : Str → Option Value} {base : Heap} {fNum fAt fDigit fPool fBy fMay fWE fStood fBad fOwner fWN CC CG CP CL CT CV CB CNN fNNI fCk fPl fHm fRead fCmI fBeg fBgn fEnd fWk fSt f : Addr} {cs : Nat → Addr}
theorem scLkI : FnScope ["self", "follow", "last", "owners", "owner"] ["self", "follow", "last", "owners"] (defScope sLkI) := ⟨rfl, rfl, rfl, by decide +kernel, rfl, by decide +kernel, by decide +kernel⟩
theorem ok_lkG {fd fdO : FuncData} (F : Fun K "__init__" "Look.__init__" sLkI f fd) (TS : TxtS K mg fBy) (TW : TxtW K mg fMay fWE fStood fBad fOwner fWN) (TL : TxtLk K mg CL fWk fSt) (GO : FnOk P w K mg base CX0 2 fOwner fdO ["value"] spOwner) (bO : Binds K fdO ["value"] []) :
    FnOk P w K mg base CX0 3 f fd ["self", "follow", "last", "owners"] (spLkG K CL) := by
  have nd := scLkI.nd
  refine F.ok scLkI (fun vs H Q E h => ?_) (fun cdv A outer s H vs Q E hr h => ?_)
  · obtain ⟨p, dx, fo, la, ow, oo, H0, rfl, _⟩ := h
    rfl
  · obtain ⟨p, dx, fo, la, ow, oo, H0, rfl, hp, fp, s0, hO, k⟩ := h
    have hr2 : Room 2 _ := hr
    have hs : sizeLine = 16777216 := sizeLine_eq
    have up : ∀ {H' : Hp} {o : HO}, Same H0 H' → Same H0 (upd H' p o) := fun {H' o} s b u e => by rw [upd_ne (ne_of_none e fp)]; exact s _ _ e
    refine ⟨_, (pss_cons (ps_fld (pv 0) (pv 1) rfl)
  (pss_cons (ps_fld (pv 0) (pv 2) rfl)
  (pss_cons (ps_fld (pv 0) (pe_ifExp (pt_cmp (pc_isN (pv 3))) pe_non (pe_callTy call_tuple_of (by rfl) TS.m_tuple (by decide +kernel) (pa_cons (pv 3) pa_nil))) rfl)
  (pss_one (ps_for PassesOwn.never rfl (pi_tup (pe_orT (pe_fld (pv 0) rfl) (pe_one (pe_tup pa_nil)))) (pg_name (i := 4) nd rfl (Or.inl rfl))
  (pss_one (ps_if (pt_not (pt_val (pe_call GO hr2 (by rfl) TW.g_is_owner TW.kp_is_owner bO .nil pass0 (pa_cons (pv 4) pa_nil)))) (pss_one ps_dead) pss_nil))))))), ?_⟩
    refine ⟨_, rfl, _, rfl, p, CL, dx, _, rfl, hp, TL.clL, TL.n1, (by show 0 < 1000; decide), ?_⟩
    have s1 := up (o := .ins CL dx (putF "follow" (.bl fo) [])) s0
    have p1 : (upd H p (.ins CL dx (putF "follow" (.bl fo) []))) p = some (.ins CL dx (putF "follow" (.bl fo) [])) := upd_same
    generalize upd H p (.ins CL dx (putF "follow" (.bl fo) [])) = H1 at s1 p1 ⊢
    have l1 : (putF "follow" (V.bl fo) []).length ≤ 1 := len_putF "follow" (V.bl fo) []
    have k1 : (putF "follow" (V.bl fo) []).lookup ("follow" : Str) = some (.bl fo) := by rw [lookup_putF, if_pos rfl]
    generalize putF "follow" (V.bl fo) [] = F1 at p1 l1 k1 ⊢
    refine ⟨_, rfl, _, rfl, p, CL, dx, _, rfl, p1, TL.clL, TL.n2, (by omega), ?_⟩
    have s2 := up (o := .ins CL dx (putF "last" (.bl la) F1)) s1
    have p2 : (upd H1 p (.ins CL dx (putF "last" (.bl la) F1))) p = some (.ins CL dx (putF "last" (.bl la) F1)) := upd_same
    generalize upd H1 p (.ins CL dx (putF "last" (.bl la) F1)) = H2 at s2 p2 ⊢
    have l2 : (putF "last" (V.bl la) F1).length ≤ 2 := by have := len_putF "last" (V.bl la) F1; omega
    have k2 : (putF "last" (V.bl la) F1).lookup ("follow" : Str) = some (.bl fo) := by rw [lookup_putF, if_neg (by decide +kernel)]; exact k1
    have k3 : (putF "last" (V.bl la) F1).lookup ("last" : Str) = some (.bl la) := by rw [lookup_putF, if_pos rfl]
    generalize putF "last" (V.bl la) F1 = F2 at p2 l2 k2 k3 ⊢
    cases oo with
    | none =>
      obtain rfl : ow = V.non := hO
      have LK : ∀ H' : Hp, H' p = some (.ins CL dx (putF "owners" .non F2)) → LookAt K CL H' p fo la none := fun H' e => ⟨dx, _, e, by rw [lookup_putF, if_neg (by decide +kernel)]; exact k2, by rw [lookup_putF, if_neg (by decide +kernel)]; exact k3, by show List.lookup _ _ = _; rw [lookup_putF, if_pos rfl]⟩
      refine ⟨_, rfl, _, rfl, ?_⟩
      rw [decide_eq_true (rfl : V.non = V.non)]
      refine iteT ⟨_, rfl, p, CL, dx, _, rfl, p2, TL.clL, TL.n3, (by omega), ?_⟩
      have s3 := up (o := .ins CL dx (putF "owners" .non F2)) s2
      have p3 : (upd H2 p (.ins CL dx (putF "owners" .non F2))) p = some (.ins CL dx (putF "owners" .non F2)) := upd_same
      generalize upd H2 p (.ins CL dx (putF "owners" .non F2)) = H3 at s3 p3 ⊢
      refine ⟨_, rfl, p, CL, dx, _, V.non, rfl, p3, TL.clL, TL.n3, (by rw [lookup_putF, if_pos rfl]), false, rfl, ?_⟩
      refine iteF ⟨(by show 0 ≤ sizeLine; omega), fun T hT => ⟨T, rfl, ⟨_, SqT.of upd_same⟩, for_it (walk_tup (K := K) (a := T) (xs := [])) (fun i σ H' => Same H0 H' ∧ H' T = some (.tup []) ∧ H' p = some (.ins CL dx (putF "owners" .non F2))) ⟨s3.trans (NG.Same.upd hT), upd_same, (NG.Same.upd hT) _ _ p3⟩ (fun i σ H' _ h => SqT.of h.2.1) (fun i x σ H' H'' hi _ _ => by cases hi) (fun σ H' h => k _ h.1 (LK _ h.2.2))⟩⟩
    | some ns =>
      obtain ⟨L, rfl, hL, hn, hl⟩ := hO
      refine ⟨_, rfl, _, rfl, ?_⟩
      rw [decide_eq_false (fun z : V.ref L = V.non => by cases z)]
      refine iteF ⟨_, rfl, L, _, rfl, .inl ⟨Same.seq s2 hL, fun T hT => ?_⟩⟩
      have sT := NG.Same.upd (o := HO.tup (ns.map V.int)) hT
      have eT : (upd H2 T (.tup (ns.map V.int))) T = some (.tup (ns.map V.int)) := upd_same
      have sT0 := s2.trans sT
      have pT := sT _ _ p2
      generalize upd H2 T (.tup (ns.map V.int)) = H2' at sT eT sT0 pT ⊢
      refine ⟨_, rfl, p, CL, dx, _, rfl, pT, TL.clL, TL.n3, (by omega), ?_⟩
      have nTp : T ≠ p := ne_of eT pT (fun z => by cases z)
      have LK : ∀ H' : Hp, H' p = some (.ins CL dx (putF "owners" (.ref T) F2)) → H' T = some (.tup (ns.map V.int)) → LookAt K CL H' p fo la (some ns) := fun H' e e' => ⟨dx, _, e, by rw [lookup_putF, if_neg (by decide +kernel)]; exact k2, by rw [lookup_putF, if_neg (by decide +kernel)]; exact k3, T, by rw [lookup_putF, if_pos rfl], SqT.of e'⟩
      have s3 := up (o := .ins CL dx (putF "owners" (.ref T) F2)) sT0
      have p3 : (upd H2' p (.ins CL dx (putF "owners" (.ref T) F2))) p = some (.ins CL dx (putF "owners" (.ref T) F2)) := upd_same
      have e3 : (upd H2' p (.ins CL dx (putF "owners" (.ref T) F2))) T = some (.tup (ns.map V.int)) := by rw [upd_ne nTp]; exact eT
      generalize upd H2' p (.ins CL dx (putF "owners" (.ref T) F2)) = H3 at s3 p3 e3 ⊢
      refine ⟨_, rfl, p, CL, dx, _, V.ref T, rfl, p3, TL.clL, TL.n3, (by rw [lookup_putF, if_pos rfl]), !(ns.map V.int).isEmpty, .inr (.inl ⟨_, SqT.of e3, rfl⟩), ?_⟩
      cases ns with
      | nil => exact iteF ⟨(by show 0 ≤ sizeLine; omega), fun T2 hT2 => ⟨T2, rfl, ⟨_, SqT.of upd_same⟩, for_it (walk_tup (K := K) (a := T2) (xs := [])) (fun i σ H' => Same H0 H' ∧ H' T2 = some (.tup []) ∧ H' p = some (.ins CL dx (putF "owners" (.ref T) F2)) ∧ H' T = some (.tup [])) ⟨s3.trans (NG.Same.upd hT2), upd_same, (NG.Same.upd hT2) _ _ p3, (NG.Same.upd hT2) _ _ e3⟩ (fun i σ H' _ h => SqT.of h.2.1) (fun i x σ H' H'' hi _ _ => by cases hi) (fun σ H' h => k _ h.1 (LK _ h.2.2.1 h.2.2.2))⟩⟩
      | cons n ns =>
        refine iteT ⟨T, rfl, ⟨_, SqT.of e3⟩, for_it (walk_tup (K := K) (a := T) (xs := (n :: ns).map V.int)) (fun i σ H' => (∃ v4, σ = [some (.ref p), some (.bl fo), some (.bl la), some (.ref L), v4]) ∧ Same H0 H' ∧ H' T = some (.tup ((n :: ns).map V.int)) ∧ H' p = some (.ins CL dx (putF "owners" (.ref T) F2))) ⟨⟨_, rfl⟩, s3, e3, p3⟩ (fun i σ H' _ h => SqT.of h.2.2.1) ?_ (fun σ H' h => k _ h.2.1 (LK _ h.2.2.2 h.2.2.1))⟩
        rintro i x σ H4 H5 hi ⟨⟨v4, rfl⟩, s4, e4, p4⟩ ⟨rfl, hx⟩
        obtain ⟨m, hm, rfl⟩ : ∃ m ∈ n :: ns, x = V.int m := by
          obtain ⟨m, hm, e⟩ := List.mem_map.mp (List.mem_of_getElem? hx)
          exact ⟨m, hm, e.symm⟩
        refine ⟨_, rfl, m, rfl, _, rfl, ?_⟩
        rw [decide_eq_true (hn m hm)]
        exact iteF ⟨⟨_, rfl⟩, s4, e4, p4⟩
end
end NW

set_option maxRecDepth 100000
set_option maxHeartbeats 400000
namespace NW
open PySem L2 NG TR LamX
/-! ### walks have one answer -/
theorem cntE_pos {es : List (Str × Nat)} {e : Str × Nat} (h : e ∈ es) : 0 < cntE es e.2 := by
  unfold cntE
  exact List.countP_pos_iff.mpr ⟨e, h, by simp⟩
theorem up_one {nds : List Nd} {g i j : Nat} (W : WF LinkText PL nds) (hg : FolG nds g) (hi : UpIs nds g i) (hj : UpIs nds g j) : i = j := by
  obtain ⟨o0, es0, h0⟩ := W.base.root
  obtain ⟨ng, hng, hcl⟩ := hg
  have key : ∀ {k : Nat} {o : Int} {es : List (Str × Nat)} {e : Str × Nat}, nds[k]? = some (.fol o es) → e ∈ es → e.2 = g → ∀ o', nds[g]? ≠ some (.gon o' i) ∧ nds[g]? ≠ some (.gon o' j) := fun {k o es e} hk he eg o' => by
    obtain ⟨_, _, nd', hn, hg⟩ := W.base.ent k _ hk e he
    rw [eg] at hn
    constructor <;> (intro q; rw [q] at hn; cases hn; cases hg)
  rcases hi with ⟨rfl, rfl⟩ | ⟨o, h⟩ | ⟨hg, o, es, e, h, he, eg⟩
  · rcases hj with ⟨_, rfl⟩ | ⟨o, h⟩ | ⟨hg, _⟩
    · rfl
    · rw [h0] at h; cases h
    · omega
  · rcases hj with ⟨rfl, rfl⟩ | ⟨o', h'⟩ | ⟨hg, o', es, e, h', he, eg⟩
    · rw [h0] at h; cases h
    · rw [h] at h'; cases h'; rfl
    · exact absurd h (key h' he eg o).1
  · rcases hj with ⟨rfl, rfl⟩ | ⟨o', h'⟩ | ⟨_, o', es', e', h', he', eg'⟩
    · omega
    · exact absurd h' (key h he eg o').2
    · by_cases hij : i = j
      · exact hij
      · exfalso
        obtain ⟨_, _, nd', hn, hgn⟩ := W.base.ent i _ h e he
        have h1 := cntE_pos he
        have h2 := cntE_pos he'
        have h3 := cnt_two (k := g) h h' hij
        rw [eg] at h1 hn
        rw [eg'] at h2
        change cntE es g + cntE es' g ≤ cnt nds g at h3
        rw [hng] at hn
        cases hn
        cases ng with
        | fol o2 es2 =>
          have := W.once g _ hg hng rfl
          omega
        | fil o2 => rcases hcl with q | q <;> cases q
        | lnk o2 z => rcases hcl with q | q <;> cases q
        | gon o2 ab => cases hgn
theorem lk_one {nds : List Nd} {g : Nat} {z : Str} {i j : Nat} {a b : Nd} (W : WF LinkText PL nds) (hg : FolG nds g) (h : Lk nds g z i a) (h' : Lk nds g z j b) : i = j ∧ a = b := by
  have e : i = j := by
    rcases h.2 with ⟨ez, u⟩ | ⟨ez, n0, en, h1, h2, rfl⟩
    · rcases h'.2 with ⟨_, u'⟩ | ⟨ez', _⟩
      · exact up_one W hg u u'
      · exact absurd ez ez'
    · rcases h'.2 with ⟨ez', _⟩ | ⟨_, n1, en', h1', h2', rfl⟩
      · exact absurd ez' ez
      · rw [h1] at h1'
        cases h1'
        rw [h2] at h2'
        cases h2'
        rfl
  subst e
  have e1 := h.1
  rw [h'.1] at e1
  cases e1
  exact ⟨rfl, rfl⟩
theorem lk_none {nds : List Nd} {g : Nat} {z : Str} {i : Nat} {a nd0 : Nd} (h : Lk nds g z i a) (h1 : z ≠ (".." : Str)) (h2 : nds[g]? = some nd0) (h3 : nd0.ents.find? (fun e => e.1 == z) = .none) : False := by
  rcases h.2 with ⟨ez, _⟩ | ⟨_, n0, en, q1, q2, _⟩
  · exact h1 ez
  · rw [h2] at q1
    cases q1
    rw [h3] at q2
    cases q2
theorem run_one {nds : List Nd} {fo la : Bool} {ow : Option (List Int)} {g : Nat} {xs : List Str} {wa : Bool} {li : Nat} {r r' : Nat ⊕ Str} (W : WF LinkText PL nds) (hli : li ≤ 8) (hg : xs ≠ [] → FolG nds g) (h : Run nds fo la ow g xs wa li r) (h' : Run nds fo la ow g xs wa li r') : r = r' := by
  induction h with
  | came g wa li => cases h'; rfl
  | none h1 h2 h3 =>
    cases h' with
    | none => rfl
    | ref l _ => exact (lk_none l h1 h2 h3).elim
    | go l _ _ => exact (lk_none l h1 h2 h3).elim
  | ref l t =>
    cases h' with
    | none h1 h2 h3 => exact (lk_none l h1 h2 h3).elim
    | ref l' t' =>
      obtain ⟨rfl, rfl⟩ := lk_one W (hg (by simp)) l l'
      rw [t] at t'
      cases t'
      rfl
    | go l' t' _ =>
      obtain ⟨rfl, rfl⟩ := lk_one W (hg (by simp)) l l'
      rw [t] at t'
      cases t'
  | go l t k ih =>
    cases h' with
    | none h1 h2 h3 => exact (lk_none l h1 h2 h3).elim
    | ref l' t' =>
      obtain ⟨rfl, rfl⟩ := lk_one W (hg (by simp)) l l'
      rw [t] at t'
      cases t'
    | go l' t' k' =>
      have hgz := hg (by simp)
      obtain ⟨rfl, rfl⟩ := lk_one W hgz l l'
      rw [t] at t'
      cases t'
      obtain ⟨a1, _, a3⟩ := taken_go (LT := LinkText) (PL := PL) W l.1 hgz hli t
      exact ih a1 a3 k'
/-! ### the same tree with its entries in order -/
theorem srt_find {nd : Nd} {z : Str} (hn : (nd.ents.map (·.1)).Nodup) : (srtN nd).ents.find? (fun e => e.1 == z) = nd.ents.find? (fun e => e.1 == z) := by
  rw [srtN_ents]
  have hp := srt_perm nd.ents
  cases h : nd.ents.find? (fun e => e.1 == z) with
  | none =>
    rw [List.find?_eq_none] at h ⊢
    exact fun e he => h e (hp.mem_iff.mp he)
  | some e =>
    have h1 := List.mem_of_find?_eq_some h
    have h2 := List.find?_some h
    cases h' : (srtE nd.ents).find? (fun e => e.1 == z) with
    | none =>
      rw [List.find?_eq_none] at h'
      exact absurd h2 (h' e (hp.mem_iff.mpr h1))
    | some e' =>
      have h3 := hp.mem_iff.mp (List.mem_of_find?_eq_some h')
      have h4 := List.find?_some h'
      have e1 : e.1 = e'.1 := by rw [eq_of_beq h2, eq_of_beq h4]
      congr 1
      obtain ⟨i, hi, ei⟩ := List.mem_iff_getElem.mp h3
      obtain ⟨j, hj, ej⟩ := List.mem_iff_getElem.mp h1
      have pw := List.pairwise_iff_getElem.mp hn
      by_cases hij : i = j
      · subst hij; rw [← ei, ← ej]
      · exfalso
        have mm : ∀ {a : Nat} (ha : a < nd.ents.length), (nd.ents.map (·.1))[a]'(by rw [List.length_map]; exact ha) = (nd.ents[a]).1 := fun ha => by rw [List.getElem_map]
        rcases Nat.lt_or_gt_of_ne hij with q | q
        · exact pw i j (by rw [List.length_map]; exact hi) (by rw [List.length_map]; exact hj) q (by rw [mm hi, mm hj, ei, ej, e1])
        · exact pw j i (by rw [List.length_map]; exact hj) (by rw [List.length_map]; exact hi) q (by rw [mm hi, mm hj, ei, ej, e1])
theorem srt_up {nds : List Nd} {g i : Nat} (h : UpIs nds g i) : UpIs (nds.map srtN) g i := by
  rcases h with h | ⟨o, h⟩ | ⟨hg, o, es, e, h, he, eg⟩
  · exact .inl h
  · exact .inr (.inl ⟨o, srt_get h⟩)
  · exact .inr (.inr ⟨hg, o, _, e, srt_get h, (srt_perm es).mem_iff.mpr he, eg⟩)
theorem srt_lk {nds : List Nd} {g : Nat} {z : Str} {i : Nat} {nd : Nd} (W : WF LinkText PL nds) (h : Lk nds g z i nd) : Lk (nds.map srtN) g z i (srtN nd) := by
  refine ⟨srt_get h.1, ?_⟩
  rcases h.2 with ⟨ez, u⟩ | ⟨ez, n0, en, h1, h2, e⟩
  · exact .inl ⟨ez, srt_up u⟩
  · exact .inr ⟨ez, _, en, srt_get h1, by rw [srt_find (W.base.uniq _ _ h1).1]; exact h2, e⟩
theorem taken_srt (nd : Nd) (fo la : Bool) (ow : Option (List Int)) (k g : Nat) (xs : List Str) (wa : Bool) (li : Nat) : takenN (srtN nd) fo la ow k g xs wa li = takenN nd fo la ow k g xs wa li := by
  cases nd <;> rfl
theorem srt_run {nds : List Nd} {fo la : Bool} {ow : Option (List Int)} {g : Nat} {xs : List Str} {wa : Bool} {li : Nat} {r : Nat ⊕ Str} (W : WF LinkText PL nds) (h : Run nds fo la ow g xs wa li r) : Run (nds.map srtN) fo la ow g xs wa li r := by
  induction h with
  | came g wa li => exact .came g wa li
  | none h1 h2 h3 => exact .none h1 (srt_get h2) (by rw [srt_find (W.base.uniq _ _ h2).1]; exact h3)
  | ref l t => exact .ref (srt_lk W l) (by rw [taken_srt]; exact t)
  | go l t _ ih => exact .go (srt_lk W l) (by rw [taken_srt]; exact t) ih
/-! ### a walk in two parts -/
def NoEmp (xs : List Str) : Prop := xs ≠ []
theorem taken_two {nd : Nd} {fo la : Bool} {ow : Option (List Int)} {i g : Nat} {xs ys : List Str} {wa : Bool} {li : Nat} (hy : ys ≠ []) :
    (∀ why, takenN nd fo la ow i g xs true li = .ref why → takenN nd fo la ow i g (xs ++ ys) wa li = .ref why) ∧
    (∀ g' xs' wa' li', takenN nd fo la ow i g xs true li = .go g' xs' wa' li' → wa' = true ∧ takenN nd fo la ow i g (xs ++ ys) wa li = .go g' (xs' ++ ys) wa li' ∧ ((∃ o es, nd = .fol o es ∧ g' = i) ∨ (∃ o ab, nd = .gon o ab ∧ g' = i) ∨ g' = 0 ∨ g' = g)) := by
  have hne : (xs ++ ys).isEmpty = false := by
    cases xs with
    | nil => cases ys with
      | nil => exact absurd rfl hy
      | cons a b => rfl
    | cons a b => rfl
  unfold takenN
  by_cases ho : hasOwn ow nd.owner = false
  · rw [if_pos ho, if_pos ho]
    exact ⟨fun why h => h, fun g' xs' wa' li' h => by cases h⟩
  · rw [if_neg ho, if_neg ho]
    cases nd with
    | fol o es =>
      dsimp only
      exact ⟨(fun why h => by cases h), fun g' xs' wa' li' h => by injection h with h1 h2 h3 h4; subst h1 h2 h3 h4; exact ⟨rfl, rfl, .inl ⟨o, es, rfl, rfl⟩⟩⟩
    | gon o ab =>
      dsimp only
      exact ⟨(fun why h => by cases h), fun g' xs' wa' li' h => by injection h with h1 h2 h3 h4; subst h1 h2 h3 h4; exact ⟨rfl, rfl, .inr (.inl ⟨o, ab, rfl, rfl⟩)⟩⟩
    | fil o =>
      dsimp only
      rw [Bool.or_true, if_pos rfl, hne, Bool.not_false, Bool.true_or, if_pos rfl]
      exact ⟨fun why h => h, fun g' xs' wa' li' h => by cases h⟩
    | lnk o z =>
      dsimp only
      simp only [Bool.or_true, Bool.true_or, Bool.and_true, hne, Bool.not_false, if_true, Bool.false_and, Bool.or_false]
      cases fo with
      | false =>
        rw [if_neg Bool.false_ne_true, if_neg Bool.false_ne_true]
        exact ⟨fun why h => h, fun g' xs' wa' li' h => by cases h⟩
      | true =>
        rw [if_pos rfl, if_pos rfl]
        by_cases h8 : li = 8
        · rw [if_pos h8, if_pos h8]
          exact ⟨fun why h => h, fun g' xs' wa' li' h => by cases h⟩
        · rw [if_neg h8, if_neg h8]
          refine ⟨(fun why h => by cases h), fun g' xs' wa' li' h => ?_⟩
          injection h with h1 h2 h3 h4
          subst h1 h2 h3 h4
          refine ⟨rfl, by rw [List.append_assoc], .inr (.inr ?_)⟩
          cases absOf (partsOf z)
          · exact .inr rfl
          · exact .inl rfl
theorem run_split {nds : List Nd} {fo la : Bool} {ow : Option (List Int)} {g : Nat} {xs : List Str} {li : Nat} {r1 : Nat ⊕ Str} (W : WF LinkText PL nds) {tr : Bool} (h : Run nds fo la ow g xs tr li r1) :
    tr = true → li ≤ 8 → FolG nds g → ∀ {ys : List Str} {wa : Bool} {r : Nat ⊕ Str}, ys ≠ [] → Run nds fo la ow g (xs ++ ys) wa li r →
      (∃ why, r1 = .inr why ∧ r = .inr why) ∨ ∃ i li', r1 = .inl i ∧ li' ≤ 8 ∧ FolG nds i ∧ Run nds fo la ow i ys wa li' r := by
  induction h with
  | came g wa0 li => exact fun _ hl hg ys wa r hy h => .inr ⟨g, li, rfl, hl, hg, h⟩
  | none h1 h2 h3 =>
    intro _ hl hg ys wa r hy h
    cases h with
    | none => exact .inl ⟨_, rfl, rfl⟩
    | ref l _ => exact (lk_none l h1 h2 h3).elim
    | go l _ _ => exact (lk_none l h1 h2 h3).elim
  | ref l t =>
    intro ht hl hg ys wa r hy h
    subst ht
    have t2 := (taken_two (wa := wa) hy).1 _ t
    cases h with
    | none h1 h2 h3 => exact (lk_none l h1 h2 h3).elim
    | ref l' t' =>
      obtain ⟨rfl, rfl⟩ := lk_one W hg l l'
      have t3 := t2.symm.trans t'
      cases t3
      exact .inl ⟨_, rfl, rfl⟩
    | go l' t' _ =>
      obtain ⟨rfl, rfl⟩ := lk_one W hg l l'
      have t3 := t2.symm.trans t'
      cases t3
  | @go g0 z0 xs0 wa0 li0 i0 nd0' g1 xs1 wa1 li1 r0 l t k ih =>
    intro ht hl hg ys wa r hy h
    subst ht
    obtain ⟨hwt, t2, hfo⟩ := (taken_two (wa := wa) hy).2 _ _ _ _ t
    obtain ⟨a1, _, _⟩ := taken_go (LT := LinkText) (PL := PL) W l.1 hg hl t
    have hg' : FolG nds g1 := by
      rcases hfo with ⟨o, es, e, q⟩ | ⟨o, ab, e, q⟩ | q | q
      · exact ⟨nd0', by rw [q]; exact l.1, .inl (by rw [e]; rfl)⟩
      · exact ⟨nd0', by rw [q]; exact l.1, .inr (by rw [e]; rfl)⟩
      · obtain ⟨o', es, h0⟩ := W.base.root
        exact ⟨.fol o' es, by rw [q]; exact h0, .inl rfl⟩
      · rw [q]; exact hg
    cases h with
    | none h1 h2 h3 => exact (lk_none l h1 h2 h3).elim
    | ref l' t' =>
      obtain ⟨rfl, rfl⟩ := lk_one W hg l l'
      have t3 := t2.symm.trans t'
      cases t3
    | go l' t' k' =>
      obtain ⟨rfl, rfl⟩ := lk_one W hg l l'
      have t3 := t2.symm.trans t'
      cases t3
      exact ih hwt a1 hg' hy k'
/-- with fewer links followed before, a walk that isn't refused for them comes to the same -/
theorem run_fewer {nds : List Nd} {fo la : Bool} {ow : Option (List Int)} {g : Nat} {xs : List Str} {wa : Bool} {li : Nat} {r : Nat ⊕ Str} (h : Run nds fo la ow g xs wa li r) : r ≠ .inr "links" → li ≤ 8 → ∀ l0, l0 ≤ li → Run nds fo la ow g xs wa l0 r := by
  induction h with
  | came g wa li => exact fun _ _ l0 _ => .came g wa l0
  | none h1 h2 h3 => exact fun _ _ l0 _ => .none h1 h2 h3
  | ref l t =>
    intro hr hl l0 h0
    refine .ref l ?_
    rename_i g z xs wa li i nd why
    unfold takenN at t ⊢
    by_cases ho : hasOwn ow nd.owner = false
    · rw [if_pos ho] at t ⊢; exact t
    · rw [if_neg ho] at t ⊢
      cases nd with
      | fol o es => cases t
      | gon o ab => cases t
      | fil o =>
        dsimp only at t ⊢
        split at t
        · rename_i hc
          rw [if_pos hc]
          exact t
        · cases t
      | lnk o z =>
        dsimp only at t ⊢
        split at t
        · rename_i hc
          split at t
          · injection t with t; subst t; exact absurd rfl hr
          · cases t
        · rename_i hc
          rw [if_neg hc]
          split at t
          · rename_i hd
            rw [if_pos hd]
            exact t
          · cases t
  | go l t k ih =>
    intro hr hl l0 h0
    rename_i g z xs wa li i nd g' xs' wa' li' r
    have step : ∃ l1, l1 ≤ li' ∧ takenN nd fo la ow i g xs wa l0 = .go g' xs' wa' l1 := by
      unfold takenN at t ⊢
      by_cases ho : hasOwn ow nd.owner = false
      · rw [if_pos ho] at t; cases t
      · rw [if_neg ho] at t ⊢
        cases nd with
        | fol o es => dsimp only at t ⊢; injection t with t1 t2 t3 t4; subst t1 t2 t3 t4; exact ⟨l0, h0, rfl⟩
        | gon o ab => dsimp only at t ⊢; injection t with t1 t2 t3 t4; subst t1 t2 t3 t4; exact ⟨l0, h0, rfl⟩
        | fil o =>
          dsimp only at t ⊢
          split at t
          · cases t
          · rename_i hc
            rw [if_neg hc]
            injection t with t1 t2 t3 t4; subst t1 t2 t3 t4; exact ⟨l0, h0, rfl⟩
        | lnk o z =>
          dsimp only at t ⊢
          split at t
          · rename_i hc
            rw [if_pos hc]
            split at t
            · cases t
            · rename_i h8
              injection t with t1 t2 t3 t4
              subst t1 t2 t3 t4
              exact ⟨l0 + 1, by omega, by rw [if_neg (by omega)]⟩
          · rename_i hc
            rw [if_neg hc]
            split at t
            · cases t
            · rename_i hd
              rw [if_neg hd]
              injection t with t1 t2 t3 t4; subst t1 t2 t3 t4; exact ⟨l0, h0, rfl⟩
    obtain ⟨l1, hl1, t1⟩ := step
    have hli' : li' ≤ 8 := by
      unfold takenN at t
      by_cases ho : hasOwn ow nd.owner = false
      · rw [if_pos ho] at t; cases t
      · rw [if_neg ho] at t
        cases nd with
        | fol o es => injection t with t1 t2 t3 t4; omega
        | gon o ab => injection t with t1 t2 t3 t4; omega
        | fil o =>
          dsimp only at t
          split at t
          · cases t
          · injection t with t1 t2 t3 t4; omega
        | lnk o z =>
          dsimp only at t
          split at t
          · split at t
            · cases t
            · injection t with t1 t2 t3 t4; omega
          · split at t
            · cases t
            · injection t with t1 t2 t3 t4; omega
    exact .go l t1 (ih hr hli' l1 hl1)
end NW

set_option maxRecDepth 100000
set_option maxHeartbeats 400000
namespace NW
open PySem L2 NG TR LamX
/-! ### noisy texts -/
theorem app_assoc (x y z : Str) : x ++ y ++ z = x ++ (y ++ z) := by
  apply cps_ext
  rw [TL.tl_append, TL.tl_append, TL.tl_append, TL.tl_append, List.append_assoc]
theorem join_open (ds : List Str) (s : Str) : Txt.join "/" (ds ++ [("" : Str)]) ++ s = Txt.join "/" (ds ++ [s]) := by
  apply cps_ext
  rw [TL.tl_append, tl_joinT, tl_joinT, List.map_append, List.map_append, List.map_cons, List.map_nil, List.map_cons, List.map_nil, tl_empty]
  cases ds with
  | nil =>
    show TL.joinL [47] [[]] ++ TL.tl s = TL.joinL [47] [TL.tl s]
    rfl
  | cons d r =>
    have hne : (d :: r).map TL.tl ≠ [] := by simp
    rw [jl_snoc _ _ _ hne, jl_snoc _ _ _ hne]
    simp
theorem parts_big {ps : List Str} (hne : ps ≠ []) (hp : ∀ p ∈ ps, compB p = true) (hl : ps.length ≤ 1000) : PartsAre (Txt.join "/" ps) ps := by
  have h1 := len_join_le ps
  have h2 := sum_len hp
  have hs : sizeLine = 16777216 := sizeLine_eq
  exact ⟨parts_join hne hp, hne, fun p h => compB_ok (hp p h), by omega, by omega⟩
/-- a text whose last component is still empty -/
structure NzO (ab : Bool) (sts : List Str) (z : Str) (ds : List Str) : Prop where
  jn : z = Txt.join "/" (ds ++ [("" : Str)])
  ok : ∀ q ∈ ds, compB q = true ∧ badPart q = false
  st : stepsOf ds = sts
  abT : ab = true → ∃ r, ds = ("" : Str) :: r
  abF : ab = false → ∀ q r, ds = q :: r → q ≠ ("" : Str)
theorem nz0 : NzO false [] "" [] := ⟨by decide +kernel, by simp, rfl, (fun h => by cases h), fun _ q r h => by cases h⟩
theorem nz1 : NzO true [] "/" [""] := ⟨by decide +kernel, by decide +kernel, by decide +kernel, fun _ => ⟨_, rfl⟩, fun h => by cases h⟩
theorem stepsOf_app (a b : List Str) : stepsOf (a ++ b) = stepsOf a ++ stepsOf b := by unfold stepsOf; rw [List.filter_append]
/-- a component more -/
theorem nz_more {ab : Bool} {sts : List Str} {z : Str} {ds : List Str} (h : NzO ab sts z ds) {s : Str} (hs : compB s = true ∧ badPart s = false) (h0 : s ≠ ("" : Str) ∨ ds ≠ []) : NzO ab (sts ++ stepsOf [s]) (z ++ s ++ ("/" : Str)) (ds ++ [s]) := by
  refine ⟨?_, fun q hq => ?_, ?_, fun e => ?_, fun e q r hq => ?_⟩
  · rw [h.jn, join_open, join_trail (by simp)]
  · rcases List.mem_append.mp hq with h1 | h1
    · exact h.ok q h1
    · rw [List.mem_singleton.mp h1]; exact hs
  · rw [stepsOf_app, h.st]
  · obtain ⟨r, rfl⟩ := h.abT e
    exact ⟨r ++ [s], rfl⟩
  · cases ds with
    | nil =>
      rw [List.nil_append] at hq
      injection hq with h1 h2
      subst h1
      rcases h0 with h0 | h0
      · exact h0
      · exact absurd rfl h0
    | cons d r' =>
      rw [List.cons_append] at hq
      injection hq with h1 h2
      subst h1
      exact h.abF e d r' rfl
theorem st_dot : stepsOf [("." : Str)] = [] := by decide +kernel
theorem st_emp : stepsOf [("" : Str)] = [] := by decide +kernel
theorem dotOk : compB ("." : Str) = true ∧ badPart ("." : Str) = false := by decide +kernel
theorem nz_dot {ab : Bool} {sts : List Str} {z : Str} {ds : List Str} (h : NzO ab sts z ds) : NzO ab sts (z ++ ("./" : Str)) (ds ++ [("." : Str)]) := by
  have := nz_more h dotOk (.inl (by decide +kernel))
  rw [st_dot, List.append_nil, app_assoc] at this
  have e : (("." : Str) ++ ("/" : Str)) = ("./" : Str) := by decide +kernel
  rw [e] at this
  exact this
theorem nz_sl {ab : Bool} {sts : List Str} {z : Str} {ds : List Str} (h : NzO ab sts z ds) (h0 : ds ≠ []) : NzO ab sts (z ++ ("/" : Str)) (ds ++ [("" : Str)]) := by
  have := nz_more h ce_ok (.inr h0)
  rw [st_emp, List.append_nil, app_empty] at this
  exact this
/-- what stands ahead of a step -/
theorem nz_pre {ab : Bool} {sts : List Str} {z pre : Str} {ds : List Str} (h : NzO ab sts z ds) (hp : pre = ("" : Str) ∨ pre = ("./" : Str) ∨ pre = (".//./" : Str)) : ∃ ds', NzO ab sts (z ++ pre) ds' ∧ ds'.length ≤ ds.length + 3 := by
  rcases hp with rfl | rfl | rfl
  · exact ⟨ds, by rw [app_empty]; exact h, by omega⟩
  · exact ⟨_, nz_dot h, by simp⟩
  · refine ⟨ds ++ [("." : Str)] ++ [("" : Str)] ++ [("." : Str)], ?_, ?_⟩
    · have e : (".//./" : Str) = ("./" : Str) ++ ("/" : Str) ++ ("./" : Str) := by decide +kernel
      rw [e, ← app_assoc, ← app_assoc]
      exact nz_dot (nz_sl (nz_dot h) (by simp))
    · simp
/-- what stands between two steps -/
theorem nz_sep {ab : Bool} {sts : List Str} {z sep s : Str} {ds : List Str} (h : NzO ab sts z ds) (hs : compB s = true ∧ badPart s = false) (hp : plain s = false) (hq : sep = ("/" : Str) ∨ sep = ("//" : Str) ∨ sep = ("/./" : Str)) : ∃ ds', NzO ab (sts ++ [s]) (z ++ s ++ sep) ds' ∧ ds'.length ≤ ds.length + 2 := by
  have hne : s ≠ ("" : Str) := fun q => by subst q; revert hp; decide +kernel
  have e1 : stepsOf [s] = [s] := by unfold stepsOf; simp [hp]
  have h1 := nz_more h hs (.inl hne)
  rw [e1] at h1
  rcases hq with rfl | rfl | rfl
  · exact ⟨_, h1, by simp⟩
  · refine ⟨ds ++ [s] ++ [("" : Str)], ?_, ?_⟩
    · have e : ("//" : Str) = ("/" : Str) ++ ("/" : Str) := by decide +kernel
      rw [e, ← app_assoc]
      exact nz_sl h1 (by simp)
    · simp
  · refine ⟨ds ++ [s] ++ [("." : Str)], ?_, ?_⟩
    · have e : ("/./" : Str) = ("/" : Str) ++ ("./" : Str) := by decide +kernel
      rw [e, ← app_assoc]
      exact nz_dot h1
    · simp
/-- how a text is read -/
structure Reads (z : Str) (sts : List Str) (ab fo : Bool) : Prop where
  rd : ∃ ps, PartsAre z ps ∧ stepsOf ps = sts ∧ absOf ps = ab ∧ folOf ps = fo
  bad : badP z = none
theorem abs_of {ab : Bool} {sts : List Str} {z : Str} {ds : List Str} (h : NzO ab sts z ds) {s : Str} (hs : s ≠ ("" : Str) ∨ ds ≠ []) : absOf (ds ++ [s]) = ab := by
  cases ab with
  | true =>
    obtain ⟨r, rfl⟩ := h.abT rfl
    show decide (("" : Str) = ("" : Str)) = true
    exact decide_eq_true rfl
  | false =>
    cases ds with
    | nil =>
      show decide (s = ("" : Str)) = false
      rcases hs with hs | hs
      · exact decide_eq_false hs
      · exact absurd rfl hs
    | cons d r =>
      show decide (d = ("" : Str)) = false
      exact decide_eq_false (h.abF rfl d r rfl)
theorem fol_last (ds : List Str) (s : Str) : folOf (ds ++ [s]) = fol3 s := by
  unfold folOf
  rw [List.getLast?_append]
  rfl
theorem reads_of {z : Str} {ps sts : List Str} {ab fo : Bool} (hz : z = Txt.join "/" ps) (hne : ps ≠ []) (ok : ∀ q ∈ ps, compB q = true ∧ badPart q = false) (hl : ps.length ≤ 1000) (h1 : stepsOf ps = sts) (h2 : absOf ps = ab) (h3 : folOf ps = fo) (h0 : sts ≠ []) : Reads z sts ab fo := by
  have P : PartsAre z ps := by subst hz; exact parts_big hne (fun p hp => (ok p hp).1) hl
  refine ⟨⟨ps, P, h1, h2, h3⟩, ?_⟩
  unfold badP
  have nz : z ≠ ("" : Str) := fun q => by
    have e := P.sp
    rw [q, show partsOf ("" : Str) = [("" : Str)] from by decide +kernel] at e
    subst e
    rw [st_emp] at h1
    exact h0 h1.symm
  rw [if_neg nz, P.sp]
  exact goBad_of fun p hp => (ok p hp).2
/-- the end of a noisy text -/
theorem nz_end {ab fo : Bool} {sts : List Str} {z s : Str} {ds : List Str} (h : NzO ab sts z ds) (hs : compB s = true ∧ badPart s = false) (hp : plain s = false) (hl : ds.length ≤ 900) (hf : fo = false → s ≠ (".." : Str)) : Reads (z ++ s ++ (if fo = true then ("/" : Str) else ("" : Str))) (sts ++ [s]) ab fo := by
  have hne : s ≠ ("" : Str) := fun q => by subst q; revert hp; decide +kernel
  have e1 : stepsOf [s] = [s] := by unfold stepsOf; simp [hp]
  cases fo with
  | true =>
    rw [if_pos rfl]
    have h1 := nz_more h hs (.inl hne)
    rw [e1] at h1
    refine reads_of h1.jn (by simp) (fun q hq => ?_) (by simp; omega) ?_ (abs_of h1 (.inr (by simp))) ?_ (by simp)
    · rcases List.mem_append.mp hq with hq | hq
      · exact h1.ok q hq
      · rw [List.mem_singleton.mp hq]; exact ce_ok
    · rw [stepsOf_app, h1.st, st_emp, List.append_nil]
    · rw [fol_last]; decide +kernel
  | false =>
    rw [if_neg Bool.false_ne_true, app_empty]
    refine reads_of (ps := ds ++ [s]) (by rw [h.jn, join_open]) (by simp) (fun q hq => ?_) (by simp; omega) ?_ (abs_of h (.inl hne)) ?_ (by simp)
    · rcases List.mem_append.mp hq with hq | hq
      · exact h.ok q hq
      · rw [List.mem_singleton.mp hq]; exact hs
    · rw [stepsOf_app, h.st, e1]
    · rw [fol_last]
      unfold fol3
      unfold plain at hp
      rw [Bool.or_eq_false_iff] at hp
      rw [hp.1, hp.2, Bool.false_or, Bool.false_or]
      exact beq_eq_false_iff_ne.mpr (hf rfl)
end NW

set_option maxRecDepth 100000
set_option maxHeartbeats 1000000
namespace NW
open PySem L2 NG TR LamX
abbrev sText : Stmt := top 20
abbrev sRfE : Stmt := inClass (top 48) 1
abbrev sSs : Stmt := top 63
abbrev sNo : Stmt := top 64
def tCutT (t : TT) : TT := fun σ H Q => ∃ R : Bool → Hp → Prop, t σ H R ∧ ∀ b H1, R b H1 → Q b H1
theorem pt_cut {X : Cx} {e : Expr} {t : TT} (h : PT X e t) : PT X e (tCutT t) :=
  ⟨fun pins s σ H Q I ⟨R, h1, h2⟩ => thn (h.run pins s σ H R I h1) fun b s1 ⟨H', I', q⟩ => ⟨H', I', h2 b H' q⟩⟩
def tCutE (t : TE) : TE := fun σ H Q => ∃ R : V → Hp → Prop, t σ H R ∧ ∀ v H1, R v H1 → Q v H1
theorem pe_cut {X : Cx} {e : Expr} {t : TE} (h : PE X e t) : PE X e (tCutE t) :=
  ⟨fun pins s σ H Q I ⟨R, h1, h2⟩ => thn (h.run pins s σ H R I h1) fun b s1 ⟨v, H', I', r, q⟩ => ⟨v, H', I', r, h2 v H' q⟩⟩
theorem op_orR {X : Cx} {f : Value → Value → Sem Value} {r r' : R2} (h : OpR X f r) (h' : OpR X f r') : OpR X f (fun x y H Q => r x y H Q ∨ r' x y H Q) := by
  intro pins s σ H x y v u Q I rx ry q
  rcases q with q | q
  · exact h pins s σ H x y v u Q I rx ry q
  · exact h' pins s σ H x y v u Q I rx ry q
structure EqC (K : PySem.W.Frag) (C f : Addr) : Prop where
  e1 : PySem.W.findIn K (.ref C) "__eq__" = some (some (.ref f))
  e2 : PySem.W.isFn K (.ref f) = true
  e3 : PySem.W.subIn K (.ref C) (.type "object") = some true
  e4 : PySem.W.findIn K (.ref C) "__ne__" = some (some (.builtin "object.__ne__"))
theorem kit_self {K : PySem.W.Frag} {C : Addr} : PySem.W.kitOne K (.ref C) (.ref C) = some true := by unfold PySem.W.kitOne; rw [if_pos (by simp)]
theorem nf_self {K : PySem.W.Frag} {C : Addr} : PySem.W.notFirst K C (.ref C) = true := by simp [PySem.W.notFirst]
/-- results of both classes -/
structure TwoC (K : PySem.W.Frag) (CC CR : Addr) : Prop where
  tc : TyC K CC
  tr : TyC K CR
  k1 : PySem.W.kitOne K (.ref CC) (.ref CR) = some false
  k2 : PySem.W.kitOne K (.ref CR) (.ref CC) = some false
  n1 : PySem.W.notFirst K CC (.ref CR) = true
  n2 : PySem.W.notFirst K CR (.ref CC) = true
theorem ResAt.same {CC CR : Addr} {H H' : Hp} {r : Addr} {res : Nat ⊕ Str} (h : ResAt CC CR H r res) (s : Same H H') : ResAt CC CR H' r res := by
  cases res with
  | inl i => obtain ⟨d, e⟩ := h; exact ⟨d, s _ _ e⟩
  | inr why => obtain ⟨d, e⟩ := h; exact ⟨d, s _ _ e⟩
def spResE (C CC CR : Addr) : Sp := fun vs H Q _ => ∃ (p q : Addr) (r1 r2 : Nat ⊕ Str), vs = [.ref p, .ref q] ∧ (match r1 with | .inl _ => C = CC | .inr _ => C = CR) ∧ ResAt CC CR H p r1 ∧ ResAt CC CR H q r2 ∧ Q (.bl (decide (r1 = r2))) H
def textP (xs : List Str) (ab fo : Bool) : Str :=
  let t1 := if ab then ("/" : Str) ++ Txt.join "/" xs else Txt.join "/" xs
  let t2 := if fo && endsName xs then t1 ++ ("/" : Str) else t1
  if t2 = ("" : Str) then (".":Str) else t2
def spText (K : PySem.W.Frag) (C : Addr) : Sp := fun vs H Q _ => ∃ (p : Addr) (xs : List Str) (ab fo : Bool), vs = [.ref p] ∧ PathAt K C H p xs ab fo ∧ (xs.map (·.length)).sum + xs.length ≤ 1000000 ∧ Q (.str (textP xs ab fo)) H
theorem dpAll_strs {K : PySem.W.Frag} {H : Hp} : ∀ xs : List Str, DpAll K H (xs.map V.str) (xs.map PyData.str)
  | [] => .nil
  | x :: r => .cons (.str x) (dpAll_strs r)
theorem dp_tup {K : PySem.W.Frag} {H : Hp} {a : Addr} {xs : List Str} (h : SqT K H a (xs.map V.str)) : Dp K H (.ref a) (.tuple (xs.map PyData.str)) := .tup h (dpAll_strs xs)
theorem dp_lst {K : PySem.W.Frag} {H : Hp} {a : Addr} {xs : List Str} (h : SqL K H a (xs.map V.str)) : Dp K H (.ref a) (.list (xs.map PyData.str)) := .lst h (dpAll_strs xs)
theorem lay_strs : ∀ {xs : List Str}, (∀ z ∈ xs, okS z) → PyData.canLayAll0 (xs.map PyData.str) = true
  | [], _ => by simp [PyData.canLayAll0]
  | x :: r, h => by
    have h1 := (h x List.mem_cons_self).2
    have h2 := lay_strs (xs := r) fun z hz => h z (List.mem_cons_of_mem _ hz)
    simp only [List.map_cons, PyData.canLayAll0, PyData.canLay0, PyData.strOk, h1, h2, Bool.and_self]
theorem depth_strs : ∀ xs : List Str, PyData.depthAll (xs.map PyData.str) = 0
  | [] => by simp [PyData.depthAll]
  | x :: r => by simp [PyData.depthAll, PyData.depth, depth_strs r]
theorem shaped_tup {xs : List Str} (h : ∀ z ∈ xs, okS z) : SeqAt.shaped (.tuple (xs.map PyData.str)) = true := by
  unfold SeqAt.shaped
  simp [PyData.canLay0, PyData.depth, lay_strs h, depth_strs]
theorem shaped_lst {xs : List Str} (h : ∀ z ∈ xs, okS z) : SeqAt.shaped (.list (xs.map PyData.str)) = true := by
  unfold SeqAt.shaped
  simp [PyData.canLay0, PyData.depth, lay_strs h, depth_strs]
theorem eqvAll_strs : ∀ xs ys : List Str, PyData.eqvAll (xs.map PyData.str) (ys.map PyData.str) = decide (xs = ys)
  | [], [] => by simp [PyData.eqvAll]
  | [], _ :: _ => by simp [PyData.eqvAll]
  | _ :: _, [] => by simp [PyData.eqvAll]
  | x :: r, y :: q => by
    simp only [List.map_cons, PyData.eqvAll, PyData.eqv, eqvAll_strs r q, List.cons.injEq]
    by_cases h : x = y
    · simp [h]
    · simp [h]
theorem eqv_tup (xs ys : List Str) : PyData.eqv (.tuple (xs.map PyData.str)) (.tuple (ys.map PyData.str)) = decide (xs = ys) := by unfold PyData.eqv; exact eqvAll_strs xs ys
theorem eqv_lst (xs ys : List Str) : PyData.eqv (.list (xs.map PyData.str)) (.list (ys.map PyData.str)) = decide (xs = ys) := by unfold PyData.eqv; exact eqvAll_strs xs ys
def eqPath (xs : List Str) (ab fo : Bool) (ys : List Str) (ab' fo' : Bool) : Bool := decide (xs = ys) && (ab == ab') && (fo == fo')
def spEqP (K : PySem.W.Frag) (C : Addr) : Sp := fun vs H Q _ => ∃ (p q : Addr) (xs ys : List Str) (ab fo ab' fo' : Bool), vs = [.ref p, .ref q] ∧ PathAt K C H p xs ab fo ∧ PathAt K C H q ys ab' fo' ∧ (∀ z ∈ xs, okS z) ∧ (∀ z ∈ ys, okS z) ∧
  Q (.bl (eqPath xs ab fo ys ab' fo')) H
/-! ### the shortest text is read as its path -/
theorem st_all {xs : List Str} (h : ∀ q ∈ xs, plain q = false) : stepsOf xs = xs := by
  unfold stepsOf
  exact List.filter_eq_self.mpr fun q hq => by rw [h q hq]; rfl
def slashed : List Str → Str
  | [] => ""
  | x :: r => Txt.join "/" (x :: r) ++ ("/" : Str)
theorem text_reads {xs : List Str} {ab fo : Bool} (hne : xs ≠ []) (hx : ∀ q ∈ xs, compB q = true ∧ badPart q = false) (hp : ∀ q ∈ xs, plain q = false) (hl : xs.length ≤ 800) (ok : okPath xs fo = true) : Reads (textP xs ab fo) xs ab fo := by
  obtain ⟨ys, s, rfl⟩ : ∃ ys s, xs = ys ++ [s] := by
    rcases List.eq_nil_or_concat xs with e | ⟨ys, q, e⟩
    · exact absurd e hne
    · rw [List.concat_eq_append] at e; exact ⟨ys, q, e⟩
  have hs := hx s (by simp)
  have hps := hp s (by simp)
  have hsne : s ≠ ("" : Str) := fun q => by subst q; revert hps; decide +kernel
  -- up to the last step
  have open_ : ∃ ds, NzO ab ys ((if ab = true then ("/" : Str) else ("" : Str)) ++ slashed ys) ds ∧ ds.length ≤ ys.length + 1 := by
    have h0 : ∃ d0, NzO ab [] (if ab = true then ("/" : Str) else ("" : Str)) d0 ∧ d0.length ≤ 1 := by
      cases ab with
      | true => exact ⟨_, nz1, by simp⟩
      | false => exact ⟨_, nz0, by simp⟩
    obtain ⟨d0, n0, l0⟩ := h0
    have go : ∀ (zs : List Str) (sts : List Str) (z : Str) (ds : List Str), NzO ab sts z ds → (∀ q ∈ zs, (compB q = true ∧ badPart q = false) ∧ plain q = false) → ∃ ds', NzO ab (sts ++ zs) (z ++ slashed zs) ds' ∧ ds'.length ≤ ds.length + zs.length := by
      intro zs
      induction zs with
      | nil => exact fun sts z ds h _ => ⟨ds, by rw [List.append_nil]; show NzO ab sts (z ++ ("" : Str)) ds; rw [app_empty]; exact h, by simp⟩
      | cons q r ih =>
        intro sts z ds h hq
        obtain ⟨h1, h2⟩ := hq q List.mem_cons_self
        have hqne : q ≠ ("" : Str) := fun w => by subst w; revert h2; decide +kernel
        have n1 := nz_more h h1 (.inl hqne)
        rw [show stepsOf [q] = [q] from st_all fun x hx => by rw [List.mem_singleton.mp hx]; exact h2] at n1
        obtain ⟨ds', n2, l2⟩ := ih _ _ _ n1 fun x hx => hq x (List.mem_cons_of_mem _ hx)
        refine ⟨ds', ?_, by rw [List.length_append, List.length_singleton] at l2; rw [List.length_cons]; omega⟩
        have e1 : sts ++ [q] ++ r = sts ++ q :: r := by simp
        rw [e1] at n2
        have e2 : z ++ q ++ ("/" : Str) ++ slashed r = z ++ slashed (q :: r) := by
          cases r with
          | nil =>
            show z ++ q ++ ("/" : Str) ++ ("" : Str) = z ++ (Txt.join "/" [q] ++ ("/" : Str))
            rw [app_empty, app_assoc]
            rfl
          | cons r0 r1 =>
            show z ++ q ++ ("/" : Str) ++ (Txt.join "/" (r0 :: r1) ++ ("/" : Str)) = z ++ (Txt.join "/" (q :: r0 :: r1) ++ ("/" : Str))
            apply cps_ext
            simp only [TL.tl_append, tl_joinT, List.map_cons]
            rw [jl_cons [47] (TL.tl q) (TL.tl r0 :: r1.map TL.tl) (by simp), tl_slash]
            simp only [List.append_assoc]
        rw [e2] at n2
        exact n2
    obtain ⟨ds, n1, l1⟩ := go ys [] _ d0 n0 fun q hq => ⟨hx q (by simp [hq]), hp q (by simp [hq])⟩
    rw [List.nil_append] at n1
    exact ⟨ds, n1, by omega⟩
  obtain ⟨ds, n1, l1⟩ := open_
  have hends : endsName (ys ++ [s]) = !decide (s = (".." : Str)) := by
    unfold endsName
    rw [List.getLast?_append]
    rfl
  have hyl : ys.length ≤ 800 := by rw [List.length_append] at hl; omega
  have ej : (if ab = true then ("/" : Str) else ("" : Str)) ++ slashed ys ++ s = (if ab then ("/" : Str) ++ Txt.join "/" (ys ++ [s]) else Txt.join "/" (ys ++ [s])) := by
    have : ∀ a : Str, a ++ slashed ys ++ s = a ++ Txt.join "/" (ys ++ [s]) := fun a => by
      cases ys with
      | nil =>
        show a ++ ("" : Str) ++ s = _
        rw [app_empty]
        rfl
      | cons y r =>
        show a ++ (Txt.join "/" (y :: r) ++ ("/" : Str)) ++ s = _
        rw [join_trail (by simp), app_assoc, join_open]
    rw [this]
    cases ab with
    | true => rfl
    | false => exact empty_app _
  unfold textP
  rw [hends]
  have key : ∀ tail : Bool, (tail = true → fo = true) → (tail = false → fo = fol3 s) → Reads ((if ab then ("/" : Str) ++ Txt.join "/" (ys ++ [s]) else Txt.join "/" (ys ++ [s])) ++ (if tail = true then ("/" : Str) else ("" : Str))) (ys ++ [s]) ab fo := fun tail h1 h2 => by
    rw [← ej]
    cases tail with
    | true =>
      have hf := h1 rfl
      subst hf
      have := nz_end (fo := true) n1 hs hps (by omega) (fun h => by cases h)
      rw [if_pos rfl] at this ⊢
      exact this
    | false =>
      rw [if_neg Bool.false_ne_true, app_empty]
      have e1 : stepsOf [s] = [s] := st_all fun x hx => by rw [List.mem_singleton.mp hx]; exact hps
      refine reads_of (ps := ds ++ [s]) (by rw [n1.jn, join_open]) (by simp) (fun q hq => ?_) (by simp; omega) ?_ (abs_of n1 (.inl hsne)) (by rw [fol_last, h2 rfl]) (by simp)
      · rcases List.mem_append.mp hq with hq | hq
        · exact n1.ok q hq
        · rw [List.mem_singleton.mp hq]; exact hs
      · rw [stepsOf_app, n1.st, e1]
  have f3 : fol3 s = decide (s = (".." : Str)) := by
    unfold plain at hps
    rw [Bool.or_eq_false_iff] at hps
    unfold fol3
    rw [hps.1, hps.2, Bool.false_or, Bool.false_or]
    rfl
  have nz : ∀ {z : Str}, Reads z (ys ++ [s]) ab fo → z ≠ ("" : Str) := fun R q => by
    have := R.bad
    unfold badP at this
    rw [if_pos q] at this
    cases this
  by_cases hd : s = (".." : Str)
  · rw [decide_eq_true hd] at f3 ⊢
    have hfo : fo = true := by
      unfold okPath at ok
      rw [hends, decide_eq_true hd] at ok
      cases fo with
      | true => rfl
      | false => simp at ok
    have R := key false (fun h => by cases h) (fun _ => by rw [f3, hfo])
    rw [if_neg Bool.false_ne_true, app_empty] at R
    have e : (fo && !true) = false := by cases fo <;> rfl
    dsimp only
    rw [e, if_neg Bool.false_ne_true, if_neg (nz R)]
    exact R
  · rw [decide_eq_false hd] at f3 ⊢
    dsimp only
    rw [Bool.not_false, Bool.and_true]
    cases fo with
    | true =>
      have R := key true (fun _ => rfl) (fun h => by cases h)
      rw [if_pos rfl] at R ⊢
      rw [if_neg (nz R)]
      exact R
    | false =>
      have R := key false (fun h => by cases h) (fun _ => f3.symm)
      rw [if_neg Bool.false_ne_true, app_empty] at R
      rw [if_neg Bool.false_ne_true, if_neg (nz R)]
      exact R
section
variable {P : Program} {w : World} {K : PySem.W.Frag} {mg : Str → Option Value} {base : Heap} {fName fStep fEnds C CN fE fText : Addr}
theorem scEq : FnScope ["self", "other"] ["self", "other"] (defScope sEq) := ⟨rfl, rfl, rfl, by decide +kernel, rfl, by decide +kernel, by decide +kernel⟩
theorem ok_peq {fd : FuncData} (F : Fun K "__eq__" "Path.__eq__" sEq fE fd) (T0 : TxtN K mg fName fStep) (T : TxtP K mg C CN) (TC : TyC K C) :
    FnOk P w K mg base CX0 1 fE fd ["self", "other"] (spEqP K C) := by
  have nd := scEq.nd
  refine F.ok scEq (fun vs H Q E h => ?_) (fun cdv A outer s H vs Q E hr h => ?_)
  · obtain ⟨p, q, xs, ys, ab, fo, ab', fo', rfl, _⟩ := h
    rfl
  · obtain ⟨p, q, xs, ys, ab, fo, ab', fo', rfl, ⟨dx, t, hp, ht⟩, ⟨dy, u, hq, hu⟩, ox, oy, k⟩ := h
    refine ⟨_, (pss_one (ps_ret (pe_and (pe_callB call_isi (by rfl) T0.m_isinstance (by decide +kernel) (pa_cons (pv 1) (pa_cons (pe_glob (v := .ref C) (by rfl) T.g_Path rfl) pa_nil))) (pe_and (pe_cmpR (op_eqD hr.units) (pe_fld (pv 0) rfl) (pe_fld (pv 1) rfl) (nomark _)) (pe_and (pe_cmpR op_eq (pe_fld (pv 0) rfl) (pe_fld (pv 1) rfl) (nomark _)) (pe_one (pe_cmpR op_eq (pe_fld (pv 0) rfl) (pe_fld (pv 1) rfl) (nomark _)))))))), ?_⟩
    refine ⟨_, rfl, _, _, _, _, true, rfl, .own C, .base (.ins hq T.cl TC.c1 TC.c2 TC.c3 TC.c4), kit_self, _, rfl, ?_⟩
    refine iteT ?_
    refine ⟨_, rfl, p, C, dx, _, _, rfl, hp, T.cl, T.nS, pfl_steps _ _ _, _, rfl, q, C, dy, _, _, rfl, hq, T.cl, T.nS, pfl_steps _ _ _, _, _, dp_tup ht, dp_tup hu, shaped_tup ox, shaped_tup oy, _, rfl, ?_⟩
    rw [eqv_tup]
    unfold eqPath at k
    by_cases h1 : xs = ys
    · rw [decide_eq_true h1] at k ⊢
      refine iteT ?_
      refine ⟨_, rfl, p, C, dx, _, _, rfl, hp, T.cl, T.nA, pfl_abs _ _ _, _, rfl, q, C, dy, _, _, rfl, hq, T.cl, T.nA, pfl_abs _ _ _, rfl, _, rfl, ?_⟩
      by_cases h2 : ab = ab'
      · subst h2
        rw [decide_eq_true rfl]
        refine iteT ?_
        refine ⟨_, rfl, p, C, dx, _, _, rfl, hp, T.cl, T.nF, pfl_fo _ _ _, _, rfl, q, C, dy, _, _, rfl, hq, T.cl, T.nF, pfl_fo _ _ _, rfl, ?_⟩
        have e : decide (V.bl fo = V.bl fo') = (true && (ab == ab) && (fo == fo')) := by
          cases fo <;> cases fo' <;> cases ab <;> rfl
        show Q (V.bl (decide (V.bl fo = V.bl fo'))) H
        rw [e]
        exact k
      · rw [decide_eq_false (fun z => h2 (V.bl.inj z))]
        refine iteF ?_
        have e : (ab == ab') = false := by simpa using h2
        rw [e] at k
        exact k
    · rw [decide_eq_false h1] at k ⊢
      refine iteF ?_
      exact k
theorem scText : FnScope ["path", "text"] ["path"] (defScope sText) := ⟨rfl, rfl, rfl, by decide +kernel, rfl, by decide +kernel, by decide +kernel⟩
theorem ok_text {fd fdE : FuncData} (F : Fun K "path_text" "path_text" sText fText fd) (T : TxtE K mg fEnds) (T1 : TxtP K mg C CN) (G_ends_with_name : FnOk P w K mg base CX0 1 fEnds fdE ["steps"] (spEnds K)) (b_ends_with_name : Binds K fdE ["steps"] []) :
    FnOk P w K mg base CX0 2 fText fd ["path"] (spText K C) := by
  have nd := scText.nd
  refine F.ok scText (fun vs H Q E h => ?_) (fun cdv A outer s H vs Q E hr h => ?_)
  · obtain ⟨p, xs, ab, fo, rfl, _⟩ := h
    rfl
  · obtain ⟨p, xs, ab, fo, rfl, ⟨dx, t, hp, ht⟩, hl, k⟩ := h
    have hr_ends_with_name : Room 1 _ := hr
    refine ⟨_, (pss_cons (ps_set (i := 1) nd rfl (Or.inl rfl) (pe_join pe_str (pe_fld (pv 0) rfl)))
  (pss_cons (ps_if (pt_val (pe_fld (pv 0) rfl)) (pss_one (ps_set (i := 1) nd rfl (Or.inl rfl) (pe_op op_add_str pe_str (pv 1)))) pss_nil)
  (pss_cons (ps_if (PW.pt (pw_and (pt_val (pe_fld (pv 0) rfl)) (pw_and1 (pt_val (pe_call G_ends_with_name hr_ends_with_name (by rfl) T.g_ends_with_name T.kp_ends_with_name b_ends_with_name .nil pass0 (pa_cons (pe_fld (pv 0) rfl) pa_nil)))))) (pss_one (ps_set (i := 1) nd rfl (Or.inl rfl) (pe_op op_add_str (pv 1) pe_str))) pss_nil)
  (pss_cons (ps_if (pt_cmpR op_eq (pv 1) pe_str (nomark _)) (pss_one (ps_ret pe_str)) pss_nil)
  (pss_one (ps_ret (pv 1))))))), ?_⟩
    have hj := len_join_le xs
    have h1 : ("/" : Str).length = 1 := by decide +kernel
    have hs : sizeLine = 16777216 := sizeLine_eq
    refine ⟨⟨"/", rfl⟩, _, rfl, p, C, dx, _, _, rfl, hp, T1.cl, T1.nS, pfl_steps _ _ _, "/", t, xs, rfl, rfl, .inr ht, (by rw [h1]; omega), ?_⟩
    refine ⟨_, rfl, p, C, dx, _, _, rfl, hp, T1.cl, T1.nA, pfl_abs _ _ _, _, rfl, ?_⟩
    have last : ∀ (t1 : Str), t1.length ≤ 2000000 → textP xs ab fo = (if ((if fo && endsName xs then t1 ++ ("/" : Str) else t1) : Str) = ("" : Str) then (".":Str) else (if fo && endsName xs then t1 ++ ("/" : Str) else t1)) →
        (tSeq (tIfS (tAnd (tB (tFld K (tVar 0) "folder")) (tB (tCall (spEnds K) [] E0 (tCons (tFld K (tVar 0) "steps") tNil)))) (tAsg (tOp (fun x y H Q => ∃ i j, x = V.str i ∧ y = V.str j ∧ i.length + j.length ≤ sizeLine ∧ Q (V.str (i ++ j)) H) (tVar 1) (tC (.str "/"))) (gName 1)) tNext)
          (tSeq (tIfS (tTest (tOp rEq (tVar 1) (tC (.str "")))) (tRet (tC (.str "."))) tNext) (tRet (tVar 1))) : TS) { nx := fun _ H' => Q .non H', rt := Q } [some (.ref p), some (.str t1)] H := fun t1 ht1 et => by
      have fin : ∀ t2 : Str, textP xs ab fo = (if t2 = ("" : Str) then (".":Str) else t2) → (tSeq (tIfS (tTest (tOp rEq (tVar 1) (tC (.str "")))) (tRet (tC (.str "."))) tNext) (tRet (tVar 1)) : TS) { nx := fun _ H' => Q .non H', rt := Q } [some (.ref p), some (.str t2)] H := fun t2 e2 => by
        refine ⟨_, rfl, rfl, _, rfl, ?_⟩
        by_cases h0 : t2 = ("" : Str)
        · rw [decide_eq_true (by rw [h0])]
          rw [if_pos h0] at e2
          rw [e2] at k
          exact iteT k
        · rw [decide_eq_false (fun q => h0 (V.str.inj q))]
          rw [if_neg h0] at e2
          rw [e2] at k
          exact iteF ⟨_, rfl, k⟩
      refine ⟨_, rfl, p, C, dx, _, _, rfl, hp, T1.cl, T1.nF, pfl_fo _ _ _, _, rfl, ?_⟩
      cases fo with
      | false =>
        refine iteF (iteF ?_)
        exact fin t1 et
      | true =>
        refine iteT ⟨_, rfl, p, C, dx, _, _, rfl, hp, T1.cl, T1.nS, pfl_steps _ _ _, t, xs, rfl, ht, _, rfl, ?_⟩
        cases he : endsName xs with
        | false =>
          refine iteF ?_
          rw [he] at et
          exact fin t1 et
        | true =>
          refine iteT ⟨_, rfl, _, _, rfl, rfl, (by rw [h1]; omega), ?_⟩
          rw [he] at et
          exact fin _ et
    cases ab with
    | false =>
      refine iteF ?_
      exact last _ (by omega) rfl
    | true =>
      refine iteT ⟨_, rfl, _, _, rfl, rfl, (by rw [h1]; omega), ?_⟩
      exact last _ (by rw [len_app, h1]; omega) rfl
end
end NW

set_option maxRecDepth 100000
set_option maxHeartbeats 1000000
namespace NW
open PySem L2 NG TR LamX
def stepL : List Str := ["a", "b", "c", "...", "a.b", ".."]
def StepOk (q : Str) : Prop := (compB q = true ∧ badPart q = false) ∧ plain q = false ∧ stepZ q = true
theorem stepL_ok : ∀ q ∈ stepL, (compB q = true ∧ badPart q = false) ∧ plain q = false ∧ stepZ q = true := by decide +kernel
def spSs : Sp := fun vs H Q _ => ∃ (p : Addr) (m : Int), vs = [.ref p, .int m] ∧ (∃ o, H p = some o ∧ DSo o) ∧ 0 < m ∧ m ≤ 10 ∧ ∀ L (ys : List Str) H', Dr p H H' → H L = none → L ≠ p → H' L = some (.lst (ys.map V.str)) → ys ≠ [] → ys.length ≤ 10 → (∀ q ∈ ys, StepOk q) → Q (.ref L) H'
def spNo (K : PySem.W.Frag) : Sp := fun vs H Q _ => ∃ (p L : Addr) (ys : List Str) (ab fo : Bool), vs = [.ref p, .ref L, .bl ab, .bl fo] ∧ (∃ o, H p = some o ∧ DSo o) ∧ H L = some (.lst (ys.map V.str)) ∧ L ≠ p ∧ ys ≠ [] ∧ ys.length ≤ 20 ∧ (∀ q ∈ ys, StepOk q) ∧ (fo = false → ∀ q, ys.getLast? = some q → q ≠ (".." : Str)) ∧
  ∀ z H', Dr p H H' → Reads z ys ab fo → Q (.str z) H'
structure TxtQ (mg : Str → Option Value) : Prop where
  m_enumerate : mg "enumerate" = none
section
variable {P : Program} {w : World} {K : PySem.W.Frag} {mg : Str → Option Value} {base : Heap} {fNum fAt fDigit fPool CC CG CP CR fCmI fBeg fBgn fEnd fRfI f : Addr}
theorem scCmE : FnScope ["self", "other"] ["self", "other"] (defScope sCmE) := ⟨rfl, rfl, rfl, by decide +kernel, rfl, by decide +kernel, by decide +kernel⟩
theorem ok_cmR {fd : FuncData} (F : Fun K "__eq__" "Came.__eq__" sCmE f fd) (mi : mg "isinstance" = none) (T : TxtGo K mg CC CG CP fCmI fBeg fBgn fEnd) (TR : TxtRf K mg CR fRfI) (T2 : TwoC K CC CR) (hne : CC ≠ CR) : FnOk P w K mg base CX0 1 f fd ["self", "other"] (spResE CC CC CR) := by
  refine F.ok scCmE (fun vs H Q E h => ?_) (fun cdv A outer s H vs Q E hr h => ?_)
  · obtain ⟨p, q, r1, r2, rfl, _⟩ := h
    rfl
  · obtain ⟨p, q, r1, r2, rfl, hc, h1, h2, k⟩ := h
    have fl : ∀ v : V, (fl1 "node" v).lookup ("node" : Str) = some v := fun v => by unfold fl1; rw [lookup_putF, if_pos rfl]
    refine ⟨_, (pss_one (ps_ret (pe_and (pe_callB call_isi (by rfl) mi (by decide +kernel) (pa_cons (pv 1) (pa_cons (pe_glob (v := .ref CC) (by rfl) T.gC rfl) pa_nil))) (pe_one (pe_cmpR op_eq (pe_fld (pv 0) rfl) (pe_fld (pv 1) rfl) (nomark _)))))), ?_⟩
    cases r1 with
    | inr why => exact absurd hc hne
    | inl i =>
      obtain ⟨dx, hp⟩ := h1
      cases r2 with
      | inl j =>
        obtain ⟨dy, hq⟩ := h2
        refine ⟨_, rfl, _, _, _, _, true, rfl, .own CC, .base (.ins hq T.clC T2.tc.c1 T2.tc.c2 T2.tc.c3 T2.tc.c4), kit_self, _, rfl, iteT ?_⟩
        refine ⟨_, rfl, p, CC, dx, _, _, rfl, hp, T.clC, T.nC, fl _, _, rfl, q, CC, dy, _, _, rfl, hq, T.clC, T.nC, fl _, rfl, ?_⟩
        have : decide (V.int ((i : Nat) : Int) = V.int ((j : Nat) : Int)) = decide ((Sum.inl i : Nat ⊕ Str) = Sum.inl j) := by
          by_cases h : i = j
          · subst h; rw [decide_eq_true rfl, decide_eq_true rfl]
          · rw [decide_eq_false (fun q => h (by injection q with q; omega)), decide_eq_false (fun q => h (by injection q))]
        rw [this]
        exact k
      | inr why =>
        obtain ⟨dy, hq⟩ := h2
        refine ⟨_, rfl, _, _, _, _, false, rfl, .own CC, .base (.ins hq TR.clR T2.tr.c1 T2.tr.c2 T2.tr.c3 T2.tr.c4), T2.k2, _, rfl, iteF ?_⟩
        have : decide ((Sum.inl i : Nat ⊕ Str) = Sum.inr why) = false := decide_eq_false (fun q => by cases q)
        rw [this] at k
        exact k
theorem scRfE : FnScope ["self", "other"] ["self", "other"] (defScope sRfE) := ⟨rfl, rfl, rfl, by decide +kernel, rfl, by decide +kernel, by decide +kernel⟩
theorem ok_rfR {fd : FuncData} (F : Fun K "__eq__" "Refused.__eq__" sRfE f fd) (mi : mg "isinstance" = none) (T : TxtGo K mg CC CG CP fCmI fBeg fBgn fEnd) (TR : TxtRf K mg CR fRfI) (T2 : TwoC K CC CR) (hne : CR ≠ CC) : FnOk P w K mg base CX0 1 f fd ["self", "other"] (spResE CR CC CR) := by
  refine F.ok scRfE (fun vs H Q E h => ?_) (fun cdv A outer s H vs Q E hr h => ?_)
  · obtain ⟨p, q, r1, r2, rfl, _⟩ := h
    rfl
  · obtain ⟨p, q, r1, r2, rfl, hc, h1, h2, k⟩ := h
    have fl : ∀ v : V, (fl1 "why" v).lookup ("why" : Str) = some v := fun v => by unfold fl1; rw [lookup_putF, if_pos rfl]
    refine ⟨_, (pss_one (ps_ret (pe_and (pe_callB call_isi (by rfl) mi (by decide +kernel) (pa_cons (pv 1) (pa_cons (pe_glob (v := .ref CR) (by rfl) TR.gR rfl) pa_nil))) (pe_one (pe_cmpR op_eq (pe_fld (pv 0) rfl) (pe_fld (pv 1) rfl) (nomark _)))))), ?_⟩
    cases r1 with
    | inl i => exact absurd hc hne
    | inr i =>
      obtain ⟨dx, hp⟩ := h1
      cases r2 with
      | inr j =>
        obtain ⟨dy, hq⟩ := h2
        refine ⟨_, rfl, _, _, _, _, true, rfl, .own CR, .base (.ins hq TR.clR T2.tr.c1 T2.tr.c2 T2.tr.c3 T2.tr.c4), kit_self, _, rfl, iteT ?_⟩
        refine ⟨_, rfl, p, CR, dx, _, _, rfl, hp, TR.clR, TR.nR, fl _, _, rfl, q, CR, dy, _, _, rfl, hq, TR.clR, TR.nR, fl _, rfl, ?_⟩
        have : decide (V.str i = V.str j) = decide ((Sum.inr i : Nat ⊕ Str) = Sum.inr j) := by
          by_cases h : i = j
          · subst h; rw [decide_eq_true rfl, decide_eq_true rfl]
          · rw [decide_eq_false (fun q => h (V.str.inj q)), decide_eq_false (fun q => h (by injection q))]
        rw [this]
        exact k
      | inl j =>
        obtain ⟨dy, hq⟩ := h2
        refine ⟨_, rfl, _, _, _, _, false, rfl, .own CR, .base (.ins hq T.clC T2.tc.c1 T2.tc.c2 T2.tc.c3 T2.tc.c4), T2.k1, _, rfl, iteF ?_⟩
        have : decide ((Sum.inr i : Nat ⊕ Str) = Sum.inl j) = false := decide_eq_false (fun q => by cases q)
        rw [this] at k
        exact k
/-! ### drawn steps -/
theorem scSs : FnScope ["_law_s", "_law_most", "_law_some", "_law_k"] ["_law_s", "_law_most"] (defScope sSs) := ⟨rfl, rfl, rfl, by decide +kernel, rfl, by decide +kernel, by decide +kernel⟩
theorem ok_ss {fd fdD : FuncData} (F : Fun K "_law_steps" "_law_steps" sSs f fd) (T : TxtK K mg fNum fAt fDigit fPool) (G : FnOk P w K mg base CX0 1 fDigit fdD ["_law_state_here", "_law_base"] spDigit) (b : Binds K fdD ["_law_state_here", "_law_base"] []) :
    FnOk P w K mg base CX0 2 f fd ["_law_s", "_law_most"] spSs := by
  have nd := scSs.nd
  refine F.ok scSs (fun vs H Q E h => ?_) (fun cdv A outer s H vs Q E hr h => ?_)
  · obtain ⟨p, m, rfl, _⟩ := h
    rfl
  · obtain ⟨p, m, rfl, ⟨o, hp, dso⟩, hm0, hm, k⟩ := h
    have hr1 : Room 1 _ := hr
    have hs : sizeLine = 16777216 := sizeLine_eq
    refine ⟨_, (pss_cons (ps_set (i := 2) nd rfl (Or.inr rfl) (pe_lst (pa_cons pe_str (pa_cons pe_str (pa_cons pe_str (pa_cons pe_str (pa_cons pe_str (pa_cons pe_str pa_nil))))))))
  (pss_one (ps_ret (pe_lc (own := [("_law_k", 3)]) (g := gName 3) (tt := tYes) (te := tOp (rIxL K) (tVar 2) (tCall spDigit [] E0 (tCons (tVar 0) (tCons (tC (V.int 6)) tNil)))) rfl nd (pi_range1 (by rfl) T.m_range (pa_cons (pe_op op_add pe_int (pe_call G hr1 (by rfl) T.g_digit T.kp_digit b .nil pass0 (pa_cons (pv 0) (pa_cons (pv 1) pa_nil)))) pa_nil)) (blkOk_by (N := ["_law_s", "_law_most", "_law_some", "_law_k"]) (sc := defScope sSs) (by decide +kernel)) (fun _ _ _ _ _ => (pg_name (i := 3) nd rfl (Or.inl rfl))) (fun _ _ _ _ _ => pts_nil) (fun _ _ _ _ _ => (pe_ix ix_list (pv 2) (pe_call G hr1 (by rfl) T.g_digit T.kp_digit b .nil pass0 (pa_cons (pv 0) (pa_cons pe_int pa_nil))) (fun _ _ => rfl))))))), ?_⟩
    refine ⟨(by show 6 ≤ sizeLine; omega), fun L hL => ?_⟩
    have nLp : L ≠ p := (ne_of_none hp hL).symm
    have dr0 := (Dr.refl hp dso).same (NG.Same.upd (o := HO.lst (stepL.map V.str)) hL)
    have eL0 : (upd H L (.lst (stepL.map V.str))) L = some (.lst (stepL.map V.str)) := upd_same
    obtain ⟨o0, hp0, ho0⟩ := dr0.st
    refine ⟨_, rfl, _, rfl, p, m, o0, rfl, hm0, by omega, hp0, ho0, fun d o1 d0 d1 ho1 => ⟨_, _, rfl, rfl, _, rfl, by omega, by omega, fun D hD => ?_⟩⟩
    have dr1 := dr0.next ho1
    have hp1 : (upd (upd H L (.lst (stepL.map V.str))) p o1) p = some o1 := upd_same
    have eL1 : (upd (upd H L (.lst (stepL.map V.str))) p o1) L = some (.lst (stepL.map V.str)) := by rw [upd_ne nLp]; exact eL0
    have hD' : (upd (upd H L (.lst (stepL.map V.str))) p o1) D = none := hD
    refine lc_draw (n := (1 + d).toNat) (p := p) (fun x _ => ∃ z, x = V.str z ∧ StepOk z) (small1000 (by omega)) hD' (Dr.refl hp1 ho1) (fun _ _ _ _ h => h) (fun _ _ _ _ h => h) (fun i H2 R hi dr2 hR => ?_) (fun H2 xs dr2 e2 el hx => ?_)
    · obtain ⟨o2, hp2, ho2⟩ := dr2.st
      have eL2 := dr2.but _ _ eL1 nLp
      refine ⟨_, rfl, _, rfl, p, 6, o2, rfl, by decide, by decide, hp2, ho2, fun e o3 e0 e1 ho3 => ?_⟩
      obtain ⟨v, hv, ev⟩ := pick (xs := stepL.map V.str) e0 e1
      obtain ⟨z, hz, rfl⟩ := List.mem_map.mp hv
      refine ⟨L, stepL.map V.str, e, _, rfl, rfl, SqL.of (by rw [upd_ne nLp]; exact eL2), ev, ?_⟩
      exact hR _ _ ⟨z, rfl, stepL_ok z hz⟩ ⟨fun b x eb nb => by rw [upd_ne nb]; exact eb, o3, upd_same, ho3⟩
    obtain ⟨ys, rfl, hy⟩ := strs_of hx
    rw [List.length_map] at el
    have nDp : D ≠ p := (ne_of_none hp1 hD').symm
    exact k D ys H2 (dr1.trans dr2) (fresh_of dr1 nDp hD') nDp e2 (fun q => by rw [q] at el; simp at el; omega) (by omega) hy
theorem scNo : FnScope ["_law_s", "_law_steps_here", "_law_absolute", "_law_folder", "_law_found", "_law_at", "_law_step"] ["_law_s", "_law_steps_here", "_law_absolute", "_law_folder"] (defScope sNo) := ⟨rfl, rfl, rfl, by decide +kernel, rfl, by decide +kernel, by decide +kernel⟩
theorem ok_no {fd fdD : FuncData} (F : Fun K "_law_noisy" "_law_noisy" sNo f fd) (T : TxtK K mg fNum fAt fDigit fPool) (TQ : TxtQ mg) (G : FnOk P w K mg base CX0 1 fDigit fdD ["_law_state_here", "_law_base"] spDigit) (b : Binds K fdD ["_law_state_here", "_law_base"] []) :
    FnOk P w K mg base CX0 2 f fd ["_law_s", "_law_steps_here", "_law_absolute", "_law_folder"] (spNo K) := by
  have nd := scNo.nd
  refine F.ok scNo (fun vs H Q E h => ?_) (fun cdv A outer s H vs Q E hr h => ?_)
  · obtain ⟨p, L, ys, ab, fo, rfl, _⟩ := h
    rfl
  · obtain ⟨p, L, ys, ab, fo, rfl, ⟨o, hp, dso⟩, hL, nLp, hne, hl, hy, hlast, k⟩ := h
    have hr1 : Room 1 _ := hr
    have hs : sizeLine = 16777216 := sizeLine_eq
    have h1 : ("/" : Str).length = 1 := by decide +kernel
    refine ⟨_, (pss_cons (ps_set (i := 4) nd rfl (Or.inl rfl) (pe_ix ix_list (pe_lst (pa_cons pe_str (pa_cons pe_str pa_nil))) (pe_callTy call_int1 (by rfl) T.m_int (by decide +kernel) (pa_cons (pv 2) pa_nil)) (fun _ _ => rfl)))
  (pss_cons (ps_for PassesOwn.never rfl (pi_enum (by rfl) TQ.m_enumerate (pa_cons (pv 1) pa_nil)) (pg_tup (by rfl) (pgs_cons (pg_name (i := 5) nd rfl (Or.inl rfl)) (pgs_cons (pg_name (i := 6) nd rfl (Or.inl rfl)) pgs_nil)))
  (pss_cons (ps_set (i := 4) nd rfl (Or.inl rfl) (pe_op op_add_str (pe_op op_add_str (pv 4) (pe_ix ix_list (pe_lst (pa_cons pe_str (pa_cons pe_str (pa_cons pe_str (pa_cons pe_str pa_nil))))) (pe_call G hr1 (by rfl) T.g_digit T.kp_digit b .nil pass0 (pa_cons (pv 0) (pa_cons pe_int pa_nil))) (fun _ _ => rfl))) (pv 6)))
  (pss_one (ps_if (pt_cmpR op_lt (pe_op op_add (pv 5) pe_int) (pe_callB call_len_seq (by rfl) T.m_len (by decide +kernel) (pa_cons (pv 1) pa_nil)) (nomark _)) (pss_one (ps_set (i := 4) nd rfl (Or.inl rfl) (pe_op op_add_str (pv 4) (pe_ix ix_list (pe_lst (pa_cons pe_str (pa_cons pe_str (pa_cons pe_str pa_nil)))) (pe_call G hr1 (by rfl) T.g_digit T.kp_digit b .nil pass0 (pa_cons (pv 0) (pa_cons pe_int pa_nil))) (fun _ _ => rfl))))) pss_nil))))
  (pss_one (ps_ret (pe_op op_add_str (pv 4) (pe_ix ix_list (pe_lst (pa_cons pe_str (pa_cons pe_str pa_nil))) (pe_callTy call_int1 (by rfl) T.m_int (by decide +kernel) (pa_cons (pv 3) pa_nil)) (fun _ _ => rfl))))))), ?_⟩
    have two : ∀ (b : Bool), atI [V.str "", V.str "/"] (if b = true then 1 else 0) = some (.str (if b = true then ("/" : Str) else ("" : Str))) := fun b => by cases b <;> rfl
    refine ⟨(by show 2 ≤ sizeLine; omega), fun q hq => ⟨_, rfl, .inr ⟨ab, rfl, q, _, _, _, rfl, rfl, SqL.of upd_same, two ab, ?_⟩⟩⟩
    have s1 := NG.Same.upd (o := HO.lst [V.str "", V.str "/"]) hq
    have dr1 := (Dr.refl hp dso).same s1
    have eL1 := s1 _ _ hL
    generalize upd H q (.lst [V.str "", V.str "/"]) = H1 at dr1 eL1 ⊢
    refine ⟨_, rfl, L, _, rfl, SqL.of eL1, ?_⟩
    have st0 : ∃ d0, NzO ab [] (if ab = true then ("/" : Str) else ("" : Str)) d0 ∧ d0.length ≤ 1 ∧ (if ab = true then ("/" : Str) else ("" : Str)).length ≤ 1 := by
      cases ab with
      | true => exact ⟨_, nz1, by simp, by decide +kernel⟩
      | false => exact ⟨_, nz0, by simp, by decide +kernel⟩
    obtain ⟨d0, n0, l0, z0⟩ := st0
    refine for_it (walk_enum (K := K) (a := L) (xs := ys.map V.str)) (fun i σ H' => (∃ (z : Str) (v5 v6 : Option V), σ = [some (.ref p), some (.ref L), some (.bl ab), some (.bl fo), some (.str z), v5, v6] ∧ z.length ≤ 1 + 5100 * i ∧
        ((i < ys.length ∧ ∃ ds, NzO ab (ys.take i) z ds ∧ ds.length ≤ 1 + 5 * i) ∨ (i = ys.length ∧ ∃ z1 s ys', z = z1 ++ s ∧ ys = ys' ++ [s] ∧ ∃ ds, NzO ab ys' z1 ds ∧ ds.length ≤ 1 + 5 * i))) ∧ Dr p H H' ∧ H' L = some (.lst (ys.map V.str)))
      ⟨⟨_, _, _, rfl, by omega, .inl ⟨List.length_pos_iff.mpr hne, d0, n0, by omega⟩⟩, dr1, eL1⟩ (fun i σ H' _ h => SqL.of h.2.2) ?_ ?_
    · rintro i x σ H2 H3 hi ⟨⟨z, v5, v6, rfl, hzl, hst⟩, dr2, eL2⟩ ⟨T1, ki, y, rfl, hT1, rfl, h1', h2'⟩
      cases Option.some.inj h1'
      rw [List.length_map] at hi
      obtain ⟨ds, n1, hdl⟩ : ∃ ds, NzO ab (ys.take i) z ds ∧ ds.length ≤ 1 + 5 * i := by
        rcases hst with ⟨_, h⟩ | ⟨e, _⟩
        · exact h
        · omega
      have hsi : ys[i]? = some ys[i] := List.getElem?_eq_getElem hi
      have hsm : ys[i] ∈ ys := List.getElem_mem hi
      have h3' : (ys.map V.str)[i]? = some y := h2'
      obtain rfl : y = V.str ys[i] := by
        rw [List.getElem?_map, hsi] at h3'
        exact (Option.some.inj h3').symm
      have htk : ys.take (i + 1) = ys.take i ++ [ys[i]] := by
        rw [List.take_succ, hsi]
        rfl
      generalize ys[i] = sx at hsi hsm htk
      obtain ⟨sok, spl, _⟩ := hy sx hsm
      have sle := compB_len sok.1
      have sT := NG.Same.upd (o := HO.tup [.int (i : Nat), .str sx]) hT1
      have dr3 := dr2.same sT
      have eL3 := sT _ _ eL2
      refine ⟨T1, _, rfl, SqT.of upd_same, rfl, _, _, rfl, _, _, rfl, rfl, ?_⟩
      generalize upd H2 T1 (.tup [.int (i : Nat), .str sx]) = H3 at dr3 eL3 ⊢
      refine ⟨_, rfl, (by show 4 ≤ sizeLine; omega), fun q2 hq2 => ?_⟩
      have s4 := NG.Same.upd (o := HO.lst [V.str "", V.str "", V.str "./", V.str ".//./"]) hq2
      have dr4 := dr3.same s4
      have eL4 := s4 _ _ eL3
      have e4 : (upd H3 q2 (.lst [V.str "", V.str "", V.str "./", V.str ".//./"])) q2 = some (.lst [V.str "", V.str "", V.str "./", V.str ".//./"]) := upd_same
      generalize upd H3 q2 (.lst [V.str "", V.str "", V.str "./", V.str ".//./"]) = H4 at dr4 eL4 e4 ⊢
      obtain ⟨o4, hp4, ho4⟩ := dr4.st
      refine ⟨_, rfl, p, 4, o4, rfl, by decide, by decide, hp4, ho4, fun g o5 g0 g1 ho5 => ?_⟩
      have d45 := (Dr.refl hp4 ho4).next ho5
      have dr5 := dr4.trans d45
      have eL5 := d45.but _ _ eL4 nLp
      have nq2 : q2 ≠ p := by
        obtain ⟨u, hu, _⟩ := dr3.st
        exact (ne_of_none hu hq2).symm
      have e5 := d45.but _ _ e4 nq2
      generalize upd H4 p o5 = H5 at dr5 eL5 e5 ⊢
      obtain ⟨v, hv, ev⟩ := pick (xs := [V.str "", V.str "", V.str "./", V.str ".//./"]) g0 g1
      obtain ⟨pre, rfl, hpre, lpre⟩ : ∃ pre : Str, v = .str pre ∧ (pre = ("" : Str) ∨ pre = ("./" : Str) ∨ pre = (".//./" : Str)) ∧ pre.length ≤ 5 := by
        simp only [List.mem_cons, List.not_mem_nil, or_false] at hv
        rcases hv with rfl | rfl | rfl | rfl
        · exact ⟨_, rfl, .inl rfl, by decide +kernel⟩
        · exact ⟨_, rfl, .inl rfl, by decide +kernel⟩
        · exact ⟨_, rfl, .inr (.inl rfl), by decide +kernel⟩
        · exact ⟨_, rfl, .inr (.inr rfl), by decide +kernel⟩
      have il : i < 20 := by omega
      refine ⟨q2, _, g, _, rfl, rfl, SqL.of e5, ev, _, _, rfl, rfl, (by omega), _, rfl, _, _, rfl, rfl, (by rw [len_app]; omega), ?_⟩
      obtain ⟨d2, n2, hd2⟩ := nz_pre n1 hpre
      have zl2 : (z ++ pre ++ sx).length ≤ 1 + 5100 * i + 5005 := by rw [len_app, len_app]; omega
      refine ⟨_, rfl, _, _, rfl, rfl, _, rfl, L, _, rfl, .inl (SqL.of eL5), _, _, rfl, rfl, _, rfl, ?_⟩
      refine ite2 (fun hc => ?_) (fun hc => ?_)
      · have hlt : i + 1 < ys.length := by
          have h0 : ((i : Nat) : Int) + 1 < (((ys.map V.str).length : Nat) : Int) := of_decide_eq_true hc
          rw [List.length_map] at h0
          omega
        refine ⟨_, rfl, (by show 3 ≤ sizeLine; omega), fun q3 hq3 => ?_⟩
        have s6 := NG.Same.upd (o := HO.lst [V.str "/", V.str "//", V.str "/./"]) hq3
        have dr6 := dr5.same s6
        have eL6 := s6 _ _ eL5
        have e6 : (upd H5 q3 (.lst [V.str "/", V.str "//", V.str "/./"])) q3 = some (.lst [V.str "/", V.str "//", V.str "/./"]) := upd_same
        have nq3 : q3 ≠ p := by
          obtain ⟨u, hu, _⟩ := dr5.st
          exact (ne_of_none hu hq3).symm
        generalize upd H5 q3 (.lst [V.str "/", V.str "//", V.str "/./"]) = H6 at dr6 eL6 e6 ⊢
        obtain ⟨o6, hp6, ho6⟩ := dr6.st
        refine ⟨_, rfl, p, 3, o6, rfl, by decide, by decide, hp6, ho6, fun g o7 g0 g1 ho7 => ?_⟩
        have d67 := (Dr.refl hp6 ho6).next ho7
        obtain ⟨v, hv, ev⟩ := pick (xs := [V.str "/", V.str "//", V.str "/./"]) g0 g1
        obtain ⟨sep, rfl, hsep, lsep⟩ : ∃ sep : Str, v = .str sep ∧ (sep = ("/" : Str) ∨ sep = ("//" : Str) ∨ sep = ("/./" : Str)) ∧ sep.length ≤ 5 := by
          simp only [List.mem_cons, List.not_mem_nil, or_false] at hv
          rcases hv with rfl | rfl | rfl
          · exact ⟨_, rfl, .inl rfl, by decide +kernel⟩
          · exact ⟨_, rfl, .inr (.inl rfl), by decide +kernel⟩
          · exact ⟨_, rfl, .inr (.inr rfl), by decide +kernel⟩
        refine ⟨q3, _, g, _, rfl, rfl, SqL.of (d67.but _ _ e6 nq3), ev, _, _, rfl, rfl, (by omega), ?_⟩
        obtain ⟨d3, n3, hd3⟩ := nz_sep n2 sok spl hsep
        exact ⟨⟨_, _, _, rfl, by rw [len_app]; omega, .inl ⟨hlt, d3, by rw [htk]; exact n3, by omega⟩⟩, dr6.trans d67, d67.but _ _ eL6 nLp⟩
      · have hlt : ¬ (i + 1 < ys.length) := fun h => by
          have h0 : ((i : Nat) : Int) + 1 < (((ys.map V.str).length : Nat) : Int) := by rw [List.length_map]; omega
          exact hc (decide_eq_true h0)
        refine ⟨⟨_, _, _, rfl, by omega, .inr ⟨by omega, z ++ pre, sx, ys.take i, rfl, ?_, d2, n2, by omega⟩⟩, dr5, eL5⟩
        rw [← htk, List.take_of_length_le (by omega)]
    · rintro σ H2 ⟨⟨z, v5, v6, rfl, hzl, hst⟩, dr2, eL2⟩
      rw [List.length_map] at hst hzl
      rcases hst with ⟨h, _⟩ | ⟨_, z1, sx, ys', rfl, hys, ds, n1, hdl⟩
      · omega
      have hsm : sx ∈ ys := by rw [hys]; simp
      obtain ⟨sok, spl, _⟩ := hy sx hsm
      refine ⟨_, rfl, (by show 2 ≤ sizeLine; omega), fun q2 hq2 => ⟨_, rfl, .inr ⟨fo, rfl, q2, _, _, _, rfl, rfl, SqL.of upd_same, two fo, _, _, rfl, rfl, ?_, ?_⟩⟩⟩
      · have : (if fo = true then ("/" : Str) else ("" : Str)).length ≤ 1 := by cases fo <;> decide +kernel
        omega
      · have R := nz_end n1 sok spl (by omega) (fun h => hlast h sx (by rw [hys]; simp))
        rw [← hys] at R
        exact k _ _ (dr2.same (NG.Same.upd hq2)) R
end
end NW

set_option maxRecDepth 100000
set_option maxHeartbeats 1000000
namespace NW
open PySem L2 NG TR LamX
abbrev sLaw : Stmt := top 65
/-- drawn nodes as they are read -/
structure NdsW (H : Hp) (N : Addr) (ads : List (Addr × Addr)) (nds : List Nd) : Prop where
  ls : H N = some (.lst (ads.map fun a => V.ref a.1))
  len : ads.length = nds.length
  nds : ∀ (i : Nat) (ad : Addr × Addr) (nd : Nd), ads[i]? = some ad → nds[i]? = some nd → NdAt H ad nd
theorem NdsAt.w {H : Hp} {N : Addr} {ads : List (Addr × Addr)} {nds : List Nd} (h : NdsAt H N ads nds) : NdsW H N ads nds := ⟨h.ls, h.len, h.nds⟩
theorem NdAt.kept {H H' : Hp} {ad : Addr × Addr} {nd : Nd} (h : NdAt H ad nd) (k : ∀ a xs, H a = some (.tup xs) → H' a = some (.tup xs)) (hL : ∀ xs, H ad.2 = some (.lst xs) → H' ad.2 = some (.lst xs)) : NdAt H' ad nd :=
  h.mono k fun hf => by
    cases nd with
    | fol o es =>
      obtain ⟨_, qs, hq, _⟩ := h
      rw [hL _ hq, hq]
    | fil o => cases hf
    | lnk o t => cases hf
    | gon o ab => cases hf
theorem NdsW.same {H H' : Hp} {N : Addr} {ads : List (Addr × Addr)} {nds : List Nd} (h : NdsW H N ads nds) (s : Same H H') : NdsW H' N ads nds :=
  ⟨s _ _ h.ls, h.len, fun i ad nd h1 h2 => (h.nds i ad nd h1 h2).kept (fun _ _ e => s _ _ e) (fun _ e => s _ _ e)⟩
theorem NdsW.ext {H H' : Hp} {N : Addr} {ads : List (Addr × Addr)} {nds : List Nd} (h : NdsW H N ads nds) (s : ExtN H H') : NdsW H' N ads nds :=
  ⟨s _ _ h.ls (fun _ z => by cases z), h.len, fun i ad nd h1 h2 => (h.nds i ad nd h1 h2).kept (fun _ _ e => s _ _ e (fun _ z => by cases z)) (fun _ e => s _ _ e (fun _ z => by cases z))⟩
theorem NdsW.dr {H H' : Hp} {p N : Addr} {ads : List (Addr × Addr)} {nds : List Nd} (h : NdsW H N ads nds) (d : Dr p H H') (hp : ∃ o, H p = some o ∧ DSo o) (hN : N ≠ p) (hL : ∀ ad ∈ ads, ad.2 ≠ p) : NdsW H' N ads nds := by
  obtain ⟨o, ep, a, m, c, rfl, _⟩ := hp
  exact ⟨d.but _ _ h.ls hN, h.len, fun i ad nd h1 h2 => (h.nds i ad nd h1 h2).kept (fun b xs e => d.but _ _ e (ne_of e ep (by intro q; cases q))) (fun xs e => d.but _ _ e (hL ad (List.mem_of_getElem? h1)))⟩
theorem NdsW.at_ {H : Hp} {N : Addr} {ads : List (Addr × Addr)} {nds : List Nd} (h : NdsW H N ads nds) {g : Nat} {nd : Nd} (hn : nds[g]? = some nd) : ∃ ad : Addr × Addr, (ads.map fun a => V.ref a.1)[g]? = some (.ref ad.1) ∧ NdAt H ad nd := by
  have hg : g < ads.length := by rw [h.len]; exact (List.getElem?_eq_some_iff.mp hn).1
  have ha : ads[g]? = some ads[g] := List.getElem?_eq_getElem hg
  exact ⟨ads[g], by rw [List.getElem?_map, ha]; rfl, h.nds g _ nd ha hn⟩
def isDir : Nd → Bool
  | .fol _ _ => true
  | .gon _ _ => true
  | _ => false
theorem kind_dir (nd : Nd) : inV (.str (kindS nd)) [.str "folder", .str "gone"] = isDir nd := by
  cases nd
  · show inV (.str "folder") [.str "folder", .str "gone"] = true
    decide +kernel
  · show inV (.str "file") [.str "folder", .str "gone"] = false
    decide +kernel
  · show inV (.str "link") [.str "folder", .str "gone"] = false
    decide +kernel
  · show inV (.str "gone") [.str "folder", .str "gone"] = true
    decide +kernel
theorem ExtX.same {H H' : Hp} (s : Same H H') : ExtX H H' := fun b o e _ _ => s b o e
theorem TreeAt.extX {K : PySem.W.Frag} {cs : Nat → Addr} {CT : Addr} {H H' : Hp} {t : Addr} {qs : List Addr} {nds : List Nd} (h : TreeAt K cs CT H t qs nds) (e : ExtX H H') : TreeAt K cs CT H' t qs nds := by
  obtain ⟨dx, T, h1, ⟨⟨h2, h3, h4⟩, W⟩⟩ := h
  exact ⟨dx, T, e _ _ h1 (fun _ z => by cases z) (fun _ z => by cases z), ⟨⟨e.sqT h2, h3, fun i q nd a b => (h4 i q nd a b).ext e⟩, W⟩⟩
theorem drX {p : Addr} {H H' : Hp} (d : Dr p H H') (hp : ∃ o, H p = some o ∧ DSo o) : ExtX H H' := fun b o e n _ => by
  obtain ⟨u, eu, a, m, c, rfl, _⟩ := hp
  refine d.but _ _ e (fun z => ?_)
  subst z
  rw [eu] at e
  exact n _ (Option.some.inj e).symm
def dirAt (nds : List Nd) (k : Nat) : Bool := match nds[k]? with
  | some nd => isDir nd
  | none => false
theorem dirAt_fol {nds : List Nd} {k : Nat} (h : dirAt nds k = true) : FolG nds k := by
  unfold dirAt at h
  cases e : nds[k]? with
  | none => rw [e] at h; cases h
  | some nd =>
    rw [e] at h
    refine ⟨nd, e, ?_⟩
    cases nd with
    | fol o es => exact .inl rfl
    | gon o ab => exact .inr rfl
    | fil o => cases h
    | lnk o z => cases h
def placeL (nds : List Nd) : List Nat := (List.range nds.length).filter (dirAt nds)
theorem placeL_pos {nds : List Nd} (W : WF LinkText PL nds) : 0 < (placeL nds).length := by
  obtain ⟨o, es, h⟩ := W.base.root
  have : 0 ∈ placeL nds := List.mem_filter.mpr ⟨List.mem_range.mpr (List.getElem?_eq_some_iff.mp h).1, by unfold dirAt; rw [h]; rfl⟩
  exact List.length_pos_of_mem this
theorem placeL_le (nds : List Nd) : (placeL nds).length ≤ nds.length := by
  have := List.length_filter_le (dirAt nds) (List.range nds.length)
  rw [List.length_range] at this
  exact this
/-- the drawn numbers' state moves, all else stays -/
theorem keepT {p P0 : Addr} {H H' : Hp} (t : Tabs [(P0, qBy)] H) (d : Dr p H H') (hp : ∃ o, H p = some o ∧ DSo o) : Tabs [(P0, qBy)] H' := by
  obtain ⟨o, ep, a, m, c, rfl, _⟩ := hp
  intro q hq
  obtain ⟨ps, a1, a2, a3⟩ := t q hq
  refine ⟨ps, d.but _ _ a1 (ne_of a1 ep (fun z => by cases z)), a2, fun pos cv hc => ?_⟩
  obtain ⟨c, e1, e2⟩ := a3 pos cv hc
  exact ⟨c, e1, d.but _ _ e2 (ne_of e2 ep (fun z => by unfold CodeO at z; cases z))⟩
theorem LookAt.extX {K : PySem.W.Frag} {CL lk : Addr} {H H' : Hp} {fo la : Bool} {ow : Option (List Int)} (h : LookAt K CL H lk fo la ow) (e : ExtX H H') : LookAt K CL H' lk fo la ow := by
  obtain ⟨dx, F, h1, h2, h3, h4⟩ := h
  refine ⟨dx, F, e _ _ h1 (fun _ z => by cases z) (fun _ z => by cases z), h2, h3, ?_⟩
  cases ow with
  | none => exact h4
  | some ns =>
    obtain ⟨T, a, b⟩ := h4
    exact ⟨T, a, e.sqT b⟩
theorem ResAt.extX {CC CR : Addr} {H H' : Hp} {r : Addr} {res : Nat ⊕ Str} (h : ResAt CC CR H r res) (e : ExtX H H') : ResAt CC CR H' r res := by
  cases res with
  | inl i => obtain ⟨d, q⟩ := h; exact ⟨d, e _ _ q (fun _ z => by cases z) (fun _ z => by cases z)⟩
  | inr why => obtain ⟨d, q⟩ := h; exact ⟨d, e _ _ q (fun _ z => by cases z) (fun _ z => by cases z)⟩
def OwnC (H : Hp) (v : V) : Option (List Int) → Prop
  | none => v = .non
  | some ns => ∃ L : Addr, v = .ref L ∧ H L = some (.lst (ns.map V.int)) ∧ (∀ n ∈ ns, 0 ≤ n) ∧ ns.length ≤ 100
theorem OwnC.dr {p : Addr} {H H' : Hp} {v : V} {oo : Option (List Int)} (h : OwnC H v oo) (d : Dr p H H') (n : ∀ L, v = .ref L → L ≠ p) : OwnC H' v oo := by
  cases oo with
  | none => exact h
  | some ns =>
    obtain ⟨L, e, h, h1, h2⟩ := h
    exact ⟨L, e, d.but _ _ h (n L e), h1, h2⟩
theorem OwnC.own {K : PySem.W.Frag} {H : Hp} {v : V} {oo : Option (List Int)} (h : OwnC H v oo) : OwnO K H v oo := by
  cases oo with
  | none => exact h
  | some ns =>
    obtain ⟨L, e, h, h1, h2⟩ := h
    exact ⟨L, e, SqL.of h, h1, h2⟩
theorem PathAt.same {K : PySem.W.Frag} {C p : Addr} {H H' : Hp} {xs : List Str} {ab fo : Bool} (h : PathAt K C H p xs ab fo) (s : Same H H') : PathAt K C H' p xs ab fo :=
  let ⟨⟨dx, t, a, b⟩⟩ := h
  ⟨⟨dx, t, s _ _ a, Same.sqT s b⟩⟩
theorem eqW_of {K : PySem.W.Frag} {CC CR : Addr} {H : Hp} {r1 r2 : Addr} {res1 res2 : Nat ⊕ Str} {g : Bool → Bool} {Q : VK} (clC : Cls K CC) (clR : Cls K CR) (T2 : TwoC K CC CR) (h1 : ResAt CC CR H r1 res1) (h2 : ResAt CC CR H r2 res2) (k : Q (.bl (g (decide (res1 = res2)))) H) :
    rOwn K CC (spResE CC CC CR) E0 g (.ref r1) (.ref r2) H Q ∨ rOwn K CR (spResE CR CC CR) E0 g (.ref r1) (.ref r2) H Q := by
  have ty : ∃ t, TyX K H (.ref r2) t ∧ PySem.W.notFirst K CC t = true ∧ PySem.W.notFirst K CR t = true := by
    cases res2 with
    | inl j => obtain ⟨d, e⟩ := h2; exact ⟨.ref CC, .base (.ins e clC T2.tc.c1 T2.tc.c2 T2.tc.c3 T2.tc.c4), nf_self, T2.n2⟩
    | inr w => obtain ⟨d, e⟩ := h2; exact ⟨.ref CR, .base (.ins e clR T2.tr.c1 T2.tr.c2 T2.tr.c3 T2.tr.c4), T2.n1, nf_self⟩
  obtain ⟨t, ty, n1, n2⟩ := ty
  cases res1 with
  | inl i =>
    obtain ⟨d, e⟩ := id h1
    exact .inl ⟨r1, d, _, t, rfl, e, ty, n1, r1, r2, .inl i, res2, rfl, rfl, h1, h2, _, rfl, k⟩
  | inr w =>
    obtain ⟨d, e⟩ := id h1
    exact .inr ⟨r1, d, _, t, rfl, e, ty, n2, r1, r2, .inr w, res2, rfl, rfl, h1, h2, _, rfl, k⟩
theorem eqP_of {K : PySem.W.Frag} {CP : Addr} {H : Hp} {p1 p2 : Addr} {xs : List Str} {ab fo : Bool} {g : Bool → Bool} {Q : VK} (cl : Cls K CP) (TC : TyC K CP) (h1 : PathAt K CP H p1 xs ab fo) (h2 : PathAt K CP H p2 xs ab fo) (ok : ∀ z ∈ xs, okS z) (k : Q (.bl (g true)) H) :
    rOwn K CP (spEqP K CP) E0 g (.ref p1) (.ref p2) H Q := by
  obtain ⟨d1, t1, e1, _⟩ := h1.ob
  obtain ⟨d2, t2, e2, _⟩ := h2.ob
  refine ⟨p1, d1, _, .ref CP, rfl, e1, .base (.ins e2 cl TC.c1 TC.c2 TC.c3 TC.c4), nf_self, p1, p2, xs, xs, ab, fo, ab, fo, rfl, h1, h2, ok, ok, _, rfl, ?_⟩
  have e : eqPath xs ab fo xs ab fo = true := by
    unfold eqPath
    rw [decide_eq_true rfl]
    cases ab <;> cases fo <;> rfl
  rw [e]
  exact k
theorem step_all {xs : List Str} (h : ∀ q ∈ xs, StepOk q) : xs.all stepZ = true := List.all_eq_true.mpr fun q hq => (h q hq).2.2
theorem ends_app {xs ys : List Str} (h : ys ≠ []) : endsName (xs ++ ys) = endsName ys := by
  obtain ⟨zs, s, rfl⟩ : ∃ zs s, ys = zs ++ [s] := by
    rcases List.eq_nil_or_concat ys with e | ⟨zs, q, e⟩
    · exact absurd e h
    · rw [List.concat_eq_append] at e; exact ⟨zs, q, e⟩
  unfold endsName
  rw [List.getLast?_append, List.getLast?_append]
  rfl
theorem ends_last {ys : List Str} {s : Str} (h : ys.getLast? = some s) : endsName ys = !decide (s = (".." : Str)) := by
  unfold endsName
  rw [h]
theorem eqPath_self (xs : List Str) (ab fo : Bool) : eqPath xs ab fo xs ab fo = true := by
  unfold eqPath
  rw [decide_eq_true rfl]
  cases ab <;> cases fo <;> rfl
theorem placeL_zero {nds : List Nd} (W : WF LinkText PL nds) : ∃ r, placeL nds = 0 :: r := by
  obtain ⟨o, es, h⟩ := W.base.root
  have hl := (List.getElem?_eq_some_iff.mp h).1
  obtain ⟨m, hm⟩ : ∃ m, nds.length = m + 1 := ⟨nds.length - 1, by omega⟩
  unfold placeL
  rw [hm, List.range_succ_eq_map, List.filter_cons]
  have : dirAt nds 0 = true := by unfold dirAt; rw [h]; rfl
  rw [this, if_pos rfl]
  exact ⟨_, rfl⟩
def spLaw (K : PySem.W.Frag) (P0 : Addr) : Sp := fun vs H Q _ => ∃ (a : Addr) (ns : List Int), vs = [.ref a] ∧ SqL K H a (ns.map V.int) ∧ ns.length ≤ 63 ∧ Tabs [(P0, qBy)] H ∧ ∀ H', Q (.bl true) H'
structure TxtL (K : PySem.W.Frag) (mg : Str → Option Value) (fState fNodes fTree fSs fNo fText : Addr) : Prop where
  g_state : mg "_law_state" = some (.ref fState)
  kp_state : PySem.W.keepIn K (.ref fState) = true
  g_nodes : mg "_law_nodes" = some (.ref fNodes)
  kp_nodes : PySem.W.keepIn K (.ref fNodes) = true
  g_tree : mg "_law_tree" = some (.ref fTree)
  kp_tree : PySem.W.keepIn K (.ref fTree) = true
  g_ss : mg "_law_steps" = some (.ref fSs)
  kp_ss : PySem.W.keepIn K (.ref fSs) = true
  g_no : mg "_law_noisy" = some (.ref fNo)
  kp_no : PySem.W.keepIn K (.ref fNo) = true
  g_text : mg "path_text" = some (.ref fText)
  kp_text : PySem.W.keepIn K (.ref fText) = true
abbrev lawN : List Str := ["_law_script", "_law_cell", "_law_s", "_law_nodes_here", "_law_tree_here", "_law_places", "_law_at", "_law_node", "_law_turn", "_law_place", "_law_owners", "_law_look", "_law_one", "_law_two", "_law_absolute", "_law_folder", "_law_first", "_law_whole", "_law_noisy_here"]
theorem scLaw : FnScope lawN ["_law_script"] (defScope sLaw) := ⟨rfl, rfl, rfl, by decide +kernel, rfl, by decide +kernel, by decide +kernel⟩
section
variable {P : Program} {w : World} {K : PySem.W.Frag} {mg : Str → Option Value} {base : Heap} {fNum fAt fDigit fPool CT CV CP CN CB CC CR CG CL fHm fRead fCmI fCmE fRfE fRfI fLkI fPI fPE fBeg fBgn fEnd fWk fSt fState fNodes fTree fSs fNo fText fLaw P0 : Addr} {cs : Nat → Addr}
theorem ok_law {fd fdS fdN fdD fdT fdL fdR fdP fdE fdE2 fdPE fdW fdSs fdNo fdTx fdRI : FuncData} (F : Fun K "law" "law" sLaw fLaw fd) (T : TxtK K mg fNum fAt fDigit fPool) (TQ : TxtQ mg) (TV : TxtVw K mg CV fHm fRead) (TP : TxtP K mg CP CN) (TO : TxtGo K mg CC CG CP fCmI fBeg fBgn fEnd) (TR : TxtRf K mg CR fRfI) (TW : TxtLk K mg CL fWk fSt) (TL : TxtL K mg fState fNodes fTree fSs fNo fText) (TE : EqC K CC fCmE) (TE2 : EqC K CR fRfE) (TPE : EqC K CP fPE) (TCP : TyC K CP) (T2 : TwoC K CC CR)
    (GS : FnOk P w K mg base CX0 1 fState fdS ["_law_source"] spState) (bS : Binds K fdS ["_law_source"] [])
    (GD : FnOk P w K mg base CX0 1 fDigit fdD ["_law_state_here", "_law_base"] spDigit) (bD : Binds K fdD ["_law_state_here", "_law_base"] [])
    (GN : FnOk P w K mg base CX0 3 fNodes fdN ["_law_s", "_law_many", "_law_links"] spNodes) (bN : Binds K fdN ["_law_s", "_law_many", "_law_links"] [])
    (GT : FnOk P w K mg base CX0 9 fTree fdT ["_law_nodes_here"] (spTree K cs CT P0)) (bT : Binds K fdT ["_law_nodes_here"] [])
    (ML : Mk K CL fLkI) (GL : FnOk P w K mg base CX0 3 fLkI fdL ["self", "follow", "last", "owners"] (spLkG K CL)) (bL : Binds K fdL ["self", "follow", "last", "owners"] [])
    (GR : FnOk P w K mg base (L2.CX P w) 6 fRead fdR ["text"] (spRead K CP CB)) (bR : Binds K fdR ["text"] [])
    (MP : Mk K CP fPI) (GP : FnOk P w K mg base (L2.CX P w) 4 fPI fdP ["self", "steps", "absolute", "folder"] (spPath K CP CN)) (bP : Binds K fdP ["self", "steps", "absolute", "folder"] [])
    (GE : FnOk P w K mg base CX0 1 fCmE fdE ["self", "other"] (spResE CC CC CR)) (bE : Binds K fdE ["self", "other"] [])
    (GE2 : FnOk P w K mg base CX0 1 fRfE fdE2 ["self", "other"] (spResE CR CC CR)) (bE2 : Binds K fdE2 ["self", "other"] [])
    (GPE : FnOk P w K mg base CX0 1 fPE fdPE ["self", "other"] (spEqP K CP)) (bPE : Binds K fdPE ["self", "other"] [])
    (GW : FnOk P w K mg base CX0 10 fWk fdW ["tree", "place", "path", "look"] (spWkG K cs CT CP CC CR CL)) (bW : Binds K fdW ["tree", "place", "path", "look"] [])
    (GSs : FnOk P w K mg base CX0 2 fSs fdSs ["_law_s", "_law_most"] spSs) (bSs : Binds K fdSs ["_law_s", "_law_most"] [])
    (GNo : FnOk P w K mg base CX0 2 fNo fdNo ["_law_s", "_law_steps_here", "_law_absolute", "_law_folder"] (spNo K)) (bNo : Binds K fdNo ["_law_s", "_law_steps_here", "_law_absolute", "_law_folder"] [])
    (GTx : FnOk P w K mg base CX0 2 fText fdTx ["path"] (spText K CP)) (bTx : Binds K fdTx ["path"] [])
    (GRI : FnOk P w K mg base CX0 1 fRfI fdRI ["self", "why"] (spRfI K CR)) (bRI : Binds K fdRI ["self", "why"] []) :
    FnOk P w K mg base CX0 12 fLaw fd ["_law_script"] (spLaw K P0) := by
  have nd := scLaw.nd
  refine F.ok scLaw (fun vs H Q E h => ?_) (fun cdv A outer s H vs Q E hr h => ?_)
  · obtain ⟨a, ns, rfl, _⟩ := h
    rfl
  · obtain ⟨a, ns, rfl, hS, hlen, hT0, k⟩ := h
    have hr1 : Room 1 _ := hr.mono (by decide)
    have hr2 : Room 2 _ := hr.mono (by decide)
    have hr3 : Room 3 _ := hr.mono (by decide)
    have hr4 : Room 4 _ := hr.mono (by decide)
    have hr5 : Room 5 _ := hr.mono (by decide)
    have hr6 : Room 6 _ := hr.mono (by decide)
    have hr9 : Room 9 _ := hr.mono (by decide)
    have hr10 : Room 10 _ := hr.mono (by decide)
    have hs : sizeLine = 16777216 := sizeLine_eq
    refine ⟨_, (pss_cons (ps_for PassesOwn.never rfl (pi_list (pe_slice sl_list (pe_op op_catS (pv 0) (pe_lst (pa_cons pe_int pa_nil))) po_none (po_some pe_int))) (pg_name (i := 1) nd rfl (Or.inl rfl))
  (pss_cons (ps_set (i := 2) nd rfl (Or.inl rfl) (pe_call GS hr1 (by rfl) TL.g_state TL.kp_state bS .nil pass0 (pa_cons (pv 1) pa_nil)))
  (pss_cons (ps_set (i := 3) nd rfl (Or.inl rfl) (pe_call GN hr3 (by rfl) TL.g_nodes TL.kp_nodes bN .nil pass0 (pa_cons (pv 2) (pa_cons (pe_call GD hr1 (by rfl) T.g_digit T.kp_digit bD .nil pass0 (pa_cons (pv 2) (pa_cons pe_int pa_nil))) (pa_cons pe_int pa_nil)))))
  (pss_cons (ps_set (i := 4) nd rfl (Or.inl rfl) (pe_call GT hr9 (by rfl) TL.g_tree TL.kp_tree bT .nil pass0 (pa_cons (pv 3) pa_nil)))
  (pss_cons (ps_setLc (i := 5) (own := [("_law_at", 6), ("_law_node", 7)]) (g := gTup K 2 (gCons (gName 6) (gCons (gName 7) gNil))) (tt := tTest (tOp (rIn K false) (tOp (rIxT K) (tVar 7) (tC (V.int 0))) (tTup (tCons (tC (V.str "folder")) (tCons (tC (V.str "gone")) tNil))))) rfl nd rfl rfl (sw_true rfl rfl rfl (by decide +kernel)) (pi_enum (by rfl) TQ.m_enumerate (pa_cons (pv 3) pa_nil)) (blkOk_by (N := lawN) (sc := defScope sLaw) (by decide +kernel)) (fun _ _ _ _ _ => (pg_tup (by rfl) (pgs_cons (pg_name (i := 6) nd rfl (Or.inl rfl)) (pgs_cons (pg_name (i := 7) nd rfl (Or.inl rfl)) pgs_nil)))) (fun _ _ _ _ _ => pts_one (pt_cmpR op_in_seq (pe_ix ix_tup (pv 7) pe_int (fun _ _ => rfl)) (pe_tup (pa_cons pe_str (pa_cons pe_str pa_nil))) (by rfl))) (fun _ _ _ _ _ => (pv 6)))
  (pss_one (ps_for PassesOwn.never rfl (pi_range1 (by rfl) T.m_range (pa_cons pe_int pa_nil)) (pg_name (i := 8) nd rfl (Or.inl rfl))
  (pss_cons (ps_set (i := 9) nd rfl (Or.inl rfl) (pe_ix ix_list (pv 5) (pe_call GD hr1 (by rfl) T.g_digit T.kp_digit bD .nil pass0 (pa_cons (pv 2) (pa_cons (pe_callB call_len_seq (by rfl) T.m_len (by decide +kernel) (pa_cons (pv 5) pa_nil)) pa_nil))) (fun _ _ => rfl)))
  (C8.pss_cut (ps_set (i := 10) nd rfl (Or.inl rfl) (pe_ix ix_list (pe_lst (pa_cons pe_non (pa_cons pe_non (pa_cons (pe_lst (pa_cons pe_int (pa_cons pe_int pa_nil))) (pa_cons (pe_lst (pa_cons pe_int (pa_cons pe_int pa_nil))) pa_nil))))) (pe_call GD hr1 (by rfl) T.g_digit T.kp_digit bD .nil pass0 (pa_cons (pv 2) (pa_cons pe_int pa_nil))) (fun _ _ => rfl)))
  (pss_cons (ps_set (i := 11) nd rfl (Or.inl rfl) (pe_make ML GL hr4 (by rfl) TW.gL bL .nil pass0 (pa_cons (pe_cmpR op_gt (pe_call GD hr1 (by rfl) T.g_digit T.kp_digit bD .nil pass0 (pa_cons (pv 2) (pa_cons pe_int pa_nil))) pe_int (nomark _)) (pa_cons (pe_cmpR op_eq (pe_call GD hr1 (by rfl) T.g_digit T.kp_digit bD .nil pass0 (pa_cons (pv 2) (pa_cons pe_int pa_nil))) pe_int (nomark _)) (pa_cons (pv 10) pa_nil)))))
  (pss_cons (ps_par3 (i := 12) (j := 13) (l := 14) (by rfl) nd rfl rfl rfl (by decide) (by decide) (by decide) rfl rfl rfl (pa_cons (pe_call GSs hr2 (by rfl) TL.g_ss TL.kp_ss bSs .nil pass0 (pa_cons (pv 2) (pa_cons pe_int pa_nil))) (pa_cons (pe_call GSs hr2 (by rfl) TL.g_ss TL.kp_ss bSs .nil pass0 (pa_cons (pv 2) (pa_cons pe_int pa_nil))) (pa_cons (pe_cmpR op_eq (pe_call GD hr1 (by rfl) T.g_digit T.kp_digit bD .nil pass0 (pa_cons (pv 2) (pa_cons pe_int pa_nil))) pe_int (nomark _)) pa_nil))) (by rfl))
  (C8.pss_cut (ps_set (i := 15) nd rfl (Or.inl rfl) (pe_or (pe_cmpR op_eq (pe_call GD hr1 (by rfl) T.g_digit T.kp_digit bD .nil pass0 (pa_cons (pv 2) (pa_cons pe_int pa_nil))) pe_int (nomark _)) (pe_one (pe_cmpR op_eq (pe_ix ix_list (pv 13) (pe_un un_neg pe_int) (fun _ _ => rfl)) pe_str (nomark _)))))
  (pss_cons (ps_set (i := 16) nd rfl (Or.inl rfl) (pe_call GW hr10 (by rfl) TW.gwk TW.kwk bW .nil pass0 (pa_cons (pv 4) (pa_cons (pv 9) (pa_cons (pe_make MP GP hr5 (by rfl) TP.g_Path bP .nil (passes_call L2.takes0 (fun _ _ _ _ h => h)) (pa_cons (pv 12) (pa_cons (pv 14) (pa_cons pe_bl pa_nil)))) (pa_cons (pv 11) pa_nil))))))
  (pss_cons (ps_set (i := 17) nd rfl (Or.inl rfl) (pe_call GW hr10 (by rfl) TW.gwk TW.kwk bW .nil pass0 (pa_cons (pv 4) (pa_cons (pv 9) (pa_cons (pe_make MP GP hr5 (by rfl) TP.g_Path bP .nil (passes_call L2.takes0 (fun _ _ _ _ h => h)) (pa_cons (pe_op op_catS (pv 12) (pv 13)) (pa_cons (pv 14) (pa_cons (pv 15) pa_nil)))) (pa_cons (pv 11) pa_nil))))))
  (pss_cons (ps_if (pt_cut (pt_cmpR (op_orR (op_eqOwn GE hr1 TE.e1 TE.e2 bE pass0) (op_eqOwn GE2 hr1 TE2.e1 TE2.e2 bE2 pass0)) (pv 17) (pe_make TR.mkR GRI hr2 (by rfl) TR.gR bRI .nil pass0 (pa_cons pe_str pa_nil)) (nomark _))) (pss_one ps_continue) pss_nil)
  (C8.pss_cut (ps_if (pt_val (pe_callB call_isi (by rfl) T.m_isinstance (by decide +kernel) (pa_cons (pv 16) (pa_cons (pe_glob (v := .ref CR) (by rfl) TR.gR rfl) pa_nil)))) (pss_one (ps_if (pt_cut (pt_cmpR (op_orR (op_neOwn GE hr2 TE.e1 TE.e2 TE.e3 TE.e4 bE pass0) (op_neOwn GE2 hr2 TE2.e1 TE2.e2 TE2.e3 TE2.e4 bE2 pass0)) (pv 17) (pv 16) (nomark _))) (pss_one (ps_ret pe_bl)) pss_nil)) (pss_one (ps_if (pt_cut (pt_cmpR (op_orR (op_neOwn GE hr2 TE.e1 TE.e2 TE.e3 TE.e4 bE pass0) (op_neOwn GE2 hr2 TE2.e1 TE2.e2 TE2.e3 TE2.e4 bE2 pass0)) (pv 17) (pe_call GW hr10 (by rfl) TW.gwk TW.kwk bW .nil pass0 (pa_cons (pv 4) (pa_cons (pe_fld (pv 16) rfl) (pa_cons (pe_make MP GP hr5 (by rfl) TP.g_Path bP .nil (passes_call L2.takes0 (fun _ _ _ _ h => h)) (pa_cons (pv 13) (pa_cons pe_bl (pa_cons (pv 15) pa_nil)))) (pa_cons (pv 11) pa_nil))))) (nomark _))) (pss_one (ps_ret pe_bl)) pss_nil)))
  (C8.pss_cut (ps_set (i := 18) nd rfl (Or.inl rfl) (pe_call GR hr6 (by rfl) TV.g_read TV.kp_read bR .nil (passes_call L2.takes0 (fun _ _ _ _ h => h)) (pa_cons (pe_call GNo hr2 (by rfl) TL.g_no TL.kp_no bNo .nil pass0 (pa_cons (pv 2) (pa_cons (pe_op op_catS (pv 12) (pv 13)) (pa_cons (pv 14) (pa_cons (pv 15) pa_nil))))) pa_nil)))
  (pss_cons (ps_if (PW.pt (pw_or (pt_cut (pt_cmpR (op_neOwn GPE hr2 TPE.e1 TPE.e2 TPE.e3 TPE.e4 bPE pass0) (pv 18) (pe_make MP GP hr5 (by rfl) TP.g_Path bP .nil (passes_call L2.takes0 (fun _ _ _ _ h => h)) (pa_cons (pe_op op_catS (pv 12) (pv 13)) (pa_cons (pv 14) (pa_cons (pv 15) pa_nil)))) (nomark _))) (pw_or1 (pt_cut (pt_cmpR (op_neOwn GPE hr2 TPE.e1 TPE.e2 TPE.e3 TPE.e4 bPE pass0) (pe_call GR hr6 (by rfl) TV.g_read TV.kp_read bR .nil (passes_call L2.takes0 (fun _ _ _ _ h => h)) (pa_cons (pe_call GTx hr2 (by rfl) TL.g_text TL.kp_text bTx .nil pass0 (pa_cons (pv 18) pa_nil)) pa_nil)) (pv 18) (nomark _)))))) (pss_one (ps_ret pe_bl)) pss_nil)
  (pss_cons (ps_if (PW.pt (pw_or (pt_cut (pt_cmpR (op_orR (op_neOwn GE hr2 TE.e1 TE.e2 TE.e3 TE.e4 bE pass0) (op_neOwn GE2 hr2 TE2.e1 TE2.e2 TE2.e3 TE2.e4 bE2 pass0)) (pe_call GW hr10 (by rfl) TW.gwk TW.kwk bW .nil pass0 (pa_cons (pv 4) (pa_cons (pv 9) (pa_cons (pv 18) (pa_cons (pv 11) pa_nil))))) (pv 17) (nomark _))) (pw_or1 (pt_cut (pt_cmpR (op_orR (op_neOwn GE hr2 TE.e1 TE.e2 TE.e3 TE.e4 bE pass0) (op_neOwn GE2 hr2 TE2.e1 TE2.e2 TE2.e3 TE2.e4 bE2 pass0)) (pe_call GW hr10 (by rfl) TW.gwk TW.kwk bW .nil pass0 (pa_cons (pv 4) (pa_cons (pv 9) (pa_cons (pv 18) (pa_cons (pv 11) pa_nil))))) (pv 17) (nomark _)))))) (pss_one (ps_ret pe_bl)) pss_nil)
  (pss_one (ps_if (PW.pt (pw_and (pt_val (pv 14)) (pw_and1 (pt_cut (pt_cmpR (op_orR (op_neOwn GE hr2 TE.e1 TE.e2 TE.e3 TE.e4 bE pass0) (op_neOwn GE2 hr2 TE2.e1 TE2.e2 TE2.e3 TE2.e4 bE2 pass0)) (pe_call GW hr10 (by rfl) TW.gwk TW.kwk bW .nil pass0 (pa_cons (pv 4) (pa_cons (pe_ix ix_list (pv 5) pe_int (fun _ _ => rfl)) (pa_cons (pv 18) (pa_cons (pv 11) pa_nil))))) (pv 17) (nomark _)))))) (pss_one (ps_ret pe_bl)) pss_nil)))))))))))))))))))))
  (pss_one (ps_ret pe_bl))), ?_⟩
    refine ⟨_, rfl, (by show 1 ≤ sizeLine; decide), fun q hq => ⟨a, q, ns.map V.int, [.int 0], rfl, rfl, (NG.Same.upd hq).seq hS, SqL.of upd_same, (by rw [List.length_map]; show ns.length + 1 ≤ _; omega), fun r hr' => ?_⟩⟩
    have sa : Same H (upd (upd H q (.lst [.int 0])) r (.lst (ns.map V.int ++ [.int 0]))) := (NG.Same.upd hq).trans (NG.Same.upd hr')
    have er : (upd (upd H q (.lst [.int 0])) r (.lst (ns.map V.int ++ [.int 0]))) r = some (.lst (ns.map V.int ++ [.int 0])) := upd_same
    generalize upd (upd H q (.lst [.int 0])) r (.lst (ns.map V.int ++ [.int 0])) = Ha at sa er
    refine ⟨_, rfl, r, _, rfl, SqL.of er, fun c hc => ?_⟩
    have sb : Same H (upd Ha c (.lst (cutV (ns.map V.int ++ [.int 0]) none (some 3)))) := sa.trans (NG.Same.upd hc)
    have ec : (upd Ha c (.lst (cutV (ns.map V.int ++ [.int 0]) none (some 3)))) c = some (.lst (cutV (ns.map V.int ++ [.int 0]) none (some 3))) := upd_same
    have hints : ∀ x ∈ cutV (ns.map V.int ++ [.int 0]) none (some 3), ∃ n, x = V.int n := fun x hx => by
      have h1 : x ∈ ns.map V.int ++ [.int 0] := List.mem_of_mem_drop (List.mem_of_mem_take hx)
      rcases List.mem_append.mp h1 with h | h
      · obtain ⟨n, _, e⟩ := List.mem_map.mp h
        exact ⟨n, e.symm⟩
      · exact ⟨0, List.mem_singleton.mp h⟩
    generalize cutV (ns.map V.int ++ [.int 0]) none (some 3) = cells at sb ec hints
    generalize upd Ha c (.lst cells) = Hb at sb ec
    have hTb : Tabs [(P0, qBy)] Hb := hT0.ext fun b u e => sb _ _ e
    refine ⟨c, rfl, ⟨_, SqL.of ec⟩, for_list (K := K) (a := c) (xs := cells) (fun i σ H' => (∃ v1 v2 v3 v4 v5 v6 v7 v8 v9 v10 v11 v12 v13 v14 v15 v16 v17 v18 : Option V, σ = [some (.ref a), v1, v2, v3, v4, v5, v6, v7, v8, v9, v10, v11, v12, v13, v14, v15, v16, v17, v18]) ∧ ExtN Hb H' ∧ Tabs [(P0, qBy)] H')
      ⟨⟨none, none, none, none, none, none, none, none, none, none, none, none, none, none, none, none, none, none, rfl⟩, NG.ExtN.same (Same.refl _), hTb⟩ (fun i σ H' _ h => ExtN.sqL h.2.1 (SqL.of ec)) ?_ ?_⟩
    · rintro i y σ H1 hi ⟨⟨v1, v2, v3, v4, v5, v6, v7, v8, v9, v10, v11, v12, v13, v14, v15, v16, v17, v18, rfl⟩, e1, t1⟩
      obtain ⟨n, rfl⟩ := hints y (List.mem_of_getElem? hi)
      refine ⟨_, rfl, n, rfl, fun p o hp ho => ?_⟩
      have hbp : ∀ u, Hb p = some u → (∀ ps, u ≠ .tbl ps) → False := fun u e n => by rw [e1 _ _ e n] at hp; cases hp
      have sp1 : Same H1 (upd H1 p o) := NG.Same.upd hp
      have ep1 : (upd H1 p o) p = some o := upd_same
      generalize upd H1 p o = H2 at sp1 ep1
      refine ⟨_, rfl, _, rfl, p, 20, o, rfl, by decide, by decide, ep1, ho, fun d o2 d0 d1 ho2 => ?_⟩
      have dr2 : Dr p H2 (upd H2 p o2) := (Dr.refl ep1 ho).next ho2
      generalize upd H2 p o2 = H3 at dr2
      refine ⟨p, d, 6, rfl, dr2.st, d0, by omega, fun N ads nds H5 dr3 ND W AP hl => ?_⟩
      have hNp : N ≠ p := AP.1
      have hAp : ∀ ad ∈ ads, ad.2 ≠ p := AP.2.1
      have s5 : Same H1 H5 := fun b u e => by
        have hb : b ≠ p := ne_of_none e hp
        exact dr3.but _ _ (dr2.but _ _ (sp1 _ _ e) hb) hb
      have hl : nds.length ≤ 30 := by omega
      have e5 := e1.trans (NG.ExtN.same s5)
      have t5 : Tabs [(P0, qBy)] H5 := t1.ext fun b u e => s5 _ _ e
      obtain ⟨o5, hp5, ho5⟩ := dr3.st
      have lo : ∀ {o : HO}, DSo o → ∀ ps, o ≠ .tbl ps := fun h _ z => by obtain ⟨_, _, _, q, _⟩ := h; rw [q] at z; cases z
      refine ⟨_, rfl, N, ads, nds, rfl, ND, W, by omega, t5, fun H8 t qs e8 t8 TA8 => ?_⟩
      have hp8 : H8 p = some o5 := e8 _ _ hp5 (lo ho5)
      have NW8 := ND.w.ext e8
      have e18 := e5.trans e8
      clear dr2 dr3 sp1 ep1 s5 ND
      refine ⟨_, rfl, N, _, rfl, SqL.of NW8.ls, fun PLc hPL => ?_⟩
      have lx : (ads.map fun a => V.ref a.1).length = nds.length := by rw [List.length_map, NW8.len]
      refine lc_enum (K := K) (a := N) (xs := ads.map fun a => V.ref a.1) (i := 6) (j := 7) (by decide) (dirAt nds) (fun i => V.int (i : Nat)) (by omega) hPL (fun H' s => SqL.of (s _ _ NW8.ls)) (fun i x H' R hx s hR => ?_) (fun i x H' R _ _ s hR => ⟨_, rfl, hR _ (Same.refl _)⟩) (fun H9 s9 e9 => ?_)
      · have hi : i < nds.length := by rw [← lx]; exact (List.getElem?_eq_some_iff.mp hx).1
        have hni : nds[i]? = some nds[i] := List.getElem?_eq_getElem hi
        generalize nds[i] = y at hni
        obtain ⟨adi, hai, hNi⟩ := (NW8.same s).at_ hni
        rw [hx] at hai
        obtain rfl := Option.some.inj hai
        obtain ⟨resti, hri⟩ := nd_kind hNi
        refine ⟨_, rfl, adi.1, _, 0, _, rfl, rfl, SqT.of hri, atI_zero, (by show 2 ≤ sizeLine; omega), fun t1 ht1 => ⟨t1, _, rfl, .inr (SqT.of upd_same), rfl, rfl, _, rfl, ?_⟩⟩
        rw [if_neg Bool.false_ne_true, kind_dir]
        have e : dirAt nds i = isDir y := (by unfold dirAt; rw [hni])
        rw [e] at hR
        exact hR _ (NG.Same.upd ht1)
      rw [lx] at e9
      have ePL : H9 PLc = some (.lst ((placeL nds).map fun i => V.int (i : Nat))) := e9
      have NW9 := NW8.same s9
      have TA9 := TA8.same s9
      have hp9 := s9 _ _ hp8
      have t9 : Tabs [(P0, qBy)] H9 := t8.ext fun b u e => s9 _ _ e
      have e19 := e18.trans (NG.ExtN.same s9)
      have st9 : ∃ o, H9 p = some o ∧ DSo o := ⟨o5, hp9, ho5⟩
      have hPp : PLc ≠ p := (ne_of_none hp8 hPL).symm
      clear NW8 TA8 hp8 t8 e18 s9 e9 e8 hPL
      refine ⟨8, rfl, by decide, by decide, for_range (n := 8) (fun i σ H' => (∃ v6 v7 v8 v9 v10 v11 v12 v13 v14 v15 v16 v17 v18 : Option V, σ = [some (.ref a), some (.int n), some (.ref p), some (.ref N), some (.ref t), some (.ref PLc), v6, v7, v8, v9, v10, v11, v12, v13, v14, v15, v16, v17, v18]) ∧ Dr p H9 H') ⟨⟨_, _, _, _, _, _, _, _, _, _, _, _, _, rfl⟩, Dr.refl hp9 ho5⟩ ?_ ?_⟩
      · rintro i σ H10 hi ⟨⟨v6, v7, v8, v9, v10, v11, v12, v13, v14, v15, v16, v17, v18, rfl⟩, dr10⟩
        obtain ⟨o11, hp11, ho11⟩ := dr10.st
        have ePL11 := dr10.but _ _ ePL hPp
        have hpos := placeL_pos W
        have hple := placeL_le nds
        have lPL : ((placeL nds).map fun i : Nat => V.int (i : Nat)).length = (placeL nds).length := List.length_map _
        refine ⟨_, rfl, _, rfl, _, rfl, PLc, _, rfl, .inl (SqL.of ePL11), p, _, o11, rfl, (by rw [lPL]; omega), (by rw [lPL]; omega), hp11, ho11, fun e o12 e0 e1 ho12 => ?_⟩
        obtain ⟨v, hv, ev⟩ := pick (xs := (placeL nds).map fun i : Nat => V.int (i : Nat)) e0 e1
        obtain ⟨g, hg, rfl⟩ := List.mem_map.mp hv
        have hfg : FolG nds g := dirAt_fol (List.mem_filter.mp hg).2
        have dr12 := dr10.next ho12
        have ePL12 : (upd H10 p o12) PLc = some (.lst ((placeL nds).map fun i : Nat => V.int (i : Nat))) := by rw [upd_ne hPp]; exact ePL11
        generalize upd H10 p o12 = H12 at dr12 ePL12 ⊢
        refine ⟨PLc, _, e, _, rfl, rfl, SqL.of ePL12, ev, ?_⟩
        refine ⟨fun σ H' => ∃ (ow : V) (oo : Option (List Int)) (w8 : Option V), σ = [some (.ref a), some (.int n), some (.ref p), some (.ref N), some (.ref t), some (.ref PLc), v6, v7, w8, some (.int (g : Nat)), some ow, v11, v12, v13, v14, v15, v16, v17, v18] ∧ Dr p H9 H' ∧ OwnC H' ow oo ∧ (∀ L, ow = .ref L → L ≠ p), ?_, ?_⟩
        · refine ⟨(by show 2 ≤ sizeLine; omega), fun q1 h1 => ⟨(by show 2 ≤ sizeLine; omega), fun q2 h2 => ⟨(by show 4 ≤ sizeLine; omega), fun l hll => ?_⟩⟩⟩
          have up : ∀ {Ha : Hp} {x : Addr} {o : HO}, Dr p H9 Ha → Ha x = none → Dr p H9 (upd Ha x o) ∧ x ≠ p := fun {Ha x o} d hx => ⟨d.same (NG.Same.upd hx), fun q => by
            obtain ⟨u, hu, _⟩ := d.st
            rw [← q, hx] at hu
            cases hu⟩
          have a1 := up (o := HO.lst [.int 0, .int 1]) dr12 h1
          have e1 : (upd H12 q1 (.lst [.int 0, .int 1])) q1 = some (.lst [.int 0, .int 1]) := upd_same
          generalize upd H12 q1 (.lst [.int 0, .int 1]) = K1 at a1 e1 h2 hll ⊢
          have a2 := up (o := HO.lst [.int 1, .int 2]) a1.1 h2
          have e2 : (upd K1 q2 (.lst [.int 1, .int 2])) q2 = some (.lst [.int 1, .int 2]) := upd_same
          have s2 := NG.Same.upd (o := HO.lst [.int 1, .int 2]) h2
          generalize upd K1 q2 (.lst [.int 1, .int 2]) = K2 at a2 e2 s2 hll ⊢
          have a8 := up (o := HO.lst [.non, .non, .ref q1, .ref q2]) a2.1 hll
          have e8 : (upd K2 l (.lst [.non, .non, .ref q1, .ref q2])) l = some (.lst [.non, .non, .ref q1, .ref q2]) := upd_same
          have s8 := NG.Same.upd (o := HO.lst [.non, .non, .ref q1, .ref q2]) hll
          generalize upd K2 l (.lst [.non, .non, .ref q1, .ref q2]) = K8 at a8 e8 s8 ⊢
          obtain ⟨o8, hp8, ho8⟩ := a8.1.st
          refine ⟨_, rfl, p, 4, o8, rfl, by decide, by decide, hp8, ho8, fun e o9 e0 e1' ho9 => ?_⟩
          have d9 := (Dr.refl hp8 ho8).next ho9
          have d99 := a8.1.trans d9
          obtain ⟨v, hv, ev⟩ := pick (xs := [V.non, V.non, .ref q1, .ref q2]) e0 e1'
          refine ⟨l, _, e, v, rfl, rfl, SqL.of (d9.but _ _ e8 a8.2), ev, ?_⟩
          simp only [List.mem_cons, List.not_mem_nil, or_false] at hv
          have one : ∀ {x : Addr}, x ≠ p → ∀ L, V.ref x = .ref L → L ≠ p := fun h L q => by injection q with q; rw [← q]; exact h
          rcases hv with rfl | rfl | rfl | rfl
          · exact ⟨.non, none, _, rfl, d99, rfl, fun L q => by cases q⟩
          · exact ⟨.non, none, _, rfl, d99, rfl, fun L q => by cases q⟩
          · exact ⟨_, some [0, 1], _, rfl, d99, ⟨q1, rfl, d9.but _ _ (s8 _ _ (s2 _ _ e1)) a1.2, by simp, by simp⟩, one a1.2⟩
          · exact ⟨_, some [1, 2], _, rfl, d99, ⟨q2, rfl, d9.but _ _ (s8 _ _ e2) a2.2, by simp, by simp⟩, one a2.2⟩
        rintro σ H12 ⟨ow, oo, w8, rfl, dr12, OW12, nOW⟩
        obtain ⟨o12', hp12, ho12'⟩ := dr12.st
        refine ⟨_, rfl, p, 3, o12', rfl, by decide, by decide, hp12, ho12', fun b1 o13 _ _ ho13 => ⟨_, _, rfl, rfl, ?_⟩⟩
        have dr13 := dr12.next ho13
        have OW13 := OW12.dr ((Dr.refl hp12 ho12').next ho13) nOW
        generalize upd H12 p o13 = H13 at dr13 OW13 ⊢
        obtain ⟨o13', hp13, ho13'⟩ := dr13.st
        refine ⟨_, rfl, p, 2, o13', rfl, by decide, by decide, hp13, ho13', fun b2 o14 _ _ ho14 => ⟨rfl, _, rfl, ?_⟩⟩
        have dr14 := dr13.next ho14
        have OW14 := OW13.dr ((Dr.refl hp13 ho13').next ho14) nOW
        generalize upd H13 p o14 = H14 at dr14 OW14 ⊢
        refine fun x dx nx ndx nex => ⟨x, dx, _, _, ow, oo, H14, rfl, upd_same, nx, new_ext (C := CL) nx ndx, OW14.own, fun H15 s15 LA15 => ⟨rfl, ?_⟩⟩
        generalize decide (0 < b1) = fo at LA15
        generalize decide (V.int b2 = V.int 0) = la at LA15
        have dr15 := dr14.same s15
        clear OW12 OW13 OW14 dr12 dr13 dr14 s15
        refine ⟨_, rfl, p, 4, rfl, dr15.st, by decide, by decide, fun L1 one H16 d16 _ nL1 eA hne1 hl1 hok1 => ?_⟩
        refine ⟨_, rfl, p, 4, rfl, d16.st, by decide, by decide, fun L2 two H17 d17 _ nL2 eB hne2 hl2 hok2 => ?_⟩
        have eA17 := d17.but _ _ eA nL1
        obtain ⟨o17, hp17, ho17⟩ := d17.st
        refine ⟨_, rfl, p, 3, o17, rfl, by decide, by decide, hp17, ho17, fun b3 o18 _ _ ho18 => ⟨rfl, _, _, _, rfl, ?_⟩⟩
        generalize decide (V.int b3 = V.int 0) = ab
        have d1518 := (d16.trans d17).next ho18
        have dr18 := dr15.trans d1518
        have eA18 : (upd H17 p o18) L1 = some (.lst (one.map V.str)) := by rw [upd_ne nL1]; exact eA17
        have eB18 : (upd H17 p o18) L2 = some (.lst (two.map V.str)) := by rw [upd_ne nL2]; exact eB
        have LA18 := LA15.extX (drX d1518 dr15.st)
        generalize upd H17 p o18 = H18 at dr18 eA18 eB18 LA18 ⊢
        clear eA eB eA17 d1518 d16 d17 LA15 dr15 hp17
        obtain ⟨tw, s2, htw⟩ : ∃ tw s2, two = tw ++ [s2] := by
          rcases List.eq_nil_or_concat two with e | ⟨ys, q, e⟩
          · exact absurd e hne2
          · rw [List.concat_eq_append] at e; exact ⟨ys, q, e⟩
        have hlast : two.getLast? = some s2 := by rw [htw]; simp
        refine ⟨fun σ H' => ∃ fol : Bool, σ = [some (.ref a), some (.int n), some (.ref p), some (.ref N), some (.ref t), some (.ref PLc), v6, v7, w8, some (.int (g : Nat)), some ow, some (.ref x), some (.ref L1), some (.ref L2), some (.bl ab), some (.bl fol), v16, v17, v18] ∧ Dr p H9 H' ∧ H' L1 = some (.lst (one.map V.str)) ∧ H' L2 = some (.lst (two.map V.str)) ∧ LookAt K CL H' x fo la oo ∧ (fol = false → s2 ≠ (".." : Str)), ?_, ?_⟩
        · obtain ⟨o18', hp18, ho18'⟩ := dr18.st
          refine ⟨_, rfl, p, 2, o18', rfl, by decide, by decide, hp18, ho18', fun b4 o19 _ _ ho19 => ⟨rfl, _, rfl, ?_⟩⟩
          have d19 := (Dr.refl hp18 ho18').next ho19
          have f1 := d19.but _ _ eA18 nL1
          have f2 := d19.but _ _ eB18 nL2
          have f3 := LA18.extX (drX d19 dr18.st)
          refine ite2 (fun _ => ⟨true, rfl, dr18.trans d19, f1, f2, f3, fun h => by cases h⟩) (fun _ => ?_)
          refine ⟨_, rfl, _, rfl, L2, _, _, .str s2, rfl, rfl, SqL.of f2, (by rw [htw, List.map_append]; exact atI_last _ _), rfl, _, rfl, dr18.trans d19, f1, f2, f3, fun h q => ?_⟩
          have := of_decide_eq_false h
          exact this (by rw [q])
        rintro σ H20 ⟨fol, rfl, dr20, eA, eB, LA, hfol⟩
        clear LA18 eA18 eB18 dr18
        have st20 := dr20.st
        have TA := TA9.extX (drX dr20 st9)
        have W' := wf_srt W
        have lm : (nds.map srtN).length ≤ 1000 := by rw [List.length_map]; omega
        have hok12 : ∀ q ∈ one ++ two, StepOk q := fun q hq => by
          rcases List.mem_append.mp hq with h | h
          · exact hok1 q h
          · exact hok2 q h
        have hends : endsName two = !decide (s2 = (".." : Str)) := ends_last hlast
        have okfol : (fol || endsName two) = true := by
          cases fol with
          | true => rfl
          | false => rw [hends, decide_eq_false (hfol rfl)]; rfl
        have ok1 : okPath one true = true := by unfold okPath; rw [step_all hok1]; rfl
        have ok2 : okPath two fol = true := by unfold okPath; rw [step_all hok2, okfol]; rfl
        have ok12 : okPath (one ++ two) fol = true := by unfold okPath; rw [step_all hok12, ends_app hne2, okfol]; rfl
        have l12 : (one ++ two).length ≤ 20 := by rw [List.length_append]; omega
        have lz : ∀ {xs : List Str}, (∀ q ∈ xs, StepOk q) → ∀ z ∈ xs, z.length ≤ sizeLine := fun h z hz => by have := compB_len (h z hz).1.1; omega
        have oS : ∀ q ∈ one ++ two, okS q := fun q hq => compB_ok (hok12 q hq).1.1
        have hf0 : FolG (nds.map srtN) (if ab = true then 0 else g) := by
          cases ab with
          | true =>
            obtain ⟨o', es, h⟩ := W'.base.root
            exact ⟨_, h, .inl rfl⟩
          | false =>
            obtain ⟨nd, hn, hc⟩ := hfg
            refine ⟨_, srt_get hn, ?_⟩
            cases nd <;> exact hc
        have fsrt : ∀ {i : Nat}, FolG nds i → FolG (nds.map srtN) i := fun ⟨nd, hn, hc⟩ => ⟨_, srt_get hn, by cases nd <;> exact hc⟩
        -- the first part
        refine ⟨_, rfl, _, rfl, _, rfl, _, rfl, fun xr dxr nxr ndxr nexr => ⟨xr, dxr, L1, one, ab, true, rfl, upd_same, .inl (SqL.of (new_ext (C := CP) nxr ndxr _ _ eA)), lz hok1, (by omega), fun _ H21 b21 PA1 => ⟨rfl, ?_⟩, fun h => by rw [ok1] at h; cases h⟩⟩
        have s21 : Same H20 H21 := fun b u e => b21 _ _ (new_ext (C := CP) nxr ndxr _ _ e) (ne_of_none e nxr)
        refine ⟨_, rfl, t, qs, nds.map srtN, g, xr, x, one, ab, true, fo, la, oo, rfl, TA.same s21, lm, fsrt hfg, PA1, LA.same s21, (by omega), fun H22 r1 res1 s22 run1 at1 => ?_⟩
        -- the whole
        have sA := s21.trans s22
        have catE : ∀ {Hx : Hp} {q : Addr}, (upd Hx q (.lst (one.map V.str ++ two.map V.str))) q = some (.lst ((one ++ two).map V.str)) := by intro Hx q; rw [upd_same, List.map_append]
        have lcat : (one.map V.str).length + (two.map V.str).length ≤ sizeLine := by rw [List.length_map, List.length_map]; omega
        refine ⟨_, rfl, _, rfl, _, rfl, _, rfl, L1, L2, _, _, rfl, rfl, SqL.of (sA _ _ eA), SqL.of (sA _ _ eB), lcat, fun qc hqc => ?_⟩
        have sC := NG.Same.upd (o := HO.lst (one.map V.str ++ two.map V.str)) hqc
        have eC := catE (Hx := H22) (q := qc)
        have sAC := sA.trans sC
        have at1C := at1.same sC
        generalize upd H22 qc (.lst (one.map V.str ++ two.map V.str)) = H23 at sC eC sAC at1C ⊢
        refine ⟨_, rfl, _, rfl, fun xw dxw nxw ndxw nexw => ⟨xw, dxw, qc, one ++ two, ab, fol, rfl, upd_same, .inl (SqL.of (new_ext (C := CP) nxw ndxw _ _ eC)), lz hok12, (by omega), fun _ H24 b24 PA2 => ⟨rfl, ?_⟩, fun h => by rw [ok12] at h; cases h⟩⟩
        have s24 : Same H23 H24 := fun b u e => b24 _ _ (new_ext (C := CP) nxw ndxw _ _ e) (ne_of_none e nxw)
        have s2024 := sAC.trans s24
        refine ⟨_, rfl, t, qs, nds.map srtN, g, xw, x, one ++ two, ab, fol, fo, la, oo, rfl, TA.same s2024, lm, fsrt hfg, PA2, LA.same s2024, (by omega), fun H25 r2 res2 s25 run2 at2 => ?_⟩
        have s2025 := s2024.trans s25
        have at1' := at1C.same (s24.trans s25)
        refine ⟨fun b H' => b = decide (res2 = .inr "links") ∧ Same H25 H', ?_, ?_⟩
        · refine ⟨_, rfl, fun xl dxl nxl ndxl nexl => ⟨xl, dxl, .str "links", rfl, upd_same, ⟨rfl, ?_⟩⟩⟩
          have sl : Same H25 (upd (upd (upd H25 dxl (.own xl)) xl (.ins CR dxl [])) xl (.ins CR dxl (fl1 "why" (.str "links")))) := fun b u e => by
            rw [upd_ne (ne_of_none e nxl)]
            exact new_ext (C := CR) nxl ndxl _ _ e
          exact eqW_of (g := fun k => k) TO.clC TR.clR T2 (at2.same sl) (res2 := .inr "links") ⟨dxl, upd_same⟩ ⟨_, rfl, rfl, sl⟩
        rintro _ H26 ⟨rfl, s26⟩
        cases hlk : decide (res2 = .inr "links") with
        | true => exact iteT ⟨⟨_, _, _, _, _, _, _, _, _, _, _, _, _, rfl⟩, dr20.same (s2025.trans s26)⟩
        | false =>
          have hnl : res2 ≠ .inr "links" := of_decide_eq_false hlk
          refine iteF ?_
          have sp := run_split W' run1 rfl (by decide) hf0 hne2 run2
          have s2026 := s2025.trans s26
          have at1F := at1'.same s26
          have at2F := at2.same s26
          have ST : True := trivial
          refine ⟨fun σ H' => σ = [some (.ref a), some (.int n), some (.ref p), some (.ref N), some (.ref t), some (.ref PLc), v6, v7, w8, some (.int (g : Nat)), some ow, some (.ref x), some (.ref L1), some (.ref L2), some (.bl ab), some (.bl fol), some (.ref r1), some (.ref r2), v18] ∧ Same H26 H', ?_, ?_⟩
          · cases res1 with
            | inr w =>
              obtain ⟨d1, e1⟩ := id at1F
              have hrw : res2 = .inr w := by
                rcases sp with ⟨why, q1, q2⟩ | ⟨i, li', q1, _⟩
                · injection q1 with q1; rw [q2, q1]
                · cases q1
              refine ⟨_, rfl, _, _, _, _, true, rfl, .own CR, .base (.ins e1 TR.clR T2.tr.c1 T2.tr.c2 T2.tr.c3 T2.tr.c4), kit_self, _, rfl, iteT ⟨fun b H' => b = false ∧ Same H26 H', ⟨_, rfl, _, rfl, eqW_of (g := fun k => !k) TO.clC TR.clR T2 at2F at1F ⟨_, rfl, by rw [hrw, decide_eq_true rfl]; rfl, Same.refl _⟩⟩, ?_⟩⟩
              rintro _ H27 ⟨rfl, s27⟩
              exact iteF ⟨rfl, s27⟩
            | inl i =>
              obtain ⟨d1, e1⟩ := id at1F
              obtain ⟨li', hli', hfi, run2'⟩ : ∃ li', li' ≤ 8 ∧ FolG (nds.map srtN) i ∧ Run (nds.map srtN) fo la oo i two fol li' res2 := by
                rcases sp with ⟨why, q1, q2⟩ | ⟨i', li', q1, q2, q3, q4⟩
                · cases q1
                · injection q1 with q1; subst q1; exact ⟨li', q2, q3, q4⟩
              have run20 := run_fewer run2' hnl hli' 0 (by omega)
              have fl : (fl1 "node" (V.int (i : Nat))).lookup ("node" : Str) = some (.int (i : Nat)) := by unfold fl1; rw [lookup_putF, if_pos rfl]
              refine ⟨_, rfl, _, _, _, _, false, rfl, .own CR, .base (.ins e1 TO.clC T2.tc.c1 T2.tc.c2 T2.tc.c3 T2.tc.c4), T2.k1, _, rfl, iteF ⟨fun b H' => b = false ∧ Same H26 H', ?_, ?_⟩⟩
              · refine ⟨_, rfl, _, rfl, _, rfl, r1, CC, d1, _, _, rfl, e1, TO.clC, TO.nC, fl, _, rfl, _, rfl, fun xt dxt nxt ndxt next => ⟨xt, dxt, L2, two, false, fol, rfl, upd_same, .inl (SqL.of (new_ext (C := CP) nxt ndxt _ _ (s2026 _ _ eB))), lz hok2, (by omega), fun _ H27 b27 PA3 => ⟨rfl, ?_⟩, fun h => by rw [ok2] at h; cases h⟩⟩
                have s27 : Same H26 H27 := fun b u e => b27 _ _ (new_ext (C := CP) nxt ndxt _ _ e) (ne_of_none e nxt)
                refine ⟨_, rfl, t, qs, nds.map srtN, i, xt, x, two, false, fol, fo, la, oo, rfl, TA.same (s2026.trans s27), lm, hfi, PA3, LA.same (s2026.trans s27), (by omega), fun H28 r3 res3 s28 run3 at3 => ?_⟩
                have h3 : res3 = res2 := run_one W' (by decide) (fun _ => hfi) run3 run20
                exact eqW_of (g := fun k => !k) TO.clC TR.clR T2 (at2F.same (s27.trans s28)) at3 ⟨_, rfl, by rw [h3, decide_eq_true rfl]; rfl, s27.trans s28⟩
              · rintro _ H27 ⟨rfl, s27⟩
                exact iteF ⟨rfl, s27⟩
          rintro σ H27 ⟨rfl, s27⟩
          have s2027 := s2026.trans s27
          have at2G := at2F.same s27
          have dr27 := dr20.same s2027
          have LA27 := LA.same s2027
          have eA27 := s2027 _ _ eA
          have eB27 := s2027 _ _ eB
          clear at2F at1F sp at1' at2 at1C run1
          refine ⟨fun σ H' => ∃ pn : Addr, σ = [some (.ref a), some (.int n), some (.ref p), some (.ref N), some (.ref t), some (.ref PLc), v6, v7, w8, some (.int (g : Nat)), some ow, some (.ref x), some (.ref L1), some (.ref L2), some (.bl ab), some (.bl fol), some (.ref r1), some (.ref r2), some (.ref pn)] ∧ Dr p H9 H' ∧ H' L1 = some (.lst (one.map V.str)) ∧ H' L2 = some (.lst (two.map V.str)) ∧ LookAt K CL H' x fo la oo ∧ ResAt CC CR H' r2 res2 ∧ PathAt K CP H' pn (one ++ two) ab fol, ?_, ?_⟩
          · refine ⟨_, rfl, _, rfl, _, rfl, L1, L2, _, _, rfl, rfl, SqL.of eA27, SqL.of eB27, lcat, fun qd hqd => ?_⟩
            have sD := NG.Same.upd (o := HO.lst (one.map V.str ++ two.map V.str)) hqd
            have eD := catE (Hx := H27) (q := qd)
            have nqd : qd ≠ p := by
              obtain ⟨u, hu, _⟩ := dr27.st
              exact (ne_of_none hu hqd).symm
            have dr28 := dr27.same sD
            have f1 := sD _ _ eA27
            have f2 := sD _ _ eB27
            have f3 := LA27.same sD
            have f4 := at2G.same sD
            generalize upd H27 qd (.lst (one.map V.str ++ two.map V.str)) = H28 at sD eD dr28 f1 f2 f3 f4 ⊢
            refine ⟨_, rfl, _, rfl, p, qd, one ++ two, ab, fol, rfl, dr28.st, eD, nqd, (by simp [hne2]), l12, hok12, (fun h q hq => ?_), fun z H29 d29 R => ?_⟩
            · rw [htw, ← List.append_assoc, List.getLast?_append] at hq
              cases hq
              exact hfol h
            · obtain ⟨⟨ps, PAz, h1, h2, h3⟩, hbad⟩ := R
              refine .inr ⟨z, ps, rfl, PAz, fun n e => (by rw [hbad] at e; cases e), fun _ pn H30 s30 _ PA => ?_⟩
              rw [h1, h2, h3] at PA
              have ex := drX d29 dr28.st
              exact ⟨pn, rfl, (dr28.trans d29).same s30, s30 _ _ (d29.but _ _ f1 nL1), s30 _ _ (d29.but _ _ f2 nL2), (f3.extX ex).same s30, (f4.extX ex).same s30, PA⟩
          rintro σ H28 ⟨pn, rfl, dr28, eA28, eB28, LA28, at28, PN⟩
          clear s2027 at2G dr27 LA27 eA27 eB27 s27
          have TA28 := TA9.extX (drX dr28 st9)
          have e9PL := dr28.but _ _ ePL hPp
          refine ⟨fun b H' => b = false ∧ Same H28 H', ?_, ?_⟩
          · refine ⟨_, rfl, _, rfl, _, rfl, L1, L2, _, _, rfl, rfl, SqL.of eA28, SqL.of eB28, lcat, fun qd hqd => ?_⟩
            have sD := NG.Same.upd (o := HO.lst (one.map V.str ++ two.map V.str)) hqd
            have eD := catE (Hx := H28) (q := qd)
            generalize upd H28 qd (.lst (one.map V.str ++ two.map V.str)) = H29 at sD eD ⊢
            refine ⟨_, rfl, _, rfl, fun xw dxw nxw ndxw nexw => ⟨xw, dxw, qd, one ++ two, ab, fol, rfl, upd_same, .inl (SqL.of (new_ext (C := CP) nxw ndxw _ _ eD)), lz hok12, (by omega), fun _ H30 b30 PA2 => ⟨rfl, ?_⟩, fun h => by rw [ok12] at h; cases h⟩⟩
            have s30 : Same H29 H30 := fun b u e => b30 _ _ (new_ext (C := CP) nxw ndxw _ _ e) (ne_of_none e nxw)
            exact eqP_of (g := fun k => !k) TP.cl TCP (PN.same (sD.trans s30)) PA2 oS ⟨_, rfl, rfl, sD.trans s30⟩
          rintro _ H29 ⟨rfl, s29⟩
          refine iteF ⟨fun b H' => b = false ∧ Same H29 H', ?_, ?_⟩
          · have PN29 := PN.same s29
            have hne12 : one ++ two ≠ [] := by simp [hne2]
            obtain ⟨⟨ps, PAz, h1, h2, h3⟩, hbad⟩ := text_reads (ab := ab) hne12 (fun q hq => (hok12 q hq).1) (fun q hq => (hok12 q hq).2.1) (by omega) ok12
            have hsum := sum_len (fun z hz => (hok12 z hz).1.1)
            refine ⟨_, rfl, pn, one ++ two, ab, fol, rfl, PN29, (by omega), .inr ⟨textP (one ++ two) ab fol, ps, rfl, PAz, fun n e => (by rw [hbad] at e; cases e), fun _ pm H30 s30 _ PA => ?_⟩⟩
            rw [h1, h2, h3] at PA
            exact ⟨_, rfl, eqP_of (g := fun k => !k) TP.cl TCP PA (PN29.same s30) oS ⟨_, rfl, rfl, s30⟩⟩
          rintro _ H30 ⟨rfl, s30⟩
          refine iteF ?_
          have s2830 := s29.trans s30
          refine ⟨fun b H' => b = false ∧ Same H30 H', ?_, ?_⟩
          · refine ⟨_, rfl, _, rfl, _, rfl, _, rfl, t, qs, nds.map srtN, g, pn, x, one ++ two, ab, fol, fo, la, oo, rfl, TA28.same s2830, lm, fsrt hfg, PN.same s2830, LA28.same s2830, (by omega), fun H31 r3 res3 s31 run3 at3 => ?_⟩
            have h3 : res3 = res2 := run_one W' (by decide) (fun _ => hf0) run3 run2
            exact ⟨_, rfl, eqW_of (g := fun k => !k) TO.clC TR.clR T2 at3 (at28.same (s2830.trans s31)) ⟨_, rfl, by rw [h3, decide_eq_true rfl]; rfl, s31⟩⟩
          rintro _ H31 ⟨rfl, s31⟩
          have s2831 := s2830.trans s31
          refine iteF ⟨fun b H' => b = false ∧ Same H31 H', ?_, ?_⟩
          · refine ⟨_, rfl, _, rfl, _, rfl, _, rfl, t, qs, nds.map srtN, g, pn, x, one ++ two, ab, fol, fo, la, oo, rfl, TA28.same s2831, lm, fsrt hfg, PN.same s2831, LA28.same s2831, (by omega), fun H32 r3 res3 s32 run3 at3 => ?_⟩
            have h3 : res3 = res2 := run_one W' (by decide) (fun _ => hf0) run3 run2
            exact ⟨_, rfl, eqW_of (g := fun k => !k) TO.clC TR.clR T2 at3 (at28.same (s2831.trans s32)) ⟨_, rfl, by rw [h3, decide_eq_true rfl]; rfl, s32⟩⟩
          rintro _ H32 ⟨rfl, s32⟩
          have s2832 := s2831.trans s32
          refine iteF ⟨_, rfl, _, rfl, ?_⟩
          cases ab with
          | false => exact iteF (iteF ⟨⟨_, _, _, _, _, _, _, _, _, _, _, _, _, rfl⟩, dr28.same s2832⟩)
          | true =>
            refine iteT ⟨fun b H' => b = false ∧ Same H32 H', ?_, ?_⟩
            · obtain ⟨rz, hz⟩ := placeL_zero W
              have hfz : FolG (nds.map srtN) 0 := hf0
              refine ⟨_, rfl, _, rfl, PLc, _, 0, .int ((0 : Nat) : Int), rfl, rfl, SqL.of (s2832 _ _ e9PL), (by rw [hz]; exact atI_zero), _, rfl, _, rfl, t, qs, nds.map srtN, 0, pn, x, one ++ two, true, fol, fo, la, oo, rfl, TA28.same s2832, lm, hfz, PN.same s2832, LA28.same s2832, (by omega), fun H33 r3 res3 s33 run3 at3 => ?_⟩
              have h3 : res3 = res2 := run_one W' (by decide) (fun _ => hf0) run3 run2
              exact ⟨_, rfl, eqW_of (g := fun k => !k) TO.clC TR.clR T2 at3 (at28.same (s2832.trans s33)) ⟨_, rfl, by rw [h3, decide_eq_true rfl]; rfl, s33⟩⟩
            rintro _ H33 ⟨rfl, s33⟩
            exact iteF ⟨⟨_, _, _, _, _, _, _, _, _, _, _, _, _, rfl⟩, dr28.same (s2832.trans s33)⟩
      · rintro σ H10 ⟨⟨v6, v7, v8, v9, v10, v11, v12, v13, v14, v15, v16, v17, v18, rfl⟩, dr10⟩
        exact ⟨⟨_, _, _, _, _, _, _, _, _, _, _, _, _, _, _, _, _, _, rfl⟩, fun b u e n => dr10.but _ _ (e19 _ _ e n) (fun z => by subst z; exact hbp _ e n), keepT t9 dr10 st9⟩
    · rintro σ H1 ⟨⟨v1, v2, v3, v4, v5, v6, v7, v8, v9, v10, v11, v12, v13, v14, v15, v16, v17, v18, rfl⟩, e1, t1⟩
      exact k _
end
end NW

set_option maxRecDepth 100000
set_option maxHeartbeats 8000000
namespace NW
open PySem PySem.Spec PyProof.Rows L2 NG TR LamX
/-! ### the end, with the table of one def that holds a lambda -/
theorem walk_tab {l : PySem.W.OpenLaw} {n k : Nat} {q : Program} {loose : List Str} {XP : (Str → Option Value) → Heap → Prop} {YP : World → Heap → Prop} {d : DefRec} {K : Params → PySem.W.Frag} {CX : World → CXT} {x y : Str}
    (hn : l.most = some n) (hn2 : n ≤ sizeLine) (hdf : d.params.defaults = []) (hr : Room k callerA) (hrec : ((recsOf q).find? fun e => e.name == y).isSome = true) (hY : ∀ (w : World) (h : Heap), YP w h → (K w.params).In h)
    (F : ∀ (w : World) (mg : Str → Option Value) (fa : Addr) (h : Heap), YP w h → (K w.params).In h → h.Ns mainGlobals mg → mg d.name = some (.ref fa) → (∀ c P, PySem.W.tabIn (K w.params) y = some (c, P) → PySem.W.CodeHd h c P ∧ h.get? P = some (PySem.W.tabObj #[])) → LawAtS l w (K w.params) (CX w) k n x mg fa h)
    (hCX : ∀ (w : World) (H : Hp) (s : Shared) (e : Value) (s' : Shared), CX w [] H s (fun _ _ _ => False) e s' → False) :
    PySem.W.WalkO q loose XP YP l.row.toRowW d [] (fun f vs => PySem.call f vs) := by
  refine Att.attach_callB hn hdf fun w s₀ s₁ mg mb fa o pm cd doc a vs ns G Y ho hd hcd hmg hobj hints hlen hbits hg => ?_
  have KX := hY w _ Y
  obtain ⟨dL, hdL⟩ := Option.isSome_iff_exists.mp hrec
  obtain ⟨fd, cs, sp, hT, nT, C, hb, hsp, hF⟩ := F w mg fa _ Y KX G.T.g hmg fun c P ht => PySem.W.tab_of G.T KX hdL ht
  exact law_callTs KX G.T.g G.T.b G.T.builtins G.T.nolimit hg hT nT C G.T.bmain hobj hints (Nat.le_trans hlen hn2) hr hF hb (fun H hH hS => hsp H a ns hlen hbits hH hS) fun H e s' => hCX w H s₁ e s'
theorem one1 {α : Type} {p : α → Prop} {a : α} (h : p a) : ∀ b ∈ [a], p b := fun b hb => by rw [List.mem_singleton.mp hb]; exact h
def quad (a b c d : Addr) : Nat → Addr
  | 0 => a
  | 1 => b
  | 2 => c
  | _ => d
theorem all4 {p : Nat → Prop} (h0 : p 0) (h1 : p 1) (h2 : p 2) (h3 : p 3) : ∀ i, i < 4 → p i
  | 0, _ => h0
  | 1, _ => h1
  | 2, _ => h2
  | 3, _ => h3
  | _ + 4, h => absurd h (by omega)
theorem all44 {p : Nat → Nat → Prop} (a0 : p 0 0) (a1 : p 0 1) (a2 : p 0 2) (a3 : p 0 3) (b0 : p 1 0) (b1 : p 1 1) (b2 : p 1 2) (b3 : p 1 3) (c0 : p 2 0) (c1 : p 2 1) (c2 : p 2 2) (c3 : p 2 3) (d0 : p 3 0) (d1 : p 3 1) (d2 : p 3 2) (d3 : p 3 3) : ∀ i j, i < 4 → j < 4 → p i j := fun i j hi hj =>
  all4 (p := fun i => p i j) (all4 (p := p 0) a0 a1 a2 a3 j hj) (all4 (p := p 1) b0 b1 b2 b3 j hj) (all4 (p := p 2) c0 c1 c2 c3 j hj) (all4 (p := p 3) d0 d1 d2 d3 j hj) i hi
theorem tabIn_of {K : PySem.W.Frag} {y : Str} {f c P : Addr} {oc : Value} {od : Option Addr} {fd : FuncData} {sl sl' : Array (Option Value)} {e : Value} {dd : Option Addr} {vs : Array Value} (a : PySem.W.nsIn K mainGlobals y = some (some (.ref f))) (b : K.lookup f = some ⟨oc, od, .func fd, sl⟩) (c1 : fd.code = .ref c)
    (l : K.lookup c = some ⟨e, dd, .fields vs, sl'⟩) (v : vs[11]? = some (.ref P)) : PySem.W.tabIn K y = some (c, P) := by
  unfold PySem.W.tabIn
  rw [a]
  dsimp only
  rw [b]
  dsimp only
  rw [c1]
  dsimp only
  rw [l]
  dsimp only
  rw [v]
theorem kit_own {K : PySem.W.Frag} {C : Addr} {t : Value} (hh : PySem.W.hasDictIn K C = true) (ht : PySem.W.typeIn K (.ref C) = some (.type "type")) (hs : PySem.W.subIn K t (.ref C) = some false) (hn : (t == .ref C) = false) : PySem.W.kitOne K t (.ref C) = some false := by
  have hc : (PySem.W.clsIn K C).isSome = true := by
    obtain ⟨cd, hc, _⟩ := PySem.W.any_some hh
    rw [hc]
    rfl
  unfold PySem.W.kitOne
  rw [hn]
  show (if ((PySem.W.clsIn K C).isSome && PySem.W.typeIn K (.ref C) == some (.type "type")) = true then PySem.W.subIn K t (.ref C) else none) = some false
  rw [hc, ht, hs]
  rfl
theorem all_mk {l : PySem.W.OpenLaw} {w : World} {K : PySem.W.Frag} {h : Heap} {mg : Str → Option Value} {fa C0 C1 C2 C3 CT CN CB CP CNP CV CL CC CR CG fName fStep fBad fNum fOwner fAt fPool fTxt fFree fState fDigit fNodes fI0 fI1 fI2 fI3 fTI fNNI fBI fEnds fPI fRead fVI fHm fCmI fCmE fGoI fLkI fUp fLed fRfI fRfE fGoR fGoF fGoL fGoT fGoK fBeg fBgn fEnd fWk fPl fMay fStood fFF fBy c0 P0 fMade fWE fWN fET fCN fCF fTree fCk fSs fNo fText fPE fLaw : Addr} (X : K.In h) (G : h.Ns mainGlobals mg) (hfa : mg "law" = some (.ref fa)) {nmN_ qN_ nmB_ qB_ : Str} {NN_ NB_ : Addr} {bsN_ bmN_ subN_ bsB_ bmB_ subB_ : List Value} {snN_ snB_ : List Str} {abN_ abB_ : Bool} {colN_ colB_ : Option Bool} {ddN_ ddB_ od_fName an_fName od_fStep an_fStep od_fBad an_fBad od_fNum an_fNum od_fOwner an_fOwner od_fAt an_fAt od_fPool an_fPool od_fTxt an_fTxt od_fFree an_fFree od_fState an_fState od_fDigit an_fDigit od_fNodes an_fNodes od_fI0 an_fI0 od_fI1 an_fI1 od_fI2 an_fI2 od_fI3 an_fI3 od_fTI an_fTI od_fNNI an_fNNI od_fBI an_fBI od_fEnds an_fEnds od_fPI an_fPI od_fRead an_fRead od_fVI an_fVI od_fHm an_fHm od_fCmI an_fCmI od_fCmE an_fCmE od_fGoI an_fGoI od_fLkI an_fLkI od_fUp an_fUp od_fLed an_fLed od_fRfI an_fRfI od_fRfE an_fRfE od_fGoR an_fGoR od_fGoF an_fGoF od_fGoL an_fGoL od_fGoT an_fGoT od_fGoK an_fGoK od_fBeg an_fBeg od_fBgn an_fBgn od_fEnd an_fEnd od_fWk an_fWk od_fPl an_fPl od_fMay an_fMay od_fStood an_fStood od_fFF an_fFF od_fBy an_fBy dB od_fMade an_fMade od_fWE an_fWE od_fWN an_fWN od_fET an_fET od_fCN an_fCN od_fCF an_fCF od_fTree an_fTree od_fCk an_fCk od_fSs an_fSs od_fNo an_fNo od_fText an_fText od_fPE an_fPE od_fLaw an_fLaw : Option Addr} {m0N_ m1N_ m2N_ m3N_ m5N_ m0B_ m1B_ m2B_ m3B_ m5B_ : Option Value} {tLN tLL tRO tML : Tok} {sl_fName sl_fStep sl_fBad sl_fNum sl_fOwner sl_fAt sl_fPool sl_fTxt sl_fFree sl_fState sl_fDigit sl_fNodes sl_fI0 sl_fI1 sl_fI2 sl_fI3 sl_fTI sl_fNNI sl_fBI sl_fEnds sl_fPI sl_fRead sl_fVI sl_fHm sl_fCmI sl_fCmE sl_fGoI sl_fLkI sl_fUp sl_fLed sl_fRfI sl_fRfE sl_fGoR sl_fGoF sl_fGoL sl_fGoT sl_fGoK sl_fBeg sl_fBgn sl_fEnd sl_fWk sl_fPl sl_fMay sl_fStood sl_fFF sl_fBy slB sl_fMade sl_fWE sl_fWN sl_fET sl_fCN sl_fCF sl_fTree sl_fCk sl_fSs sl_fNo sl_fText sl_fPE sl_fLaw : Array (Option Value)} {oc_fName kV_fName dc_fName pm_fName cd_fName ct_fName oc_fStep kV_fStep dc_fStep pm_fStep cd_fStep ct_fStep oc_fBad kV_fBad dc_fBad pm_fBad cd_fBad ct_fBad oc_fNum kV_fNum dc_fNum pm_fNum cd_fNum ct_fNum oc_fOwner kV_fOwner dc_fOwner pm_fOwner cd_fOwner ct_fOwner oc_fAt kV_fAt dc_fAt pm_fAt cd_fAt ct_fAt oc_fPool kV_fPool dc_fPool pm_fPool cd_fPool ct_fPool oc_fTxt kV_fTxt dc_fTxt pm_fTxt cd_fTxt ct_fTxt oc_fFree kV_fFree dc_fFree pm_fFree cd_fFree ct_fFree oc_fState kV_fState dc_fState pm_fState cd_fState ct_fState oc_fDigit kV_fDigit dc_fDigit pm_fDigit cd_fDigit ct_fDigit oc_fNodes kV_fNodes dc_fNodes pm_fNodes cd_fNodes ct_fNodes oc_fI0 kV_fI0 dc_fI0 pm_fI0 cd_fI0 ct_fI0 oc_fI1 kV_fI1 dc_fI1 pm_fI1 cd_fI1 ct_fI1 oc_fI2 kV_fI2 dc_fI2 pm_fI2 cd_fI2 ct_fI2 oc_fI3 kV_fI3 dc_fI3 pm_fI3 cd_fI3 ct_fI3 oc_fTI kV_fTI dc_fTI pm_fTI cd_fTI ct_fTI oc_fNNI kV_fNNI dc_fNNI pm_fNNI cd_fNNI ct_fNNI oc_fBI kV_fBI dc_fBI pm_fBI cd_fBI ct_fBI oc_fEnds kV_fEnds dc_fEnds pm_fEnds cd_fEnds ct_fEnds oc_fPI kV_fPI dc_fPI pm_fPI cd_fPI ct_fPI oc_fRead kV_fRead dc_fRead pm_fRead cd_fRead ct_fRead oc_fVI kV_fVI dc_fVI pm_fVI cd_fVI ct_fVI oc_fHm kV_fHm dc_fHm pm_fHm cd_fHm ct_fHm oc_fCmI kV_fCmI dc_fCmI pm_fCmI cd_fCmI ct_fCmI oc_fCmE kV_fCmE dc_fCmE pm_fCmE cd_fCmE ct_fCmE oc_fGoI kV_fGoI dc_fGoI pm_fGoI cd_fGoI ct_fGoI oc_fLkI kV_fLkI dc_fLkI pm_fLkI cd_fLkI ct_fLkI oc_fUp kV_fUp dc_fUp pm_fUp cd_fUp ct_fUp oc_fLed kV_fLed dc_fLed pm_fLed cd_fLed ct_fLed oc_fRfI kV_fRfI dc_fRfI pm_fRfI cd_fRfI ct_fRfI oc_fRfE kV_fRfE dc_fRfE pm_fRfE cd_fRfE ct_fRfE oc_fGoR kV_fGoR dc_fGoR pm_fGoR cd_fGoR ct_fGoR oc_fGoF kV_fGoF dc_fGoF pm_fGoF cd_fGoF ct_fGoF oc_fGoL kV_fGoL dc_fGoL pm_fGoL cd_fGoL ct_fGoL oc_fGoT kV_fGoT dc_fGoT pm_fGoT cd_fGoT ct_fGoT oc_fGoK kV_fGoK dc_fGoK pm_fGoK cd_fGoK ct_fGoK oc_fBeg kV_fBeg dc_fBeg pm_fBeg cd_fBeg ct_fBeg oc_fBgn kV_fBgn dc_fBgn pm_fBgn cd_fBgn ct_fBgn oc_fEnd kV_fEnd dc_fEnd pm_fEnd cd_fEnd ct_fEnd oc_fWk kV_fWk dc_fWk pm_fWk cd_fWk ct_fWk oc_fPl kV_fPl dc_fPl pm_fPl cd_fPl ct_fPl oc_fMay kV_fMay dc_fMay pm_fMay cd_fMay ct_fMay oc_fStood kV_fStood dc_fStood pm_fStood cd_fStood ct_fStood oc_fFF kV_fFF dc_fFF pm_fFF cd_fFF ct_fFF oc_fBy kV_fBy dc_fBy pm_fBy cd_fBy ct_fBy eB oc_fMade kV_fMade dc_fMade pm_fMade cd_fMade ct_fMade oc_fWE kV_fWE dc_fWE pm_fWE cd_fWE ct_fWE oc_fWN kV_fWN dc_fWN pm_fWN cd_fWN ct_fWN oc_fET kV_fET dc_fET pm_fET cd_fET ct_fET oc_fCN kV_fCN dc_fCN pm_fCN cd_fCN ct_fCN oc_fCF kV_fCF dc_fCF pm_fCF cd_fCF ct_fCF oc_fTree kV_fTree dc_fTree pm_fTree cd_fTree ct_fTree oc_fCk kV_fCk dc_fCk pm_fCk cd_fCk ct_fCk oc_fSs kV_fSs dc_fSs pm_fSs cd_fSs ct_fSs oc_fNo kV_fNo dc_fNo pm_fNo cd_fNo ct_fNo oc_fText kV_fText dc_fText pm_fText cd_fText ct_fText oc_fPE kV_fPE dc_fPE pm_fPE cd_fPE ct_fPE oc_fLaw kV_fLaw dc_fLaw pm_fLaw cd_fLaw ct_fLaw : Value} {vsB : Array Value}
    (tb : ∀ c P, PySem.W.tabIn K "by_names" = some (c, P) → PySem.W.CodeHd h c P ∧ h.get? P = some (PySem.W.tabObj #[]))
    (a_C0 : PySem.W.nsIn K mainGlobals "Folder" = some (some (.ref C0)))
    (k_C0 : PySem.W.keepIn K (.ref C0) = true)
    (pg_C0 : PySem.W.plainGet K C0 Str.empty = true)
    (hd_C0 : PySem.W.hasDictIn K C0 = true)
    (po_C0 : PySem.W.plainOver K C0 = true)
    (sa_C0 : PySem.W.findIn K (.ref C0) "__setattr__" = some (some (.builtin "object.__setattr__")))
    (mk_C0 : PySem.W.makesIn K C0 = true)
    (na_C0_owner : PySem.W.findIn K (.ref C0) "owner" = some none)
    (e3_C0 : PySem.W.mroIn K C0 (.type "object") = some true)
    (e1_C0 : PySem.W.findIn K (.ref C0) "__class__" = some (some (.builtin "object.__class__")))
    (tp_C0 : PySem.W.typeIn K (.ref C0) = some (.type "type"))
    (a_C1 : PySem.W.nsIn K mainGlobals "File" = some (some (.ref C1)))
    (k_C1 : PySem.W.keepIn K (.ref C1) = true)
    (pg_C1 : PySem.W.plainGet K C1 Str.empty = true)
    (hd_C1 : PySem.W.hasDictIn K C1 = true)
    (po_C1 : PySem.W.plainOver K C1 = true)
    (sa_C1 : PySem.W.findIn K (.ref C1) "__setattr__" = some (some (.builtin "object.__setattr__")))
    (mk_C1 : PySem.W.makesIn K C1 = true)
    (na_C1_owner : PySem.W.findIn K (.ref C1) "owner" = some none)
    (e3_C1 : PySem.W.mroIn K C1 (.type "object") = some true)
    (e1_C1 : PySem.W.findIn K (.ref C1) "__class__" = some (some (.builtin "object.__class__")))
    (tp_C1 : PySem.W.typeIn K (.ref C1) = some (.type "type"))
    (a_C2 : PySem.W.nsIn K mainGlobals "Link" = some (some (.ref C2)))
    (k_C2 : PySem.W.keepIn K (.ref C2) = true)
    (pg_C2 : PySem.W.plainGet K C2 Str.empty = true)
    (hd_C2 : PySem.W.hasDictIn K C2 = true)
    (po_C2 : PySem.W.plainOver K C2 = true)
    (sa_C2 : PySem.W.findIn K (.ref C2) "__setattr__" = some (some (.builtin "object.__setattr__")))
    (mk_C2 : PySem.W.makesIn K C2 = true)
    (na_C2_owner : PySem.W.findIn K (.ref C2) "owner" = some none)
    (e3_C2 : PySem.W.mroIn K C2 (.type "object") = some true)
    (e1_C2 : PySem.W.findIn K (.ref C2) "__class__" = some (some (.builtin "object.__class__")))
    (tp_C2 : PySem.W.typeIn K (.ref C2) = some (.type "type"))
    (a_C3 : PySem.W.nsIn K mainGlobals "Gone" = some (some (.ref C3)))
    (k_C3 : PySem.W.keepIn K (.ref C3) = true)
    (pg_C3 : PySem.W.plainGet K C3 Str.empty = true)
    (hd_C3 : PySem.W.hasDictIn K C3 = true)
    (po_C3 : PySem.W.plainOver K C3 = true)
    (sa_C3 : PySem.W.findIn K (.ref C3) "__setattr__" = some (some (.builtin "object.__setattr__")))
    (mk_C3 : PySem.W.makesIn K C3 = true)
    (na_C3_owner : PySem.W.findIn K (.ref C3) "owner" = some none)
    (e3_C3 : PySem.W.mroIn K C3 (.type "object") = some true)
    (e1_C3 : PySem.W.findIn K (.ref C3) "__class__" = some (some (.builtin "object.__class__")))
    (tp_C3 : PySem.W.typeIn K (.ref C3) = some (.type "type"))
    (na_C0_entries : PySem.W.findIn K (.ref C0) "entries" = some none)
    (na_C2_text : PySem.W.findIn K (.ref C2) "text" = some none)
    (na_C3_above : PySem.W.findIn K (.ref C3) "above" = some none)
    (s_01 : PySem.W.subIn K (.ref C0) (.ref C1) = some false)
    (n_01 : ((Value.ref C0) == .ref C1) = false)
    (s_02 : PySem.W.subIn K (.ref C0) (.ref C2) = some false)
    (n_02 : ((Value.ref C0) == .ref C2) = false)
    (s_03 : PySem.W.subIn K (.ref C0) (.ref C3) = some false)
    (n_03 : ((Value.ref C0) == .ref C3) = false)
    (s_10 : PySem.W.subIn K (.ref C1) (.ref C0) = some false)
    (n_10 : ((Value.ref C1) == .ref C0) = false)
    (s_12 : PySem.W.subIn K (.ref C1) (.ref C2) = some false)
    (n_12 : ((Value.ref C1) == .ref C2) = false)
    (s_13 : PySem.W.subIn K (.ref C1) (.ref C3) = some false)
    (n_13 : ((Value.ref C1) == .ref C3) = false)
    (s_20 : PySem.W.subIn K (.ref C2) (.ref C0) = some false)
    (n_20 : ((Value.ref C2) == .ref C0) = false)
    (s_21 : PySem.W.subIn K (.ref C2) (.ref C1) = some false)
    (n_21 : ((Value.ref C2) == .ref C1) = false)
    (s_23 : PySem.W.subIn K (.ref C2) (.ref C3) = some false)
    (n_23 : ((Value.ref C2) == .ref C3) = false)
    (s_30 : PySem.W.subIn K (.ref C3) (.ref C0) = some false)
    (n_30 : ((Value.ref C3) == .ref C0) = false)
    (s_31 : PySem.W.subIn K (.ref C3) (.ref C1) = some false)
    (n_31 : ((Value.ref C3) == .ref C1) = false)
    (s_32 : PySem.W.subIn K (.ref C3) (.ref C2) = some false)
    (n_32 : ((Value.ref C3) == .ref C2) = false)
    (c2 : PySem.W.specialIn K (.builtin "object.__class__") "__get__" = some (some (.builtin "getset_descriptor.__get__")))
    (c3 : PySem.W.takesIn K (.builtin "object.__class__") = some true)
    (a_CT : PySem.W.nsIn K mainGlobals "Tree" = some (some (.ref CT)))
    (k_CT : PySem.W.keepIn K (.ref CT) = true)
    (pg_CT : PySem.W.plainGet K CT Str.empty = true)
    (hd_CT : PySem.W.hasDictIn K CT = true)
    (po_CT : PySem.W.plainOver K CT = true)
    (sa_CT : PySem.W.findIn K (.ref CT) "__setattr__" = some (some (.builtin "object.__setattr__")))
    (mk_CT : PySem.W.makesIn K CT = true)
    (na_CT_nodes : PySem.W.findIn K (.ref CT) "nodes" = some none)
    (a_CN : PySem.W.nsIn K mainGlobals "NoNode" = some (some (.ref CN)))
    (k_CN : PySem.W.keepIn K (.ref CN) = true)
    (xLN_ : K.lookup CN = some (excClassObj nmN_ qN_ CN NN_ bsN_ bmN_ true snN_ subN_ abN_ colN_ ddN_ m0N_ m1N_ m2N_ m3N_ m5N_ "ValueError.__new__"))
    (xRN_ : HandSPX.refsVE bmN_ = true)
    (saN_ : PySem.W.findIn K (.ref CN) "__setattr__" = some (some (.builtin "object.__setattr__")))
    (exN_ : PySem.W.subIn K (.ref CN) (.type "BaseException") = some true)
    (tyN_ : PySem.W.typeIn K (.ref CN) = some (.type "type"))
    (na_CN_node : PySem.W.findIn K (.ref CN) "node" = some none)
    (a_CB : PySem.W.nsIn K mainGlobals "BadText" = some (some (.ref CB)))
    (k_CB : PySem.W.keepIn K (.ref CB) = true)
    (xLB_ : K.lookup CB = some (excClassObj nmB_ qB_ CB NB_ bsB_ bmB_ true snB_ subB_ abB_ colB_ ddB_ m0B_ m1B_ m2B_ m3B_ m5B_ "ValueError.__new__"))
    (xRB_ : HandSPX.refsVE bmB_ = true)
    (saB_ : PySem.W.findIn K (.ref CB) "__setattr__" = some (some (.builtin "object.__setattr__")))
    (exB_ : PySem.W.subIn K (.ref CB) (.type "BaseException") = some true)
    (tyB_ : PySem.W.typeIn K (.ref CB) = some (.type "type"))
    (na_CB_place : PySem.W.findIn K (.ref CB) "place" = some none)
    (gaB : PySem.W.findIn K (.ref CN) "__getattribute__" = some (some (.builtin "BaseException.__getattribute__")))
    (ggB : PySem.W.findIn K (.ref CN) "__getattr__" = some none)
    (hdB : PySem.W.hasDictIn K CN = true)
    (teB : PySem.W.exmOne K (.ref CN) (.ref CN) = some true)
    (a_CP : PySem.W.nsIn K mainGlobals "Path" = some (some (.ref CP)))
    (k_CP : PySem.W.keepIn K (.ref CP) = true)
    (pg_CP : PySem.W.plainGet K CP Str.empty = true)
    (hd_CP : PySem.W.hasDictIn K CP = true)
    (po_CP : PySem.W.plainOver K CP = true)
    (sa_CP : PySem.W.findIn K (.ref CP) "__setattr__" = some (some (.builtin "object.__setattr__")))
    (mk_CP : PySem.W.makesIn K CP = true)
    (na_CP_steps : PySem.W.findIn K (.ref CP) "steps" = some none)
    (na_CP_absolute : PySem.W.findIn K (.ref CP) "absolute" = some none)
    (na_CP_folder : PySem.W.findIn K (.ref CP) "folder" = some none)
    (a_CNP : PySem.W.nsIn K mainGlobals "NoPath" = some (some (.ref CNP)))
    (k_CNP : PySem.W.keepIn K (.ref CNP) = true)
    (xP : PySem.W.excIn K CNP [.type "ValueError", .type "Exception", .type "BaseException", .type "object"] "ValueError.__new__" = true)
    (bP : PySem.W.subIn K (.ref CNP) (.type "BaseException") = some true)
    (tP : PySem.W.typeIn K (.ref CNP) = some (.type "type"))
    (a_CV : PySem.W.nsIn K mainGlobals "View" = some (some (.ref CV)))
    (k_CV : PySem.W.keepIn K (.ref CV) = true)
    (pg_CV : PySem.W.plainGet K CV Str.empty = true)
    (hd_CV : PySem.W.hasDictIn K CV = true)
    (po_CV : PySem.W.plainOver K CV = true)
    (sa_CV : PySem.W.findIn K (.ref CV) "__setattr__" = some (some (.builtin "object.__setattr__")))
    (mk_CV : PySem.W.makesIn K CV = true)
    (na_CV_nodes : PySem.W.findIn K (.ref CV) "nodes" = some none)
    (na_CV_names : PySem.W.findIn K (.ref CV) "names" = some none)
    (na_CV_homes : PySem.W.findIn K (.ref CV) "homes" = some none)
    (na_CV_paths : PySem.W.findIn K (.ref CV) "paths" = some none)
    (a_CL : PySem.W.nsIn K mainGlobals "Look" = some (some (.ref CL)))
    (k_CL : PySem.W.keepIn K (.ref CL) = true)
    (pg_CL : PySem.W.plainGet K CL Str.empty = true)
    (hd_CL : PySem.W.hasDictIn K CL = true)
    (po_CL : PySem.W.plainOver K CL = true)
    (sa_CL : PySem.W.findIn K (.ref CL) "__setattr__" = some (some (.builtin "object.__setattr__")))
    (mk_CL : PySem.W.makesIn K CL = true)
    (na_CL_follow : PySem.W.findIn K (.ref CL) "follow" = some none)
    (na_CL_last : PySem.W.findIn K (.ref CL) "last" = some none)
    (na_CL_owners : PySem.W.findIn K (.ref CL) "owners" = some none)
    (a_CC : PySem.W.nsIn K mainGlobals "Came" = some (some (.ref CC)))
    (k_CC : PySem.W.keepIn K (.ref CC) = true)
    (pg_CC : PySem.W.plainGet K CC Str.empty = true)
    (hd_CC : PySem.W.hasDictIn K CC = true)
    (po_CC : PySem.W.plainOver K CC = true)
    (sa_CC : PySem.W.findIn K (.ref CC) "__setattr__" = some (some (.builtin "object.__setattr__")))
    (mk_CC : PySem.W.makesIn K CC = true)
    (na_CC_node : PySem.W.findIn K (.ref CC) "node" = some none)
    (ccm : PySem.W.mroIn K CC (.type "object") = some true)
    (cc1 : PySem.W.findIn K (.ref CC) "__class__" = some (some (.builtin "object.__class__")))
    (cc3 : PySem.W.subIn K (.ref CC) (.type "object") = some true)
    (cc4 : PySem.W.findIn K (.ref CC) "__ne__" = some (some (.builtin "object.__ne__")))
    (a_CR : PySem.W.nsIn K mainGlobals "Refused" = some (some (.ref CR)))
    (k_CR : PySem.W.keepIn K (.ref CR) = true)
    (pg_CR : PySem.W.plainGet K CR Str.empty = true)
    (hd_CR : PySem.W.hasDictIn K CR = true)
    (po_CR : PySem.W.plainOver K CR = true)
    (sa_CR : PySem.W.findIn K (.ref CR) "__setattr__" = some (some (.builtin "object.__setattr__")))
    (mk_CR : PySem.W.makesIn K CR = true)
    (na_CR_why : PySem.W.findIn K (.ref CR) "why" = some none)
    (crm : PySem.W.mroIn K CR (.type "object") = some true)
    (cr1 : PySem.W.findIn K (.ref CR) "__class__" = some (some (.builtin "object.__class__")))
    (cr3 : PySem.W.subIn K (.ref CR) (.type "object") = some true)
    (cr4 : PySem.W.findIn K (.ref CR) "__ne__" = some (some (.builtin "object.__ne__")))
    (tp_CR : PySem.W.typeIn K (.ref CR) = some (.type "type"))
    (s_CCCR : PySem.W.subIn K (.ref CC) (.ref CR) = some false)
    (n_CCCR : ((Value.ref CC) == .ref CR) = false)
    (s_NTCR : PySem.W.subIn K (.type "NoneType") (.ref CR) = some false)
    (tp_CC : PySem.W.typeIn K (.ref CC) = some (.type "type"))
    (s_CRCC : PySem.W.subIn K (.ref CR) (.ref CC) = some false)
    (n_CRCC : ((Value.ref CR) == .ref CC) = false)
    (cpm : PySem.W.mroIn K CP (.type "object") = some true)
    (cp1 : PySem.W.findIn K (.ref CP) "__class__" = some (some (.builtin "object.__class__")))
    (cp3 : PySem.W.subIn K (.ref CP) (.type "object") = some true)
    (cp4 : PySem.W.findIn K (.ref CP) "__ne__" = some (some (.builtin "object.__ne__")))
    (a_CG : PySem.W.nsIn K mainGlobals "Going" = some (some (.ref CG)))
    (k_CG : PySem.W.keepIn K (.ref CG) = true)
    (pg_CG : PySem.W.plainGet K CG Str.empty = true)
    (hd_CG : PySem.W.hasDictIn K CG = true)
    (po_CG : PySem.W.plainOver K CG = true)
    (sa_CG : PySem.W.findIn K (.ref CG) "__setattr__" = some (some (.builtin "object.__setattr__")))
    (mk_CG : PySem.W.makesIn K CG = true)
    (na_CG_look : PySem.W.findIn K (.ref CG) "look" = some none)
    (na_CG_at : PySem.W.findIn K (.ref CG) "at" = some none)
    (na_CG_steps : PySem.W.findIn K (.ref CG) "steps" = some none)
    (na_CG_wants : PySem.W.findIn K (.ref CG) "wants" = some none)
    (na_CG_links : PySem.W.findIn K (.ref CG) "links" = some none)
    (na_CG_result : PySem.W.findIn K (.ref CG) "result" = some none)
    (gML : PySem.W.nsIn K mainGlobals "MOST_LINKS" = some (some (.int 8 tML)))
    (gLN : PySem.W.nsIn K mainGlobals "LONGEST_NAME" = some (some (.int 12 tLN)))
    (gLL : PySem.W.nsIn K mainGlobals "NAME_LETTERS" = some (some (.str letters tLL)))
    (gRO : PySem.W.nsIn K mainGlobals "ROOT" = some (some (.int 0 tRO)))
    (z_isinstance : PySem.W.nsIn K mainGlobals "isinstance" = some none)
    (z_str : PySem.W.nsIn K mainGlobals "str" = some none)
    (z_len : PySem.W.nsIn K mainGlobals "len" = some none)
    (z_all : PySem.W.nsIn K mainGlobals "all" = some none)
    (z_int : PySem.W.nsIn K mainGlobals "int" = some none)
    (z_abs : PySem.W.nsIn K mainGlobals "abs" = some none)
    (z_tuple : PySem.W.nsIn K mainGlobals "tuple" = some none)
    (z_range : PySem.W.nsIn K mainGlobals "range" = some none)
    (z_bool : PySem.W.nsIn K mainGlobals "bool" = some none)
    (z_min : PySem.W.nsIn K mainGlobals "min" = some none)
    (z_sorted : PySem.W.nsIn K mainGlobals "sorted" = some none)
    (z_enumerate : PySem.W.nsIn K mainGlobals "enumerate" = some none)
    (z_set : PySem.W.nsIn K mainGlobals "set" = some none)
    (z_list : PySem.W.nsIn K mainGlobals "list" = some none)
    (z_dict : PySem.W.nsIn K mainGlobals "dict" = some none)
    (a_fName : PySem.W.nsIn K mainGlobals "is_name" = some (some (.ref fName)))
    (l_fName : K.lookup fName = some ⟨oc_fName, od_fName, .func (PySem.W.fnOf "is_name" "is_name" (defArgs sName) (defBody sName) (defScope sName) .none kV_fName dc_fName pm_fName an_fName cd_fName ct_fName), sl_fName⟩)
    (c_fName : PySem.W.codeIn K cd_fName "is_name" = true)
    (k_fName : PySem.W.keepIn K (.ref fName) = true)
    (a_fStep : PySem.W.nsIn K mainGlobals "is_step" = some (some (.ref fStep)))
    (l_fStep : K.lookup fStep = some ⟨oc_fStep, od_fStep, .func (PySem.W.fnOf "is_step" "is_step" (defArgs sStep) (defBody sStep) (defScope sStep) .none kV_fStep dc_fStep pm_fStep an_fStep cd_fStep ct_fStep), sl_fStep⟩)
    (c_fStep : PySem.W.codeIn K cd_fStep "is_step" = true)
    (k_fStep : PySem.W.keepIn K (.ref fStep) = true)
    (a_fBad : PySem.W.nsIn K mainGlobals "bad_place" = some (some (.ref fBad)))
    (l_fBad : K.lookup fBad = some ⟨oc_fBad, od_fBad, .func (PySem.W.fnOf "bad_place" "bad_place" (defArgs sBad) (defBody sBad) (defScope sBad) .none kV_fBad dc_fBad pm_fBad an_fBad cd_fBad ct_fBad), sl_fBad⟩)
    (c_fBad : PySem.W.codeIn K cd_fBad "bad_place" = true)
    (k_fBad : PySem.W.keepIn K (.ref fBad) = true)
    (a_fNum : PySem.W.nsIn K mainGlobals "is_number" = some (some (.ref fNum)))
    (l_fNum : K.lookup fNum = some ⟨oc_fNum, od_fNum, .func (PySem.W.fnOf "is_number" "is_number" (defArgs sNum) (defBody sNum) (defScope sNum) .none kV_fNum dc_fNum pm_fNum an_fNum cd_fNum ct_fNum), sl_fNum⟩)
    (c_fNum : PySem.W.codeIn K cd_fNum "is_number" = true)
    (k_fNum : PySem.W.keepIn K (.ref fNum) = true)
    (a_fOwner : PySem.W.nsIn K mainGlobals "is_owner" = some (some (.ref fOwner)))
    (l_fOwner : K.lookup fOwner = some ⟨oc_fOwner, od_fOwner, .func (PySem.W.fnOf "is_owner" "is_owner" (defArgs sOwner) (defBody sOwner) (defScope sOwner) .none kV_fOwner dc_fOwner pm_fOwner an_fOwner cd_fOwner ct_fOwner), sl_fOwner⟩)
    (c_fOwner : PySem.W.codeIn K cd_fOwner "is_owner" = true)
    (k_fOwner : PySem.W.keepIn K (.ref fOwner) = true)
    (a_fAt : PySem.W.nsIn K mainGlobals "is_at" = some (some (.ref fAt)))
    (l_fAt : K.lookup fAt = some ⟨oc_fAt, od_fAt, .func (PySem.W.fnOf "is_at" "is_at" (defArgs sAt) (defBody sAt) (defScope sAt) .none kV_fAt dc_fAt pm_fAt an_fAt cd_fAt ct_fAt), sl_fAt⟩)
    (c_fAt : PySem.W.codeIn K cd_fAt "is_at" = true)
    (k_fAt : PySem.W.keepIn K (.ref fAt) = true)
    (a_fPool : PySem.W.nsIn K mainGlobals "_law_pool" = some (some (.ref fPool)))
    (l_fPool : K.lookup fPool = some ⟨oc_fPool, od_fPool, .func (PySem.W.fnOf "_law_pool" "_law_pool" (defArgs sPool) (defBody sPool) (defScope sPool) .none kV_fPool dc_fPool pm_fPool an_fPool cd_fPool ct_fPool), sl_fPool⟩)
    (c_fPool : PySem.W.codeIn K cd_fPool "_law_pool" = true)
    (k_fPool : PySem.W.keepIn K (.ref fPool) = true)
    (a_fTxt : PySem.W.nsIn K mainGlobals "_law_text" = some (some (.ref fTxt)))
    (l_fTxt : K.lookup fTxt = some ⟨oc_fTxt, od_fTxt, .func (PySem.W.fnOf "_law_text" "_law_text" (defArgs sTxt) (defBody sTxt) (defScope sTxt) .none kV_fTxt dc_fTxt pm_fTxt an_fTxt cd_fTxt ct_fTxt), sl_fTxt⟩)
    (c_fTxt : PySem.W.codeIn K cd_fTxt "_law_text" = true)
    (k_fTxt : PySem.W.keepIn K (.ref fTxt) = true)
    (a_fFree : PySem.W.nsIn K mainGlobals "_law_free_name" = some (some (.ref fFree)))
    (l_fFree : K.lookup fFree = some ⟨oc_fFree, od_fFree, .func (PySem.W.fnOf "_law_free_name" "_law_free_name" (defArgs sFree) (defBody sFree) (defScope sFree) .none kV_fFree dc_fFree pm_fFree an_fFree cd_fFree ct_fFree), sl_fFree⟩)
    (c_fFree : PySem.W.codeIn K cd_fFree "_law_free_name" = true)
    (k_fFree : PySem.W.keepIn K (.ref fFree) = true)
    (a_fState : PySem.W.nsIn K mainGlobals "_law_state" = some (some (.ref fState)))
    (l_fState : K.lookup fState = some ⟨oc_fState, od_fState, .func (PySem.W.fnOf "_law_state" "_law_state" (defArgs sState) (defBody sState) (defScope sState) .none kV_fState dc_fState pm_fState an_fState cd_fState ct_fState), sl_fState⟩)
    (c_fState : PySem.W.codeIn K cd_fState "_law_state" = true)
    (k_fState : PySem.W.keepIn K (.ref fState) = true)
    (a_fDigit : PySem.W.nsIn K mainGlobals "_law_digit" = some (some (.ref fDigit)))
    (l_fDigit : K.lookup fDigit = some ⟨oc_fDigit, od_fDigit, .func (PySem.W.fnOf "_law_digit" "_law_digit" (defArgs sDigit) (defBody sDigit) (defScope sDigit) .none kV_fDigit dc_fDigit pm_fDigit an_fDigit cd_fDigit ct_fDigit), sl_fDigit⟩)
    (c_fDigit : PySem.W.codeIn K cd_fDigit "_law_digit" = true)
    (k_fDigit : PySem.W.keepIn K (.ref fDigit) = true)
    (a_fNodes : PySem.W.nsIn K mainGlobals "_law_nodes" = some (some (.ref fNodes)))
    (l_fNodes : K.lookup fNodes = some ⟨oc_fNodes, od_fNodes, .func (PySem.W.fnOf "_law_nodes" "_law_nodes" (defArgs sNodes) (defBody sNodes) (defScope sNodes) .none kV_fNodes dc_fNodes pm_fNodes an_fNodes cd_fNodes ct_fNodes), sl_fNodes⟩)
    (c_fNodes : PySem.W.codeIn K cd_fNodes "_law_nodes" = true)
    (k_fNodes : PySem.W.keepIn K (.ref fNodes) = true)
    (a_fI0 : PySem.W.findIn K (.ref C0) "__init__" = some (some (.ref fI0)))
    (i_fI0 : PySem.W.isFn K (.ref fI0) = true)
    (l_fI0 : K.lookup fI0 = some ⟨oc_fI0, od_fI0, .func (PySem.W.fnOf "__init__" "Folder.__init__" (defArgs sFolI) (defBody sFolI) (defScope sFolI) .none kV_fI0 dc_fI0 pm_fI0 an_fI0 cd_fI0 ct_fI0), sl_fI0⟩)
    (c_fI0 : PySem.W.codeIn K cd_fI0 "Folder.__init__" = true)
    (k_fI0 : PySem.W.keepIn K (.ref fI0) = true)
    (a_fI1 : PySem.W.findIn K (.ref C1) "__init__" = some (some (.ref fI1)))
    (i_fI1 : PySem.W.isFn K (.ref fI1) = true)
    (l_fI1 : K.lookup fI1 = some ⟨oc_fI1, od_fI1, .func (PySem.W.fnOf "__init__" "File.__init__" (defArgs sFileI) (defBody sFileI) (defScope sFileI) .none kV_fI1 dc_fI1 pm_fI1 an_fI1 cd_fI1 ct_fI1), sl_fI1⟩)
    (c_fI1 : PySem.W.codeIn K cd_fI1 "File.__init__" = true)
    (k_fI1 : PySem.W.keepIn K (.ref fI1) = true)
    (a_fI2 : PySem.W.findIn K (.ref C2) "__init__" = some (some (.ref fI2)))
    (i_fI2 : PySem.W.isFn K (.ref fI2) = true)
    (l_fI2 : K.lookup fI2 = some ⟨oc_fI2, od_fI2, .func (PySem.W.fnOf "__init__" "Link.__init__" (defArgs sLinkI) (defBody sLinkI) (defScope sLinkI) .none kV_fI2 dc_fI2 pm_fI2 an_fI2 cd_fI2 ct_fI2), sl_fI2⟩)
    (c_fI2 : PySem.W.codeIn K cd_fI2 "Link.__init__" = true)
    (k_fI2 : PySem.W.keepIn K (.ref fI2) = true)
    (a_fI3 : PySem.W.findIn K (.ref C3) "__init__" = some (some (.ref fI3)))
    (i_fI3 : PySem.W.isFn K (.ref fI3) = true)
    (l_fI3 : K.lookup fI3 = some ⟨oc_fI3, od_fI3, .func (PySem.W.fnOf "__init__" "Gone.__init__" (defArgs sGoneI) (defBody sGoneI) (defScope sGoneI) .none kV_fI3 dc_fI3 pm_fI3 an_fI3 cd_fI3 ct_fI3), sl_fI3⟩)
    (c_fI3 : PySem.W.codeIn K cd_fI3 "Gone.__init__" = true)
    (k_fI3 : PySem.W.keepIn K (.ref fI3) = true)
    (a_fTI : PySem.W.findIn K (.ref CT) "__init__" = some (some (.ref fTI)))
    (i_fTI : PySem.W.isFn K (.ref fTI) = true)
    (l_fTI : K.lookup fTI = some ⟨oc_fTI, od_fTI, .func (PySem.W.fnOf "__init__" "Tree.__init__" (defArgs sTreeI) (defBody sTreeI) (defScope sTreeI) .none kV_fTI dc_fTI pm_fTI an_fTI cd_fTI ct_fTI), sl_fTI⟩)
    (c_fTI : PySem.W.codeIn K cd_fTI "Tree.__init__" = true)
    (k_fTI : PySem.W.keepIn K (.ref fTI) = true)
    (a_fNNI : PySem.W.findIn K (.ref CN) "__init__" = some (some (.ref fNNI)))
    (i_fNNI : PySem.W.isFn K (.ref fNNI) = true)
    (l_fNNI : K.lookup fNNI = some ⟨oc_fNNI, od_fNNI, .func (PySem.W.fnOf "__init__" "NoNode.__init__" (defArgs sNNI) (defBody sNNI) (defScope sNNI) .none kV_fNNI dc_fNNI pm_fNNI an_fNNI cd_fNNI ct_fNNI), sl_fNNI⟩)
    (c_fNNI : PySem.W.codeIn K cd_fNNI "NoNode.__init__" = true)
    (k_fNNI : PySem.W.keepIn K (.ref fNNI) = true)
    (a_fBI : PySem.W.findIn K (.ref CB) "__init__" = some (some (.ref fBI)))
    (i_fBI : PySem.W.isFn K (.ref fBI) = true)
    (l_fBI : K.lookup fBI = some ⟨oc_fBI, od_fBI, .func (PySem.W.fnOf "__init__" "BadText.__init__" (defArgs sBTI) (defBody sBTI) (defScope sBTI) .none kV_fBI dc_fBI pm_fBI an_fBI cd_fBI ct_fBI), sl_fBI⟩)
    (c_fBI : PySem.W.codeIn K cd_fBI "BadText.__init__" = true)
    (k_fBI : PySem.W.keepIn K (.ref fBI) = true)
    (a_fEnds : PySem.W.nsIn K mainGlobals "ends_with_name" = some (some (.ref fEnds)))
    (l_fEnds : K.lookup fEnds = some ⟨oc_fEnds, od_fEnds, .func (PySem.W.fnOf "ends_with_name" "ends_with_name" (defArgs sEnds) (defBody sEnds) (defScope sEnds) .none kV_fEnds dc_fEnds pm_fEnds an_fEnds cd_fEnds ct_fEnds), sl_fEnds⟩)
    (c_fEnds : PySem.W.codeIn K cd_fEnds "ends_with_name" = true)
    (k_fEnds : PySem.W.keepIn K (.ref fEnds) = true)
    (a_fPI : PySem.W.findIn K (.ref CP) "__init__" = some (some (.ref fPI)))
    (i_fPI : PySem.W.isFn K (.ref fPI) = true)
    (l_fPI : K.lookup fPI = some ⟨oc_fPI, od_fPI, .func (PySem.W.fnOf "__init__" "Path.__init__" (defArgs sInit) (defBody sInit) (defScope sInit) .none kV_fPI dc_fPI pm_fPI an_fPI cd_fPI ct_fPI), sl_fPI⟩)
    (c_fPI : PySem.W.codeIn K cd_fPI "Path.__init__" = true)
    (k_fPI : PySem.W.keepIn K (.ref fPI) = true)
    (a_fRead : PySem.W.nsIn K mainGlobals "read_path" = some (some (.ref fRead)))
    (l_fRead : K.lookup fRead = some ⟨oc_fRead, od_fRead, .func (PySem.W.fnOf "read_path" "read_path" (defArgs sRead) (defBody sRead) (defScope sRead) .none kV_fRead dc_fRead pm_fRead an_fRead cd_fRead ct_fRead), sl_fRead⟩)
    (c_fRead : PySem.W.codeIn K cd_fRead "read_path" = true)
    (k_fRead : PySem.W.keepIn K (.ref fRead) = true)
    (a_fVI : PySem.W.findIn K (.ref CV) "__init__" = some (some (.ref fVI)))
    (i_fVI : PySem.W.isFn K (.ref fVI) = true)
    (l_fVI : K.lookup fVI = some ⟨oc_fVI, od_fVI, .func (PySem.W.fnOf "__init__" "View.__init__" (defArgs sVI) (defBody sVI) (defScope sVI) .none kV_fVI dc_fVI pm_fVI an_fVI cd_fVI ct_fVI), sl_fVI⟩)
    (c_fVI : PySem.W.codeIn K cd_fVI "View.__init__" = true)
    (k_fVI : PySem.W.keepIn K (.ref fVI) = true)
    (a_fHm : PySem.W.nsIn K mainGlobals "folder_homes" = some (some (.ref fHm)))
    (l_fHm : K.lookup fHm = some ⟨oc_fHm, od_fHm, .func (PySem.W.fnOf "folder_homes" "folder_homes" (defArgs sHm) (defBody sHm) (defScope sHm) .none kV_fHm dc_fHm pm_fHm an_fHm cd_fHm ct_fHm), sl_fHm⟩)
    (c_fHm : PySem.W.codeIn K cd_fHm "folder_homes" = true)
    (k_fHm : PySem.W.keepIn K (.ref fHm) = true)
    (a_fCmI : PySem.W.findIn K (.ref CC) "__init__" = some (some (.ref fCmI)))
    (i_fCmI : PySem.W.isFn K (.ref fCmI) = true)
    (l_fCmI : K.lookup fCmI = some ⟨oc_fCmI, od_fCmI, .func (PySem.W.fnOf "__init__" "Came.__init__" (defArgs sCmI) (defBody sCmI) (defScope sCmI) .none kV_fCmI dc_fCmI pm_fCmI an_fCmI cd_fCmI ct_fCmI), sl_fCmI⟩)
    (c_fCmI : PySem.W.codeIn K cd_fCmI "Came.__init__" = true)
    (k_fCmI : PySem.W.keepIn K (.ref fCmI) = true)
    (a_fCmE : PySem.W.findIn K (.ref CC) "__eq__" = some (some (.ref fCmE)))
    (i_fCmE : PySem.W.isFn K (.ref fCmE) = true)
    (l_fCmE : K.lookup fCmE = some ⟨oc_fCmE, od_fCmE, .func (PySem.W.fnOf "__eq__" "Came.__eq__" (defArgs sCmE) (defBody sCmE) (defScope sCmE) .none kV_fCmE dc_fCmE pm_fCmE an_fCmE cd_fCmE ct_fCmE), sl_fCmE⟩)
    (c_fCmE : PySem.W.codeIn K cd_fCmE "Came.__eq__" = true)
    (k_fCmE : PySem.W.keepIn K (.ref fCmE) = true)
    (a_fGoI : PySem.W.findIn K (.ref CG) "__init__" = some (some (.ref fGoI)))
    (i_fGoI : PySem.W.isFn K (.ref fGoI) = true)
    (l_fGoI : K.lookup fGoI = some ⟨oc_fGoI, od_fGoI, .func (PySem.W.fnOf "__init__" "Going.__init__" (defArgs sGoI) (defBody sGoI) (defScope sGoI) .none kV_fGoI dc_fGoI pm_fGoI an_fGoI cd_fGoI ct_fGoI), sl_fGoI⟩)
    (c_fGoI : PySem.W.codeIn K cd_fGoI "Going.__init__" = true)
    (k_fGoI : PySem.W.keepIn K (.ref fGoI) = true)
    (a_fLkI : PySem.W.findIn K (.ref CL) "__init__" = some (some (.ref fLkI)))
    (i_fLkI : PySem.W.isFn K (.ref fLkI) = true)
    (l_fLkI : K.lookup fLkI = some ⟨oc_fLkI, od_fLkI, .func (PySem.W.fnOf "__init__" "Look.__init__" (defArgs sLkI) (defBody sLkI) (defScope sLkI) .none kV_fLkI dc_fLkI pm_fLkI an_fLkI cd_fLkI ct_fLkI), sl_fLkI⟩)
    (c_fLkI : PySem.W.codeIn K cd_fLkI "Look.__init__" = true)
    (k_fLkI : PySem.W.keepIn K (.ref fLkI) = true)
    (a_fUp : PySem.W.findIn K (.ref CV) "up" = some (some (.ref fUp)))
    (i_fUp : PySem.W.isFn K (.ref fUp) = true)
    (l_fUp : K.lookup fUp = some ⟨oc_fUp, od_fUp, .func (PySem.W.fnOf "up" "View.up" (defArgs sUp) (defBody sUp) (defScope sUp) .none kV_fUp dc_fUp pm_fUp an_fUp cd_fUp ct_fUp), sl_fUp⟩)
    (c_fUp : PySem.W.codeIn K cd_fUp "View.up" = true)
    (k_fUp : PySem.W.keepIn K (.ref fUp) = true)
    (a_fLed : PySem.W.findIn K (.ref CV) "led" = some (some (.ref fLed)))
    (i_fLed : PySem.W.isFn K (.ref fLed) = true)
    (l_fLed : K.lookup fLed = some ⟨oc_fLed, od_fLed, .func (PySem.W.fnOf "led" "View.led" (defArgs sLed) (defBody sLed) (defScope sLed) .none kV_fLed dc_fLed pm_fLed an_fLed cd_fLed ct_fLed), sl_fLed⟩)
    (c_fLed : PySem.W.codeIn K cd_fLed "View.led" = true)
    (k_fLed : PySem.W.keepIn K (.ref fLed) = true)
    (a_fRfI : PySem.W.findIn K (.ref CR) "__init__" = some (some (.ref fRfI)))
    (i_fRfI : PySem.W.isFn K (.ref fRfI) = true)
    (l_fRfI : K.lookup fRfI = some ⟨oc_fRfI, od_fRfI, .func (PySem.W.fnOf "__init__" "Refused.__init__" (defArgs sRfI) (defBody sRfI) (defScope sRfI) .none kV_fRfI dc_fRfI pm_fRfI an_fRfI cd_fRfI ct_fRfI), sl_fRfI⟩)
    (c_fRfI : PySem.W.codeIn K cd_fRfI "Refused.__init__" = true)
    (k_fRfI : PySem.W.keepIn K (.ref fRfI) = true)
    (a_fRfE : PySem.W.findIn K (.ref CR) "__eq__" = some (some (.ref fRfE)))
    (i_fRfE : PySem.W.isFn K (.ref fRfE) = true)
    (l_fRfE : K.lookup fRfE = some ⟨oc_fRfE, od_fRfE, .func (PySem.W.fnOf "__eq__" "Refused.__eq__" (defArgs sRfE) (defBody sRfE) (defScope sRfE) .none kV_fRfE dc_fRfE pm_fRfE an_fRfE cd_fRfE ct_fRfE), sl_fRfE⟩)
    (c_fRfE : PySem.W.codeIn K cd_fRfE "Refused.__eq__" = true)
    (k_fRfE : PySem.W.keepIn K (.ref fRfE) = true)
    (a_fGoR : PySem.W.findIn K (.ref CG) "refused" = some (some (.ref fGoR)))
    (i_fGoR : PySem.W.isFn K (.ref fGoR) = true)
    (l_fGoR : K.lookup fGoR = some ⟨oc_fGoR, od_fGoR, .func (PySem.W.fnOf "refused" "Going.refused" (defArgs sGoR) (defBody sGoR) (defScope sGoR) .none kV_fGoR dc_fGoR pm_fGoR an_fGoR cd_fGoR ct_fGoR), sl_fGoR⟩)
    (c_fGoR : PySem.W.codeIn K cd_fGoR "Going.refused" = true)
    (k_fGoR : PySem.W.keepIn K (.ref fGoR) = true)
    (a_fGoF : PySem.W.findIn K (.ref CG) "found" = some (some (.ref fGoF)))
    (i_fGoF : PySem.W.isFn K (.ref fGoF) = true)
    (l_fGoF : K.lookup fGoF = some ⟨oc_fGoF, od_fGoF, .func (PySem.W.fnOf "found" "Going.found" (defArgs sGoF) (defBody sGoF) (defScope sGoF) .none kV_fGoF dc_fGoF pm_fGoF an_fGoF cd_fGoF ct_fGoF), sl_fGoF⟩)
    (c_fGoF : PySem.W.codeIn K cd_fGoF "Going.found" = true)
    (k_fGoF : PySem.W.keepIn K (.ref fGoF) = true)
    (a_fGoL : PySem.W.findIn K (.ref CG) "followed" = some (some (.ref fGoL)))
    (i_fGoL : PySem.W.isFn K (.ref fGoL) = true)
    (l_fGoL : K.lookup fGoL = some ⟨oc_fGoL, od_fGoL, .func (PySem.W.fnOf "followed" "Going.followed" (defArgs sGoL) (defBody sGoL) (defScope sGoL) .none kV_fGoL dc_fGoL pm_fGoL an_fGoL cd_fGoL ct_fGoL), sl_fGoL⟩)
    (c_fGoL : PySem.W.codeIn K cd_fGoL "Going.followed" = true)
    (k_fGoL : PySem.W.keepIn K (.ref fGoL) = true)
    (a_fGoT : PySem.W.findIn K (.ref CG) "taken" = some (some (.ref fGoT)))
    (i_fGoT : PySem.W.isFn K (.ref fGoT) = true)
    (l_fGoT : K.lookup fGoT = some ⟨oc_fGoT, od_fGoT, .func (PySem.W.fnOf "taken" "Going.taken" (defArgs sGoT) (defBody sGoT) (defScope sGoT) .none kV_fGoT dc_fGoT pm_fGoT an_fGoT cd_fGoT ct_fGoT), sl_fGoT⟩)
    (c_fGoT : PySem.W.codeIn K cd_fGoT "Going.taken" = true)
    (k_fGoT : PySem.W.keepIn K (.ref fGoT) = true)
    (a_fGoK : PySem.W.findIn K (.ref CG) "looked" = some (some (.ref fGoK)))
    (i_fGoK : PySem.W.isFn K (.ref fGoK) = true)
    (l_fGoK : K.lookup fGoK = some ⟨oc_fGoK, od_fGoK, .func (PySem.W.fnOf "looked" "Going.looked" (defArgs sGoK) (defBody sGoK) (defScope sGoK) .none kV_fGoK dc_fGoK pm_fGoK an_fGoK cd_fGoK ct_fGoK), sl_fGoK⟩)
    (c_fGoK : PySem.W.codeIn K cd_fGoK "Going.looked" = true)
    (k_fGoK : PySem.W.keepIn K (.ref fGoK) = true)
    (a_fBeg : PySem.W.nsIn K mainGlobals "beginning" = some (some (.ref fBeg)))
    (l_fBeg : K.lookup fBeg = some ⟨oc_fBeg, od_fBeg, .func (PySem.W.fnOf "beginning" "beginning" (defArgs sBeg) (defBody sBeg) (defScope sBeg) .none kV_fBeg dc_fBeg pm_fBeg an_fBeg cd_fBeg ct_fBeg), sl_fBeg⟩)
    (c_fBeg : PySem.W.codeIn K cd_fBeg "beginning" = true)
    (k_fBeg : PySem.W.keepIn K (.ref fBeg) = true)
    (a_fBgn : PySem.W.nsIn K mainGlobals "begun" = some (some (.ref fBgn)))
    (l_fBgn : K.lookup fBgn = some ⟨oc_fBgn, od_fBgn, .func (PySem.W.fnOf "begun" "begun" (defArgs sBgn) (defBody sBgn) (defScope sBgn) .none kV_fBgn dc_fBgn pm_fBgn an_fBgn cd_fBgn ct_fBgn), sl_fBgn⟩)
    (c_fBgn : PySem.W.codeIn K cd_fBgn "begun" = true)
    (k_fBgn : PySem.W.keepIn K (.ref fBgn) = true)
    (a_fEnd : PySem.W.nsIn K mainGlobals "ended_in" = some (some (.ref fEnd)))
    (l_fEnd : K.lookup fEnd = some ⟨oc_fEnd, od_fEnd, .func (PySem.W.fnOf "ended_in" "ended_in" (defArgs sEnd) (defBody sEnd) (defScope sEnd) .none kV_fEnd dc_fEnd pm_fEnd an_fEnd cd_fEnd ct_fEnd), sl_fEnd⟩)
    (c_fEnd : PySem.W.codeIn K cd_fEnd "ended_in" = true)
    (k_fEnd : PySem.W.keepIn K (.ref fEnd) = true)
    (a_fWk : PySem.W.nsIn K mainGlobals "walk" = some (some (.ref fWk)))
    (l_fWk : K.lookup fWk = some ⟨oc_fWk, od_fWk, .func (PySem.W.fnOf "walk" "walk" (defArgs sWk) (defBody sWk) (defScope sWk) .none kV_fWk dc_fWk pm_fWk an_fWk cd_fWk ct_fWk), sl_fWk⟩)
    (c_fWk : PySem.W.codeIn K cd_fWk "walk" = true)
    (k_fWk : PySem.W.keepIn K (.ref fWk) = true)
    (a_fPl : PySem.W.nsIn K mainGlobals "check_place" = some (some (.ref fPl)))
    (l_fPl : K.lookup fPl = some ⟨oc_fPl, od_fPl, .func (PySem.W.fnOf "check_place" "check_place" (defArgs sPl) (defBody sPl) (defScope sPl) .none kV_fPl dc_fPl pm_fPl an_fPl cd_fPl ct_fPl), sl_fPl⟩)
    (c_fPl : PySem.W.codeIn K cd_fPl "check_place" = true)
    (k_fPl : PySem.W.keepIn K (.ref fPl) = true)
    (tIB : PySem.W.typeIn K (.ref fBI) = some (.type "function"))
    (tI : PySem.W.typeIn K (.ref fNNI) = some (.type "function"))
    (a_fMay : PySem.W.nsIn K mainGlobals "may_be_entered" = some (some (.ref fMay)))
    (l_fMay : K.lookup fMay = some ⟨oc_fMay, od_fMay, .func (PySem.W.fnOf "may_be_entered" "may_be_entered" (defArgs sMay) (defBody sMay) (defScope sMay) .none kV_fMay dc_fMay pm_fMay an_fMay cd_fMay ct_fMay), sl_fMay⟩)
    (c_fMay : PySem.W.codeIn K cd_fMay "may_be_entered" = true)
    (k_fMay : PySem.W.keepIn K (.ref fMay) = true)
    (a_fStood : PySem.W.nsIn K mainGlobals "stood_in" = some (some (.ref fStood)))
    (l_fStood : K.lookup fStood = some ⟨oc_fStood, od_fStood, .func (PySem.W.fnOf "stood_in" "stood_in" (defArgs sStood) (defBody sStood) (defScope sStood) .none kV_fStood dc_fStood pm_fStood an_fStood cd_fStood ct_fStood), sl_fStood⟩)
    (c_fStood : PySem.W.codeIn K cd_fStood "stood_in" = true)
    (k_fStood : PySem.W.keepIn K (.ref fStood) = true)
    (a_fFF : PySem.W.nsIn K mainGlobals "found_folders" = some (some (.ref fFF)))
    (l_fFF : K.lookup fFF = some ⟨oc_fFF, od_fFF, .func (PySem.W.fnOf "found_folders" "found_folders" (defArgs sFound) (defBody sFound) (defScope sFound) .none kV_fFF dc_fFF pm_fFF an_fFF cd_fFF ct_fFF), sl_fFF⟩)
    (c_fFF : PySem.W.codeIn K cd_fFF "found_folders" = true)
    (k_fFF : PySem.W.keepIn K (.ref fFF) = true)
    (a_fBy : PySem.W.nsIn K mainGlobals "by_names" = some (some (.ref fBy)))
    (l_fBy : K.lookup fBy = some ⟨oc_fBy, od_fBy, .func (PySem.W.fnOf "by_names" "by_names" (defArgs sBy) (defBody sBy) (defScope sBy) .none kV_fBy dc_fBy pm_fBy an_fBy cd_fBy ct_fBy), sl_fBy⟩)
    (c_fBy : PySem.W.codeIn K cd_fBy "by_names" = true)
    (k_fBy : PySem.W.keepIn K (.ref fBy) = true)
    (cB : cd_fBy = .ref c0)
    (lB : K.lookup c0 = some ⟨eB, dB, .fields vsB, slB⟩)
    (vB : vsB[11]? = some (.ref P0))
    (nB : K.lookup P0 = none)
    (a_fMade : PySem.W.nsIn K mainGlobals "_law_made" = some (some (.ref fMade)))
    (l_fMade : K.lookup fMade = some ⟨oc_fMade, od_fMade, .func (PySem.W.fnOf "_law_made" "_law_made" (defArgs sMade) (defBody sMade) (defScope sMade) .none kV_fMade dc_fMade pm_fMade an_fMade cd_fMade ct_fMade), sl_fMade⟩)
    (c_fMade : PySem.W.codeIn K cd_fMade "_law_made" = true)
    (k_fMade : PySem.W.keepIn K (.ref fMade) = true)
    (a_fWE : PySem.W.nsIn K mainGlobals "wrong_entries" = some (some (.ref fWE)))
    (l_fWE : K.lookup fWE = some ⟨oc_fWE, od_fWE, .func (PySem.W.fnOf "wrong_entries" "wrong_entries" (defArgs sWE) (defBody sWE) (defScope sWE) .none kV_fWE dc_fWE pm_fWE an_fWE cd_fWE ct_fWE), sl_fWE⟩)
    (c_fWE : PySem.W.codeIn K cd_fWE "wrong_entries" = true)
    (k_fWE : PySem.W.keepIn K (.ref fWE) = true)
    (a_fWN : PySem.W.nsIn K mainGlobals "wrong_node" = some (some (.ref fWN)))
    (l_fWN : K.lookup fWN = some ⟨oc_fWN, od_fWN, .func (PySem.W.fnOf "wrong_node" "wrong_node" (defArgs sWN) (defBody sWN) (defScope sWN) .none kV_fWN dc_fWN pm_fWN an_fWN cd_fWN ct_fWN), sl_fWN⟩)
    (c_fWN : PySem.W.codeIn K cd_fWN "wrong_node" = true)
    (k_fWN : PySem.W.keepIn K (.ref fWN) = true)
    (a_fET : PySem.W.nsIn K mainGlobals "entered_times" = some (some (.ref fET)))
    (l_fET : K.lookup fET = some ⟨oc_fET, od_fET, .func (PySem.W.fnOf "entered_times" "entered_times" (defArgs sET) (defBody sET) (defScope sET) .none kV_fET dc_fET pm_fET an_fET cd_fET ct_fET), sl_fET⟩)
    (c_fET : PySem.W.codeIn K cd_fET "entered_times" = true)
    (k_fET : PySem.W.keepIn K (.ref fET) = true)
    (a_fCN : PySem.W.nsIn K mainGlobals "check_nodes" = some (some (.ref fCN)))
    (l_fCN : K.lookup fCN = some ⟨oc_fCN, od_fCN, .func (PySem.W.fnOf "check_nodes" "check_nodes" (defArgs sCN) (defBody sCN) (defScope sCN) .none kV_fCN dc_fCN pm_fCN an_fCN cd_fCN ct_fCN), sl_fCN⟩)
    (c_fCN : PySem.W.codeIn K cd_fCN "check_nodes" = true)
    (k_fCN : PySem.W.keepIn K (.ref fCN) = true)
    (a_fCF : PySem.W.nsIn K mainGlobals "check_folders" = some (some (.ref fCF)))
    (l_fCF : K.lookup fCF = some ⟨oc_fCF, od_fCF, .func (PySem.W.fnOf "check_folders" "check_folders" (defArgs sCF) (defBody sCF) (defScope sCF) .none kV_fCF dc_fCF pm_fCF an_fCF cd_fCF ct_fCF), sl_fCF⟩)
    (c_fCF : PySem.W.codeIn K cd_fCF "check_folders" = true)
    (k_fCF : PySem.W.keepIn K (.ref fCF) = true)
    (a_fTree : PySem.W.nsIn K mainGlobals "_law_tree" = some (some (.ref fTree)))
    (l_fTree : K.lookup fTree = some ⟨oc_fTree, od_fTree, .func (PySem.W.fnOf "_law_tree" "_law_tree" (defArgs sTree) (defBody sTree) (defScope sTree) .none kV_fTree dc_fTree pm_fTree an_fTree cd_fTree ct_fTree), sl_fTree⟩)
    (c_fTree : PySem.W.codeIn K cd_fTree "_law_tree" = true)
    (k_fTree : PySem.W.keepIn K (.ref fTree) = true)
    (a_fCk : PySem.W.nsIn K mainGlobals "check_node" = some (some (.ref fCk)))
    (l_fCk : K.lookup fCk = some ⟨oc_fCk, od_fCk, .func (PySem.W.fnOf "check_node" "check_node" (defArgs sCk) (defBody sCk) (defScope sCk) .none kV_fCk dc_fCk pm_fCk an_fCk cd_fCk ct_fCk), sl_fCk⟩)
    (c_fCk : PySem.W.codeIn K cd_fCk "check_node" = true)
    (k_fCk : PySem.W.keepIn K (.ref fCk) = true)
    (a_fSs : PySem.W.nsIn K mainGlobals "_law_steps" = some (some (.ref fSs)))
    (l_fSs : K.lookup fSs = some ⟨oc_fSs, od_fSs, .func (PySem.W.fnOf "_law_steps" "_law_steps" (defArgs sSs) (defBody sSs) (defScope sSs) .none kV_fSs dc_fSs pm_fSs an_fSs cd_fSs ct_fSs), sl_fSs⟩)
    (c_fSs : PySem.W.codeIn K cd_fSs "_law_steps" = true)
    (k_fSs : PySem.W.keepIn K (.ref fSs) = true)
    (a_fNo : PySem.W.nsIn K mainGlobals "_law_noisy" = some (some (.ref fNo)))
    (l_fNo : K.lookup fNo = some ⟨oc_fNo, od_fNo, .func (PySem.W.fnOf "_law_noisy" "_law_noisy" (defArgs sNo) (defBody sNo) (defScope sNo) .none kV_fNo dc_fNo pm_fNo an_fNo cd_fNo ct_fNo), sl_fNo⟩)
    (c_fNo : PySem.W.codeIn K cd_fNo "_law_noisy" = true)
    (k_fNo : PySem.W.keepIn K (.ref fNo) = true)
    (a_fText : PySem.W.nsIn K mainGlobals "path_text" = some (some (.ref fText)))
    (l_fText : K.lookup fText = some ⟨oc_fText, od_fText, .func (PySem.W.fnOf "path_text" "path_text" (defArgs sText) (defBody sText) (defScope sText) .none kV_fText dc_fText pm_fText an_fText cd_fText ct_fText), sl_fText⟩)
    (c_fText : PySem.W.codeIn K cd_fText "path_text" = true)
    (k_fText : PySem.W.keepIn K (.ref fText) = true)
    (a_fPE : PySem.W.findIn K (.ref CP) "__eq__" = some (some (.ref fPE)))
    (i_fPE : PySem.W.isFn K (.ref fPE) = true)
    (l_fPE : K.lookup fPE = some ⟨oc_fPE, od_fPE, .func (PySem.W.fnOf "__eq__" "Path.__eq__" (defArgs sEq) (defBody sEq) (defScope sEq) .none kV_fPE dc_fPE pm_fPE an_fPE cd_fPE ct_fPE), sl_fPE⟩)
    (c_fPE : PySem.W.codeIn K cd_fPE "Path.__eq__" = true)
    (k_fPE : PySem.W.keepIn K (.ref fPE) = true)
    (a_fLaw : PySem.W.nsIn K mainGlobals "law" = some (some (.ref fLaw)))
    (l_fLaw : K.lookup fLaw = some ⟨oc_fLaw, od_fLaw, .func (PySem.W.fnOf "law" "law" (defArgs sLaw) (defBody sLaw) (defScope sLaw) .none kV_fLaw dc_fLaw pm_fLaw an_fLaw cd_fLaw ct_fLaw), sl_fLaw⟩)
    (c_fLaw : PySem.W.codeIn K cd_fLaw "law" = true)
    (k_fLaw : PySem.W.keepIn K (.ref fLaw) = true) :
    LawAtS l w K CX0 12 63 "_law_script" mg fa h := by
  have e := hfa.symm.trans (PySem.W.mg_of X G a_fLaw)
  cases e
  have F_fName := fun_mk (st := sName) l_fName c_fName k_fName
  have b_fName := F_fName.binds (ps := ["value"]) fun _ _ _ _ _ _ us hl => match us, hl with | [_], _ => rfl
  have F_fStep := fun_mk (st := sStep) l_fStep c_fStep k_fStep
  have b_fStep := F_fStep.binds (ps := ["value"]) fun _ _ _ _ _ _ us hl => match us, hl with | [_], _ => rfl
  have F_fBad := fun_mk (st := sBad) l_fBad c_fBad k_fBad
  have b_fBad := F_fBad.binds (ps := ["text"]) fun _ _ _ _ _ _ us hl => match us, hl with | [_], _ => rfl
  have F_fNum := fun_mk (st := sNum) l_fNum c_fNum k_fNum
  have b_fNum := F_fNum.binds (ps := ["value"]) fun _ _ _ _ _ _ us hl => match us, hl with | [_], _ => rfl
  have F_fOwner := fun_mk (st := sOwner) l_fOwner c_fOwner k_fOwner
  have b_fOwner := F_fOwner.binds (ps := ["value"]) fun _ _ _ _ _ _ us hl => match us, hl with | [_], _ => rfl
  have F_fAt := fun_mk (st := sAt) l_fAt c_fAt k_fAt
  have b_fAt := F_fAt.binds (ps := ["nodes", "number"]) fun _ _ _ _ _ _ us hl => match us, hl with | [_, _], _ => rfl
  have F_fPool := fun_mk (st := sPool) l_fPool c_fPool k_fPool
  have b_fPool := F_fPool.binds (ps := []) fun _ _ _ _ _ _ us hl => match us, hl with | [], _ => rfl
  have F_fTxt := fun_mk (st := sTxt) l_fTxt c_fTxt k_fTxt
  have b_fTxt := F_fTxt.binds (ps := ["_law_s"]) fun _ _ _ _ _ _ us hl => match us, hl with | [_], _ => rfl
  have F_fFree := fun_mk (st := sFree) l_fFree c_fFree k_fFree
  have b_fFree := F_fFree.binds (ps := ["_law_s", "_law_nodes_here", "_law_folder"]) fun _ _ _ _ _ _ us hl => match us, hl with | [_, _, _], _ => rfl
  have F_fState := fun_mk (st := sState) l_fState c_fState k_fState
  have b_fState := F_fState.binds (ps := ["_law_source"]) fun _ _ _ _ _ _ us hl => match us, hl with | [_], _ => rfl
  have F_fDigit := fun_mk (st := sDigit) l_fDigit c_fDigit k_fDigit
  have b_fDigit := F_fDigit.binds (ps := ["_law_state_here", "_law_base"]) fun _ _ _ _ _ _ us hl => match us, hl with | [_, _], _ => rfl
  have F_fNodes := fun_mk (st := sNodes) l_fNodes c_fNodes k_fNodes
  have b_fNodes := F_fNodes.binds (ps := ["_law_s", "_law_many", "_law_links"]) fun _ _ _ _ _ _ us hl => match us, hl with | [_, _, _], _ => rfl
  have F_fI0 := fun_mk (st := sFolI) l_fI0 c_fI0 k_fI0
  have b_fI0 := F_fI0.binds (ps := ["self", "owner", "entries"]) fun _ _ _ _ _ _ us hl => match us, hl with | [_, _, _], _ => rfl
  have F_fI1 := fun_mk (st := sFileI) l_fI1 c_fI1 k_fI1
  have b_fI1 := F_fI1.binds (ps := ["self", "owner"]) fun _ _ _ _ _ _ us hl => match us, hl with | [_, _], _ => rfl
  have F_fI2 := fun_mk (st := sLinkI) l_fI2 c_fI2 k_fI2
  have b_fI2 := F_fI2.binds (ps := ["self", "owner", "text"]) fun _ _ _ _ _ _ us hl => match us, hl with | [_, _, _], _ => rfl
  have F_fI3 := fun_mk (st := sGoneI) l_fI3 c_fI3 k_fI3
  have b_fI3 := F_fI3.binds (ps := ["self", "owner", "above"]) fun _ _ _ _ _ _ us hl => match us, hl with | [_, _, _], _ => rfl
  have F_fTI := fun_mk (st := sTreeI) l_fTI c_fTI k_fTI
  have b_fTI := F_fTI.binds (ps := ["self", "nodes"]) fun _ _ _ _ _ _ us hl => match us, hl with | [_, _], _ => rfl
  have F_fNNI := fun_mk (st := sNNI) l_fNNI c_fNNI k_fNNI
  have b_fNNI := F_fNNI.binds (ps := ["self", "node"]) fun _ _ _ _ _ _ us hl => match us, hl with | [_, _], _ => rfl
  have F_fBI := fun_mk (st := sBTI) l_fBI c_fBI k_fBI
  have b_fBI := F_fBI.binds (ps := ["self", "place"]) fun _ _ _ _ _ _ us hl => match us, hl with | [_, _], _ => rfl
  have F_fEnds := fun_mk (st := sEnds) l_fEnds c_fEnds k_fEnds
  have b_fEnds := F_fEnds.binds (ps := ["steps"]) fun _ _ _ _ _ _ us hl => match us, hl with | [_], _ => rfl
  have F_fPI := fun_mk (st := sInit) l_fPI c_fPI k_fPI
  have b_fPI := F_fPI.binds (ps := ["self", "steps", "absolute", "folder"]) fun _ _ _ _ _ _ us hl => match us, hl with | [_, _, _, _], _ => rfl
  have F_fRead := fun_mk (st := sRead) l_fRead c_fRead k_fRead
  have b_fRead := F_fRead.binds (ps := ["text"]) fun _ _ _ _ _ _ us hl => match us, hl with | [_], _ => rfl
  have F_fVI := fun_mk (st := sVI) l_fVI c_fVI k_fVI
  have b_fVI := F_fVI.binds (ps := ["self", "tree"]) fun _ _ _ _ _ _ us hl => match us, hl with | [_, _], _ => rfl
  have F_fHm := fun_mk (st := sHm) l_fHm c_fHm k_fHm
  have b_fHm := F_fHm.binds (ps := ["nodes"]) fun _ _ _ _ _ _ us hl => match us, hl with | [_], _ => rfl
  have F_fCmI := fun_mk (st := sCmI) l_fCmI c_fCmI k_fCmI
  have b_fCmI := F_fCmI.binds (ps := ["self", "node"]) fun _ _ _ _ _ _ us hl => match us, hl with | [_, _], _ => rfl
  have F_fCmE := fun_mk (st := sCmE) l_fCmE c_fCmE k_fCmE
  have b_fCmE := F_fCmE.binds (ps := ["self", "other"]) fun _ _ _ _ _ _ us hl => match us, hl with | [_, _], _ => rfl
  have F_fGoI := fun_mk (st := sGoI) l_fGoI c_fGoI k_fGoI
  have b_fGoI := F_fGoI.binds (ps := ["self", "look", "at", "steps", "wants", "links"]) fun _ _ _ _ _ _ us hl => match us, hl with | [_, _, _, _, _, _], _ => rfl
  have F_fLkI := fun_mk (st := sLkI) l_fLkI c_fLkI k_fLkI
  have b_fLkI := F_fLkI.binds (ps := ["self", "follow", "last", "owners"]) fun _ _ _ _ _ _ us hl => match us, hl with | [_, _, _, _], _ => rfl
  have F_fUp := fun_mk (st := sUp) l_fUp c_fUp k_fUp
  have b_fUp := F_fUp.binds (ps := ["self", "at"]) fun _ _ _ _ _ _ us hl => match us, hl with | [_, _], _ => rfl
  have F_fLed := fun_mk (st := sLed) l_fLed c_fLed k_fLed
  have b_fLed := F_fLed.binds (ps := ["self", "at", "step"]) fun _ _ _ _ _ _ us hl => match us, hl with | [_, _, _], _ => rfl
  have F_fRfI := fun_mk (st := sRfI) l_fRfI c_fRfI k_fRfI
  have b_fRfI := F_fRfI.binds (ps := ["self", "why"]) fun _ _ _ _ _ _ us hl => match us, hl with | [_, _], _ => rfl
  have F_fRfE := fun_mk (st := sRfE) l_fRfE c_fRfE k_fRfE
  have b_fRfE := F_fRfE.binds (ps := ["self", "other"]) fun _ _ _ _ _ _ us hl => match us, hl with | [_, _], _ => rfl
  have F_fGoR := fun_mk (st := sGoR) l_fGoR c_fGoR k_fGoR
  have b_fGoR := F_fGoR.binds (ps := ["self", "why"]) fun _ _ _ _ _ _ us hl => match us, hl with | [_, _], _ => rfl
  have F_fGoF := fun_mk (st := sGoF) l_fGoF c_fGoF k_fGoF
  have b_fGoF := F_fGoF.binds (ps := ["self", "view"]) fun _ _ _ _ _ _ us hl => match us, hl with | [_, _], _ => rfl
  have F_fGoL := fun_mk (st := sGoL) l_fGoL c_fGoL k_fGoL
  have b_fGoL := F_fGoL.binds (ps := ["self", "path"]) fun _ _ _ _ _ _ us hl => match us, hl with | [_, _], _ => rfl
  have F_fGoT := fun_mk (st := sGoT) l_fGoT c_fGoT k_fGoT
  have b_fGoT := F_fGoT.binds (ps := ["self", "view", "number"]) fun _ _ _ _ _ _ us hl => match us, hl with | [_, _, _], _ => rfl
  have F_fGoK := fun_mk (st := sGoK) l_fGoK c_fGoK k_fGoK
  have b_fGoK := F_fGoK.binds (ps := ["self", "view"]) fun _ _ _ _ _ _ us hl => match us, hl with | [_, _], _ => rfl
  have F_fBeg := fun_mk (st := sBeg) l_fBeg c_fBeg k_fBeg
  have b_fBeg := F_fBeg.binds (ps := ["at", "path"]) fun _ _ _ _ _ _ us hl => match us, hl with | [_, _], _ => rfl
  have F_fBgn := fun_mk (st := sBgn) l_fBgn c_fBgn k_fBgn
  have b_fBgn := F_fBgn.binds (ps := ["place", "path", "look"]) fun _ _ _ _ _ _ us hl => match us, hl with | [_, _, _], _ => rfl
  have F_fEnd := fun_mk (st := sEnd) l_fEnd c_fEnd k_fEnd
  have b_fEnd := F_fEnd.binds (ps := ["view", "going"]) fun _ _ _ _ _ _ us hl => match us, hl with | [_, _], _ => rfl
  have F_fWk := fun_mk (st := sWk) l_fWk c_fWk k_fWk
  have b_fWk := F_fWk.binds (ps := ["tree", "place", "path", "look"]) fun _ _ _ _ _ _ us hl => match us, hl with | [_, _, _, _], _ => rfl
  have F_fPl := fun_mk (st := sPl) l_fPl c_fPl k_fPl
  have b_fPl := F_fPl.binds (ps := ["tree", "place"]) fun _ _ _ _ _ _ us hl => match us, hl with | [_, _], _ => rfl
  have F_fMay := fun_mk (st := sMay) l_fMay c_fMay k_fMay
  have b_fMay := F_fMay.binds (ps := ["nodes", "number"]) fun _ _ _ _ _ _ us hl => match us, hl with | [_, _], _ => rfl
  have F_fStood := fun_mk (st := sStood) l_fStood c_fStood k_fStood
  have b_fStood := F_fStood.binds (ps := ["nodes", "number", "last"]) fun _ _ _ _ _ _ us hl => match us, hl with | [_, _, _], _ => rfl
  have F_fFF := fun_mk (st := sFound) l_fFF c_fFF k_fFF
  have b_fFF := F_fFF.binds (ps := ["nodes"]) fun _ _ _ _ _ _ us hl => match us, hl with | [_], _ => rfl
  have F_fBy := fun_mk (st := sBy) l_fBy c_fBy k_fBy
  have b_fBy := F_fBy.binds (ps := ["entries"]) fun _ _ _ _ _ _ us hl => match us, hl with | [_], _ => rfl
  have F_fMade := fun_mk (st := sMade) l_fMade c_fMade k_fMade
  have b_fMade := F_fMade.binds (ps := ["_law_node"]) fun _ _ _ _ _ _ us hl => match us, hl with | [_], _ => rfl
  have F_fWE := fun_mk (st := sWE) l_fWE c_fWE k_fWE
  have b_fWE := F_fWE.binds (ps := ["nodes", "entries"]) fun _ _ _ _ _ _ us hl => match us, hl with | [_, _], _ => rfl
  have F_fWN := fun_mk (st := sWN) l_fWN c_fWN k_fWN
  have b_fWN := F_fWN.binds (ps := ["nodes", "number"]) fun _ _ _ _ _ _ us hl => match us, hl with | [_, _], _ => rfl
  have F_fET := fun_mk (st := sET) l_fET c_fET k_fET
  have b_fET := F_fET.binds (ps := ["nodes"]) fun _ _ _ _ _ _ us hl => match us, hl with | [_], _ => rfl
  have F_fCN := fun_mk (st := sCN) l_fCN c_fCN k_fCN
  have b_fCN := F_fCN.binds (ps := ["nodes"]) fun _ _ _ _ _ _ us hl => match us, hl with | [_], _ => rfl
  have F_fCF := fun_mk (st := sCF) l_fCF c_fCF k_fCF
  have b_fCF := F_fCF.binds (ps := ["nodes"]) fun _ _ _ _ _ _ us hl => match us, hl with | [_], _ => rfl
  have F_fTree := fun_mk (st := sTree) l_fTree c_fTree k_fTree
  have b_fTree := F_fTree.binds (ps := ["_law_nodes_here"]) fun _ _ _ _ _ _ us hl => match us, hl with | [_], _ => rfl
  have F_fCk := fun_mk (st := sCk) l_fCk c_fCk k_fCk
  have b_fCk := F_fCk.binds (ps := ["tree", "node"]) fun _ _ _ _ _ _ us hl => match us, hl with | [_, _], _ => rfl
  have F_fSs := fun_mk (st := sSs) l_fSs c_fSs k_fSs
  have b_fSs := F_fSs.binds (ps := ["_law_s", "_law_most"]) fun _ _ _ _ _ _ us hl => match us, hl with | [_, _], _ => rfl
  have F_fNo := fun_mk (st := sNo) l_fNo c_fNo k_fNo
  have b_fNo := F_fNo.binds (ps := ["_law_s", "_law_steps_here", "_law_absolute", "_law_folder"]) fun _ _ _ _ _ _ us hl => match us, hl with | [_, _, _, _], _ => rfl
  have F_fText := fun_mk (st := sText) l_fText c_fText k_fText
  have b_fText := F_fText.binds (ps := ["path"]) fun _ _ _ _ _ _ us hl => match us, hl with | [_], _ => rfl
  have F_fPE := fun_mk (st := sEq) l_fPE c_fPE k_fPE
  have b_fPE := F_fPE.binds (ps := ["self", "other"]) fun _ _ _ _ _ _ us hl => match us, hl with | [_, _], _ => rfl
  have F_fLaw := fun_mk (st := sLaw) l_fLaw c_fLaw k_fLaw
  have b_fLaw := F_fLaw.binds (ps := ["_law_script"]) fun _ _ _ _ _ _ us hl => match us, hl with | [_], _ => rfl
  have TA : TxtA mg := ⟨PySem.W.mg_none_of X G z_int, PySem.W.mg_none_of X G z_abs⟩
  have TN : TxtN K mg fName fStep := ⟨PySem.W.mg_none_of X G z_isinstance, PySem.W.mg_none_of X G z_str, PySem.W.mg_none_of X G z_len, PySem.W.mg_none_of X G z_all, ⟨_, PySem.W.mg_of X G gLN⟩, ⟨_, PySem.W.mg_of X G gLL⟩, PySem.W.mg_of X G a_fName, k_fName, PySem.W.mg_of X G a_fStep, k_fStep⟩
  have TK : TxtK K mg fNum fAt fDigit fPool := ⟨PySem.W.mg_none_of X G z_isinstance, PySem.W.mg_none_of X G z_int, PySem.W.mg_none_of X G z_bool, PySem.W.mg_none_of X G z_len, PySem.W.mg_none_of X G z_range, PySem.W.mg_none_of X G z_min, PySem.W.mg_of X G a_fNum, k_fNum, PySem.W.mg_of X G a_fAt, k_fAt, PySem.W.mg_of X G a_fDigit, k_fDigit, PySem.W.mg_of X G a_fPool, k_fPool⟩
  have TD : TxtD K mg fTxt fFree := ⟨PySem.W.mg_none_of X G z_enumerate, PySem.W.mg_of X G a_fTxt, k_fTxt, PySem.W.mg_of X G a_fFree, k_fFree⟩
  have TG : TxtG K mg (quad C0 C1 C2 C3) := ⟨all4 (⟨pg_C0, hd_C0, po_C0, sa_C0⟩) (⟨pg_C1, hd_C1, po_C1, sa_C1⟩) (⟨pg_C2, hd_C2, po_C2, sa_C2⟩) (⟨pg_C3, hd_C3, po_C3, sa_C3⟩), all4 (⟨e1_C0, c2, c3, e3_C0⟩) (⟨e1_C1, c2, c3, e3_C1⟩) (⟨e1_C2, c2, c3, e3_C2⟩) (⟨e1_C3, c2, c3, e3_C3⟩), all44 (kit_self) (kit_own hd_C1 tp_C1 s_01 n_01) (kit_own hd_C2 tp_C2 s_02 n_02) (kit_own hd_C3 tp_C3 s_03 n_03) (kit_own hd_C0 tp_C0 s_10 n_10) (kit_self) (kit_own hd_C2 tp_C2 s_12 n_12) (kit_own hd_C3 tp_C3 s_13 n_13) (kit_own hd_C0 tp_C0 s_20 n_20) (kit_own hd_C1 tp_C1 s_21 n_21) (kit_self) (kit_own hd_C3 tp_C3 s_23 n_23) (kit_own hd_C0 tp_C0 s_30 n_30) (kit_own hd_C1 tp_C1 s_31 n_31) (kit_own hd_C2 tp_C2 s_32 n_32) (kit_self), PySem.W.mg_of X G a_C0, PySem.W.mg_of X G a_C1, PySem.W.mg_of X G a_C2, PySem.W.mg_of X G a_C3, ⟨_, PySem.W.mg_of X G gRO⟩, all4 (na_C0_owner) (na_C1_owner) (na_C2_owner) (na_C3_owner), na_C0_entries, na_C2_text, na_C3_above⟩
  have TS : TxtS K mg fBy := ⟨PySem.W.mg_none_of X G z_all, PySem.W.mg_none_of X G z_isinstance, PySem.W.mg_none_of X G z_str, PySem.W.mg_none_of X G z_tuple, PySem.W.mg_none_of X G z_sorted, PySem.W.mg_of X G a_fBy, k_fBy⟩
  have TM : Makers K (quad C0 C1 C2 C3) (quad fI0 fI1 fI2 fI3) := ⟨all4 (⟨mk_C0, a_fI0, i_fI0, k_C0⟩) (⟨mk_C1, a_fI1, i_fI1, k_C1⟩) (⟨mk_C2, a_fI2, i_fI2, k_C2⟩) (⟨mk_C3, a_fI3, i_fI3, k_C3⟩)⟩
  have TW : TxtW K mg fMay fWE fStood fBad fOwner fWN := ⟨PySem.W.mg_none_of X G z_set, PySem.W.mg_of X G a_fMay, k_fMay, PySem.W.mg_of X G a_fWE, k_fWE, PySem.W.mg_of X G a_fStood, k_fStood, PySem.W.mg_of X G a_fBad, k_fBad, PySem.W.mg_of X G a_fOwner, k_fOwner, PySem.W.mg_of X G a_fWN, k_fWN⟩
  have TT : TxtT K mg fET fFF fCN fCF := ⟨PySem.W.mg_none_of X G z_enumerate, PySem.W.mg_of X G a_fET, k_fET, PySem.W.mg_of X G a_fFF, k_fFF, PySem.W.mg_of X G a_fCN, k_fCN, PySem.W.mg_of X G a_fCF, k_fCF⟩
  have TV : TxtV K mg fMade CT := ⟨PySem.W.mg_of X G a_CT, PySem.W.mg_of X G a_fMade, k_fMade⟩
  have TX : TxtX K mg CN fNNI fCk fPl CT := ⟨⟨⟨nmN_, qN_, NN_, bsN_, bmN_, snN_, subN_, abN_, colN_, ddN_, m0N_, m1N_, m2N_, m3N_, m5N_, xLN_, xRN_⟩, saN_, exN_, tyN_, k_CN⟩, na_CN_node, a_fNNI, tI, PySem.W.mg_of X G a_CN, PySem.W.mg_of X G a_fCk, k_fCk, PySem.W.mg_of X G a_fPl, k_fPl, ⟨pg_CT, hd_CT, po_CT, sa_CT⟩, na_CT_nodes⟩
  have TE : TxtE K mg fEnds := ⟨PySem.W.mg_of X G a_fEnds, k_fEnds⟩
  have TP : TxtP K mg CP CNP := ⟨PySem.W.mg_none_of X G z_tuple, PySem.W.mg_of X G a_CP, ⟨pg_CP, hd_CP, po_CP, sa_CP⟩, na_CP_steps, na_CP_absolute, na_CP_folder, xP, PySem.W.mg_of X G a_CNP, k_CNP, bP, tP⟩
  have TB_ : TxtB K mg CB fBI fBad := ⟨⟨⟨nmB_, qB_, NB_, bsB_, bmB_, snB_, subB_, abB_, colB_, ddB_, m0B_, m1B_, m2B_, m3B_, m5B_, xLB_, xRB_⟩, saB_, exB_, tyB_, k_CB⟩, na_CB_place, a_fBI, tIB, PySem.W.mg_of X G a_CB, PySem.W.mg_of X G a_fBad, k_fBad⟩
  have TVw : TxtVw K mg CV fHm fRead := ⟨PySem.W.mg_none_of X G z_dict, ⟨pg_CV, hd_CV, po_CV, sa_CV⟩, na_CV_nodes, na_CV_names, na_CV_homes, na_CV_paths, PySem.W.mg_of X G a_CV, PySem.W.mg_of X G a_fHm, k_fHm, PySem.W.mg_of X G a_fRead, k_fRead⟩
  have MC : Mk K CC fCmI := ⟨mk_CC, a_fCmI, i_fCmI, k_CC⟩
  have MG : Mk K CG fGoI := ⟨mk_CG, a_fGoI, i_fGoI, k_CG⟩
  have MV : Mk K CV fVI := ⟨mk_CV, a_fVI, i_fVI, k_CV⟩
  have ML : Mk K CL fLkI := ⟨mk_CL, a_fLkI, i_fLkI, k_CL⟩
  have MP : Mk K CP fPI := ⟨mk_CP, a_fPI, i_fPI, k_CP⟩
  have TO : TxtGo K mg CC CG CP fCmI fBeg fBgn fEnd := ⟨⟨pg_CC, hd_CC, po_CC, sa_CC⟩, na_CC_node, PySem.W.mg_of X G a_CC, MC, ⟨pg_CG, hd_CG, po_CG, sa_CG⟩, na_CG_look, na_CG_at, na_CG_steps, na_CG_wants, na_CG_links, na_CG_result, PySem.W.mg_of X G a_CG, ⟨pg_CP, hd_CP, po_CP, sa_CP⟩, na_CP_steps, na_CP_absolute, na_CP_folder, PySem.W.mg_of X G a_fBeg, k_fBeg, PySem.W.mg_of X G a_fBgn, k_fBgn, PySem.W.mg_of X G a_fEnd, k_fEnd⟩
  have TLk : TxtLk K mg CL fWk fWk := ⟨⟨pg_CL, hd_CL, po_CL, sa_CL⟩, na_CL_follow, na_CL_last, na_CL_owners, PySem.W.mg_of X G a_CL, PySem.W.mg_of X G a_fWk, k_fWk⟩
  have TL : TxtL K mg fState fNodes fTree fSs fNo fText := ⟨PySem.W.mg_of X G a_fState, k_fState, PySem.W.mg_of X G a_fNodes, k_fNodes, PySem.W.mg_of X G a_fTree, k_fTree, PySem.W.mg_of X G a_fSs, k_fSs, PySem.W.mg_of X G a_fNo, k_fNo, PySem.W.mg_of X G a_fText, k_fText⟩
  have TQ : TxtQ mg := ⟨PySem.W.mg_none_of X G z_enumerate⟩
  have TCP_ : TyC K CP := ⟨cp1, c2, c3, cpm⟩
  have TPE_ : EqC K CP fPE := ⟨a_fPE, i_fPE, cp3, cp4⟩
  have MR : Mk K CR fRfI := ⟨mk_CR, a_fRfI, i_fRfI, k_CR⟩
  have TRf : TxtRf K mg CR fRfI := ⟨⟨pg_CR, hd_CR, po_CR, sa_CR⟩, na_CR_why, PySem.W.mg_of X G a_CR, MR⟩
  have TCr : TyC K CR := ⟨cr1, c2, c3, crm⟩
  have TEr : EqC K CR fRfE := ⟨a_fRfE, i_fRfE, cr3, cr4⟩
  have TCm : TyC K CC := ⟨cc1, c2, c3, ccm⟩
  have TEq : EqC K CC fCmE := ⟨a_fCmE, i_fCmE, cc3, cc4⟩
  have T2 : TwoC K CC CR := ⟨TCm, TCr, kit_own hd_CR tp_CR s_CCCR n_CCCR, kit_own hd_CC tp_CC s_CRCC n_CRCC, (by unfold PySem.W.notFirst; rw [s_CRCC]; simp), (by unfold PySem.W.notFirst; rw [s_CCCR]; simp)⟩
  have hCR : CC ≠ CR := fun h => by subst h; simp at n_CCCR
  have mUp : Meth K CV "up" fUp := ⟨a_fUp, i_fUp, k_fUp⟩
  have mLed : Meth K CV "led" fLed := ⟨a_fLed, i_fLed, k_fLed⟩
  have mGoR : Meth K CG "refused" fGoR := ⟨a_fGoR, i_fGoR, k_fGoR⟩
  have mGoF : Meth K CG "found" fGoF := ⟨a_fGoF, i_fGoF, k_fGoF⟩
  have mGoL : Meth K CG "followed" fGoL := ⟨a_fGoL, i_fGoL, k_fGoL⟩
  have mGoT : Meth K CG "taken" fGoT := ⟨a_fGoT, i_fGoT, k_fGoT⟩
  have mGoK : Meth K CG "looked" fGoK := ⟨a_fGoK, i_fGoK, k_fGoK⟩
  have MT : Mk K CT fTI := ⟨mk_CT, a_fTI, i_fTI, k_CT⟩
  have tb := tb c0 P0 (tabIn_of a_fBy l_fBy cB lB vB)
  refine ⟨PySem.W.fnOf "law" "law" (defArgs sLaw) (defBody sLaw) (defScope sLaw) .none kV_fLaw dc_fLaw pm_fLaw an_fLaw cd_fLaw ct_fLaw, [(c0, P0)], spLaw K P0, one1 tb.2, one1 nB, one1 tb.1, fun s u => .of_eq rfl, fun H a ns hl _ hH hS => ⟨a, ns, rfl, hS, hl, one1 (TabS.nil (hH _ List.mem_cons_self)), fun _ => rfl⟩, fun base _ _ tbb => ?_⟩
  have TB : TabB base mg c0 P0 := tbb _ List.mem_cons_self
  have g_name := ok_name (P := l.prog) (w := w) (base := base) F_fName TN
  have g_step := ok_step F_fStep TN g_name b_fName
  have g_bad := ok_bad F_fBad TN g_step b_fStep
  have g_num := ok_num (P := l.prog) (w := w) (base := base) F_fNum TK
  have g_owner := ok_owner F_fOwner TK g_num b_fNum
  have g_at := ok_at F_fAt TK g_num b_fNum
  have g_pool := ok_pool (P := l.prog) (w := w) (base := base) (mg := mg) F_fPool
  have g_state := ok_state (P := l.prog) (w := w) (base := base) F_fState TA
  have g_digit := ok_digit (P := l.prog) (w := w) (base := base) F_fDigit TA
  have g_txt := ok_txt F_fTxt TK g_digit b_fDigit
  have g_free := ok_free F_fFree TK g_digit b_fDigit g_pool b_fPool
  have g_nodes := ok_nodes F_fNodes TK TD g_digit b_fDigit g_txt b_fTxt g_free b_fFree
  have g_f1 := ok_fileI (P := l.prog) (w := w) (base := base) (mg := mg) F_fI1 ⟨pg_C1, hd_C1, po_C1, sa_C1⟩ na_C1_owner
  have g_f2 := ok_linkI (P := l.prog) (w := w) (base := base) (mg := mg) F_fI2 ⟨pg_C2, hd_C2, po_C2, sa_C2⟩ na_C2_owner na_C2_text
  have g_f3 := ok_goneI (P := l.prog) (w := w) (base := base) (mg := mg) F_fI3 ⟨pg_C3, hd_C3, po_C3, sa_C3⟩ na_C3_owner na_C3_above
  have g_may := ok_may F_fMay TK TG g_at b_fAt
  have g_stood := ok_stood F_fStood TK TG g_at b_fAt
  have g_ff := ok_found (P := l.prog) (w := w) (base := base) F_fFF TK TG
  have g_by := ok_by (P := l.prog) (w := w) F_fBy cB TS TB
  have g_f0 := ok_folI F_fI0 TS ⟨pg_C0, hd_C0, po_C0, sa_C0⟩ na_C0_owner na_C0_entries g_by b_fBy
  have g_made := ok_made F_fMade TG TM g_f0 b_fI0 g_f1 b_fI1 g_f2 b_fI2 g_f3 b_fI3
  have g_we := ok_we F_fWE TK TS TN TW g_name b_fName g_may b_fMay
  have g_wn := ok_wn F_fWN TK TG TW g_owner b_fOwner g_we b_fWE g_bad b_fBad g_stood b_fStood
  have g_et := ok_et (P := l.prog) (w := w) (base := base) F_fET TK TG
  have g_cn := ok_cn F_fCN TK TG TW g_wn b_fWN
  have g_cf := ok_cf F_fCF TK TT TG g_et b_fET g_ff b_fFF
  have g_ti := ok_treeI F_fTI TS TT ⟨pg_CT, hd_CT, po_CT, sa_CT⟩ na_CT_nodes g_cn b_fCN g_cf b_fCF
  have g_tree := ok_tree F_fTree TV MT g_made b_fMade g_ti b_fTI
  have g_nni := ok_nni (P := l.prog) (w := w) (base := base) F_fNNI TX
  have g_ckN := ok_ckN F_fCk TK TX g_at b_fAt
  have g_ckX := ok_ckX F_fCk TK TX g_at b_fAt g_nni b_fNNI
  have g_plN := ok_plN F_fPl TK TG TX g_ckN b_fCk
  have g_ends := ok_ends (P := l.prog) (w := w) (base := base) F_fEnds TN
  have g_pinit := ok_pinit F_fPI TN TE TP g_step b_fStep g_ends b_fEnds
  have g_bti := ok_bti (P := l.prog) (w := w) (base := base) F_fBI TB_
  have g_read := ok_read F_fRead TP TB_ g_bad b_fBad g_bti b_fBI MP g_pinit b_fPI
  have g_hm := ok_hm (P := l.prog) (w := w) (base := base) F_fHm TK TG TT
  have g_vi := ok_vi F_fVI TK TG TT TX TVw g_hm b_fHm g_read b_fRead
  have g_cmI := ok_cmI (P := l.prog) (w := w) (base := base) F_fCmI TO
  have g_goG := ok_goG F_fGoI TO (PySem.W.mg_none_of X G z_len) g_cmI b_fCmI
  have g_beg := ok_beg (P := l.prog) (w := w) (base := base) F_fBeg TO TG
  have g_bgG := ok_bgG F_fBgn TO MG g_goG b_fGoI g_beg b_fBeg
  have g_up := ok_up (P := l.prog) (w := w) (base := base) (CP := CP) F_fUp TK TG TVw
  have g_led := ok_led F_fLed TVw mUp g_up b_fUp
  have g_rfI := ok_rfI (P := l.prog) (w := w) (base := base) F_fRfI TRf
  have g_goR := ok_goR F_fGoR TO TRf MG g_goG b_fGoI g_rfI b_fRfI
  have g_goF := ok_goF F_fGoF TO TVw mLed g_led b_fLed
  have g_goL := ok_goL F_fGoL TO (PySem.W.mg_none_of X G z_len) ⟨_, PySem.W.mg_of X G gML⟩ mGoR g_goR b_fGoR MG g_goG b_fGoI g_beg b_fBeg
  have g_goT := ok_goT F_fGoT TK TG TO TVw ⟨pg_CL, hd_CL, po_CL, sa_CL⟩ na_CL_follow na_CL_last na_CL_owners mGoR g_goR b_fGoR mGoL g_goL b_fGoL MG g_goG b_fGoI
  have g_goK := ok_goK F_fGoK TO mGoT g_goT b_fGoT mGoF g_goF b_fGoF
  have g_endG := ok_endG F_fEnd TO mGoK g_goK b_fGoK
  have g_lkG := ok_lkG F_fLkI TS TW TLk g_owner b_fOwner
  have g_cmE := ok_cmR (P := l.prog) (w := w) (base := base) F_fCmE (PySem.W.mg_none_of X G z_isinstance) TO TRf T2 hCR
  have g_rfE := ok_rfR (P := l.prog) (w := w) (base := base) F_fRfE (PySem.W.mg_none_of X G z_isinstance) TO TRf T2 hCR.symm
  have g_pe := ok_peq (P := l.prog) (w := w) (base := base) F_fPE TN TP TCP_
  have g_tx := ok_text F_fText TE TP g_ends b_fEnds
  have g_wkG := ok_wkG F_fWk TX TVw TO MV g_plN b_fPl g_vi b_fVI g_bgG b_fBgn g_endG b_fEnd
  have g_ss := ok_ss F_fSs TK g_digit b_fDigit
  have g_no := ok_no F_fNo TK TQ g_digit b_fDigit
  exact ok_law F_fLaw TK TQ TVw TP TO TRf TLk TL TEq TEr TPE_ TCP_ T2 g_state b_fState g_digit b_fDigit g_nodes b_fNodes g_tree b_fTree ML g_lkG b_fLkI g_read b_fRead MP g_pinit b_fPI g_cmE b_fCmE g_rfE b_fRfE g_pe b_fPE g_wkG b_fWk g_ss b_fSs g_no b_fNo g_tx b_fText g_rfI b_fRfI
theorem walk {l : PySem.W.OpenLaw} {q : Program} {loose : List Str} {XP : (Str → Option Value) → Heap → Prop} {YP : World → Heap → Prop} {d : DefRec} {K : Params → PySem.W.Frag} (hn : l.most = some 63) (hdf : d.params.defaults = []) (hrec : ((recsOf q).find? fun e => e.name == ("by_names" : Str)).isSome = true)
    (hY : ∀ (w : World) (h : Heap), YP w h → (K w.params).In h)
    (F : ∀ (w : World) (mg : Str → Option Value) (fa : Addr) (h : Heap), (K w.params).In h → h.Ns mainGlobals mg → mg d.name = some (.ref fa) → (∀ c P, PySem.W.tabIn (K w.params) "by_names" = some (c, P) → PySem.W.CodeHd h c P ∧ h.get? P = some (PySem.W.tabObj #[])) →
      LawAtS l w (K w.params) CX0 12 63 "_law_script" mg fa h) :
    PySem.W.WalkO q loose XP YP l.row.toRowW d [] (fun f vs => PySem.call f vs) :=
  walk_tab (n := 63) (k := 12) (x := "_law_script") (CX := fun _ => CX0) hn (by decide) hdf ⟨rfl, by decide, by decide⟩ hrec hY (fun w mg fa h _ KX G hm t => F w mg fa h KX G hm t) fun _ _ _ _ _ z => z
end NW

open PySem PySem.W PyProof.Rows
set_option maxRecDepth 100000 in
set_option maxHeartbeats 0 in
theorem PySem.Challenge.cw_namewalk_k91_whole_walks_in_parts_holds : PySem.Challenge.rw_namewalk_k91_whole_walks_in_parts.Holds := by
  w_on; o_law; k_head; (case hw => w_witness2)
  k_fill
  refine NW.walk (l := PySem.Challenge.rw_namewalk_k91_whole_walks_in_parts) rfl rfl (by rfl) (fun w h Y => PySem.W.km_in_of Y) ?F
  case F =>
    intro w mg fa h KX G hmg tb
    refine' NW.all_mk KX G hmg tb ?a_C0 ?k_C0 ?pg_C0 ?hd_C0 ?po_C0 ?sa_C0 ?mk_C0 ?na_C0_owner ?e3_C0 ?e1_C0 ?tp_C0 ?a_C1 ?k_C1 ?pg_C1 ?hd_C1 ?po_C1 ?sa_C1 ?mk_C1 ?na_C1_owner ?e3_C1 ?e1_C1 ?tp_C1 ?a_C2 ?k_C2 ?pg_C2 ?hd_C2 ?po_C2 ?sa_C2 ?mk_C2 ?na_C2_owner ?e3_C2 ?e1_C2 ?tp_C2 ?a_C3 ?k_C3 ?pg_C3 ?hd_C3 ?po_C3 ?sa_C3 ?mk_C3 ?na_C3_owner ?e3_C3 ?e1_C3 ?tp_C3 ?na_C0_entries ?na_C2_text ?na_C3_above ?s_01 ?n_01 ?s_02 ?n_02 ?s_03 ?n_03 ?s_10 ?n_10 ?s_12 ?n_12 ?s_13 ?n_13 ?s_20 ?n_20 ?s_21 ?n_21 ?s_23 ?n_23 ?s_30 ?n_30 ?s_31 ?n_31 ?s_32 ?n_32 ?c2 ?c3 ?a_CT ?k_CT ?pg_CT ?hd_CT ?po_CT ?sa_CT ?mk_CT ?na_CT_nodes ?a_CN ?k_CN ?xLN_ ?xRN_ ?saN_ ?exN_ ?tyN_ ?na_CN_node ?a_CB ?k_CB ?xLB_ ?xRB_ ?saB_ ?exB_ ?tyB_ ?na_CB_place ?gaB ?ggB ?hdB ?teB ?a_CP ?k_CP ?pg_CP ?hd_CP ?po_CP ?sa_CP ?mk_CP ?na_CP_steps ?na_CP_absolute ?na_CP_folder ?a_CNP ?k_CNP ?xP ?bP ?tP ?a_CV ?k_CV ?pg_CV ?hd_CV ?po_CV ?sa_CV ?mk_CV ?na_CV_nodes ?na_CV_names ?na_CV_homes ?na_CV_paths ?a_CL ?k_CL ?pg_CL ?hd_CL ?po_CL ?sa_CL ?mk_CL ?na_CL_follow ?na_CL_last ?na_CL_owners ?a_CC ?k_CC ?pg_CC ?hd_CC ?po_CC ?sa_CC ?mk_CC ?na_CC_node ?ccm ?cc1 ?cc3 ?cc4 ?a_CR ?k_CR ?pg_CR ?hd_CR ?po_CR ?sa_CR ?mk_CR ?na_CR_why ?crm ?cr1 ?cr3 ?cr4 ?tp_CR ?s_CCCR ?n_CCCR ?s_NTCR ?tp_CC ?s_CRCC ?n_CRCC ?cpm ?cp1 ?cp3 ?cp4 ?a_CG ?k_CG ?pg_CG ?hd_CG ?po_CG ?sa_CG ?mk_CG ?na_CG_look ?na_CG_at ?na_CG_steps ?na_CG_wants ?na_CG_links ?na_CG_result ?gML ?gLN ?gLL ?gRO ?z_isinstance ?z_str ?z_len ?z_all ?z_int ?z_abs ?z_tuple ?z_range ?z_bool ?z_min ?z_sorted ?z_enumerate ?z_set ?z_list ?z_dict ?a_fName ?l_fName ?c_fName ?k_fName ?a_fStep ?l_fStep ?c_fStep ?k_fStep ?a_fBad ?l_fBad ?c_fBad ?k_fBad ?a_fNum ?l_fNum ?c_fNum ?k_fNum ?a_fOwner ?l_fOwner ?c_fOwner ?k_fOwner ?a_fAt ?l_fAt ?c_fAt ?k_fAt ?a_fPool ?l_fPool ?c_fPool ?k_fPool ?a_fTxt ?l_fTxt ?c_fTxt ?k_fTxt ?a_fFree ?l_fFree ?c_fFree ?k_fFree ?a_fState ?l_fState ?c_fState ?k_fState ?a_fDigit ?l_fDigit ?c_fDigit ?k_fDigit ?a_fNodes ?l_fNodes ?c_fNodes ?k_fNodes ?a_fI0 ?i_fI0 ?l_fI0 ?c_fI0 ?k_fI0 ?a_fI1 ?i_fI1 ?l_fI1 ?c_fI1 ?k_fI1 ?a_fI2 ?i_fI2 ?l_fI2 ?c_fI2 ?k_fI2 ?a_fI3 ?i_fI3 ?l_fI3 ?c_fI3 ?k_fI3 ?a_fTI ?i_fTI ?l_fTI ?c_fTI ?k_fTI ?a_fNNI ?i_fNNI ?l_fNNI ?c_fNNI ?k_fNNI ?a_fBI ?i_fBI ?l_fBI ?c_fBI ?k_fBI ?a_fEnds ?l_fEnds ?c_fEnds ?k_fEnds ?a_fPI ?i_fPI ?l_fPI ?c_fPI ?k_fPI ?a_fRead ?l_fRead ?c_fRead ?k_fRead ?a_fVI ?i_fVI ?l_fVI ?c_fVI ?k_fVI ?a_fHm ?l_fHm ?c_fHm ?k_fHm ?a_fCmI ?i_fCmI ?l_fCmI ?c_fCmI ?k_fCmI ?a_fCmE ?i_fCmE ?l_fCmE ?c_fCmE ?k_fCmE ?a_fGoI ?i_fGoI ?l_fGoI ?c_fGoI ?k_fGoI ?a_fLkI ?i_fLkI ?l_fLkI ?c_fLkI ?k_fLkI ?a_fUp ?i_fUp ?l_fUp ?c_fUp ?k_fUp ?a_fLed ?i_fLed ?l_fLed ?c_fLed ?k_fLed ?a_fRfI ?i_fRfI ?l_fRfI ?c_fRfI ?k_fRfI ?a_fRfE ?i_fRfE ?l_fRfE ?c_fRfE ?k_fRfE ?a_fGoR ?i_fGoR ?l_fGoR ?c_fGoR ?k_fGoR ?a_fGoF ?i_fGoF ?l_fGoF ?c_fGoF ?k_fGoF ?a_fGoL ?i_fGoL ?l_fGoL ?c_fGoL ?k_fGoL ?a_fGoT ?i_fGoT ?l_fGoT ?c_fGoT ?k_fGoT ?a_fGoK ?i_fGoK ?l_fGoK ?c_fGoK ?k_fGoK ?a_fBeg ?l_fBeg ?c_fBeg ?k_fBeg ?a_fBgn ?l_fBgn ?c_fBgn ?k_fBgn ?a_fEnd ?l_fEnd ?c_fEnd ?k_fEnd ?a_fWk ?l_fWk ?c_fWk ?k_fWk ?a_fPl ?l_fPl ?c_fPl ?k_fPl ?tIB ?tI ?a_fMay ?l_fMay ?c_fMay ?k_fMay ?a_fStood ?l_fStood ?c_fStood ?k_fStood ?a_fFF ?l_fFF ?c_fFF ?k_fFF ?a_fBy ?l_fBy ?c_fBy ?k_fBy ?cB ?lB ?vB ?nB ?a_fMade ?l_fMade ?c_fMade ?k_fMade ?a_fWE ?l_fWE ?c_fWE ?k_fWE ?a_fWN ?l_fWN ?c_fWN ?k_fWN ?a_fET ?l_fET ?c_fET ?k_fET ?a_fCN ?l_fCN ?c_fCN ?k_fCN ?a_fCF ?l_fCF ?c_fCF ?k_fCF ?a_fTree ?l_fTree ?c_fTree ?k_fTree ?a_fCk ?l_fCk ?c_fCk ?k_fCk ?a_fSs ?l_fSs ?c_fSs ?k_fSs ?a_fNo ?l_fNo ?c_fNo ?k_fNo ?a_fText ?l_fText ?c_fText ?k_fText ?a_fPE ?i_fPE ?l_fPE ?c_fPE ?k_fPE ?a_fLaw ?l_fLaw ?c_fLaw ?k_fLaw
    (case a_C0 => k_is)
    (case k_C0 => k_is)
    (case pg_C0 => k_is)
    (case hd_C0 => k_is)
    (case po_C0 => k_is)
    (case sa_C0 => k_is)
    (case mk_C0 => k_is)
    (case na_C0_owner => k_is)
    (case e3_C0 => k_is)
    (case e1_C0 => k_is)
    (case tp_C0 => k_is)
    (case a_C1 => k_is)
    (case k_C1 => k_is)
    (case pg_C1 => k_is)
    (case hd_C1 => k_is)
    (case po_C1 => k_is)
    (case sa_C1 => k_is)
    (case mk_C1 => k_is)
    (case na_C1_owner => k_is)
    (case e3_C1 => k_is)
    (case e1_C1 => k_is)
    (case tp_C1 => k_is)
    (case a_C2 => k_is)
    (case k_C2 => k_is)
    (case pg_C2 => k_is)
    (case hd_C2 => k_is)
    (case po_C2 => k_is)
    (case sa_C2 => k_is)
    (case mk_C2 => k_is)
    (case na_C2_owner => k_is)
    (case e3_C2 => k_is)
    (case e1_C2 => k_is)
    (case tp_C2 => k_is)
    (case a_C3 => k_is)
    (case k_C3 => k_is)
    (case pg_C3 => k_is)
    (case hd_C3 => k_is)
    (case po_C3 => k_is)
    (case sa_C3 => k_is)
    (case mk_C3 => k_is)
    (case na_C3_owner => k_is)
    (case e3_C3 => k_is)
    (case e1_C3 => k_is)
    (case tp_C3 => k_is)
    (case na_C0_entries => k_is)
    (case na_C2_text => k_is)
    (case na_C3_above => k_is)
    (case s_01 => k_is)
    (case n_01 => first | rfl | decide)
    (case s_02 => k_is)
    (case n_02 => first | rfl | decide)
    (case s_03 => k_is)
    (case n_03 => first | rfl | decide)
    (case s_10 => k_is)
    (case n_10 => first | rfl | decide)
    (case s_12 => k_is)
    (case n_12 => first | rfl | decide)
    (case s_13 => k_is)
    (case n_13 => first | rfl | decide)
    (case s_20 => k_is)
    (case n_20 => first | rfl | decide)
    (case s_21 => k_is)
    (case n_21 => first | rfl | decide)
    (case s_23 => k_is)
    (case n_23 => first | rfl | decide)
    (case s_30 => k_is)
    (case n_30 => first | rfl | decide)
    (case s_31 => k_is)
    (case n_31 => first | rfl | decide)
    (case s_32 => k_is)
    (case n_32 => first | rfl | decide)
    (case c2 => k_is)
    (case c3 => k_is)
    (case a_CT => k_is)
    (case k_CT => k_is)
    (case pg_CT => k_is)
    (case hd_CT => k_is)
    (case po_CT => k_is)
    (case sa_CT => k_is)
    (case mk_CT => k_is)
    (case na_CT_nodes => k_is)
    (case a_CN => k_is)
    (case k_CN => k_is)
    (case xLN_ => k_is)
    (case xRN_ => first | decide +kernel | rfl | k_is)
    (case saN_ => k_is)
    (case exN_ => k_is)
    (case tyN_ => k_is)
    (case na_CN_node => k_is)
    (case a_CB => k_is)
    (case k_CB => k_is)
    (case xLB_ => k_is)
    (case xRB_ => first | decide +kernel | rfl | k_is)
    (case saB_ => k_is)
    (case exB_ => k_is)
    (case tyB_ => k_is)
    (case na_CB_place => k_is)
    (case gaB => k_is)
    (case ggB => k_is)
    (case hdB => k_is)
    (case teB => first | k_is | rfl | decide +kernel)
    (case a_CP => k_is)
    (case k_CP => k_is)
    (case pg_CP => k_is)
    (case hd_CP => k_is)
    (case po_CP => k_is)
    (case sa_CP => k_is)
    (case mk_CP => k_is)
    (case na_CP_steps => k_is)
    (case na_CP_absolute => k_is)
    (case na_CP_folder => k_is)
    (case a_CNP => k_is)
    (case k_CNP => k_is)
    (case xP => first | k_exc | k_is)
    (case bP => k_is)
    (case tP => k_is)
    (case a_CV => k_is)
    (case k_CV => k_is)
    (case pg_CV => k_is)
    (case hd_CV => k_is)
    (case po_CV => k_is)
    (case sa_CV => k_is)
    (case mk_CV => k_is)
    (case na_CV_nodes => k_is)
    (case na_CV_names => k_is)
    (case na_CV_homes => k_is)
    (case na_CV_paths => k_is)
    (case a_CL => k_is)
    (case k_CL => k_is)
    (case pg_CL => k_is)
    (case hd_CL => k_is)
    (case po_CL => k_is)
    (case sa_CL => k_is)
    (case mk_CL => k_is)
    (case na_CL_follow => k_is)
    (case na_CL_last => k_is)
    (case na_CL_owners => k_is)
    (case a_CC => k_is)
    (case k_CC => k_is)
    (case pg_CC => k_is)
    (case hd_CC => k_is)
    (case po_CC => k_is)
    (case sa_CC => k_is)
    (case mk_CC => k_is)
    (case na_CC_node => k_is)
    (case ccm => k_is)
    (case cc1 => k_is)
    (case cc3 => k_is)
    (case cc4 => k_is)
    (case a_CR => k_is)
    (case k_CR => k_is)
    (case pg_CR => k_is)
    (case hd_CR => k_is)
    (case po_CR => k_is)
    (case sa_CR => k_is)
    (case mk_CR => k_is)
    (case na_CR_why => k_is)
    (case crm => k_is)
    (case cr1 => k_is)
    (case cr3 => k_is)
    (case cr4 => k_is)
    (case tp_CR => k_is)
    (case s_CCCR => k_is)
    (case n_CCCR => first | rfl | decide)
    (case s_NTCR => k_is)
    (case tp_CC => k_is)
    (case s_CRCC => k_is)
    (case n_CRCC => first | rfl | decide)
    (case cpm => k_is)
    (case cp1 => k_is)
    (case cp3 => k_is)
    (case cp4 => k_is)
    (case a_CG => k_is)
    (case k_CG => k_is)
    (case pg_CG => k_is)
    (case hd_CG => k_is)
    (case po_CG => k_is)
    (case sa_CG => k_is)
    (case mk_CG => k_is)
    (case na_CG_look => k_is)
    (case na_CG_at => k_is)
    (case na_CG_steps => k_is)
    (case na_CG_wants => k_is)
    (case na_CG_links => k_is)
    (case na_CG_result => k_is)
    (case gML => k_is)
    (case gLN => k_is)
    (case gLL => k_is)
    (case gRO => k_is)
    (case z_isinstance => k_is)
    (case z_str => k_is)
    (case z_len => k_is)
    (case z_all => k_is)
    (case z_int => k_is)
    (case z_abs => k_is)
    (case z_tuple => k_is)
    (case z_range => k_is)
    (case z_bool => k_is)
    (case z_min => k_is)
    (case z_sorted => k_is)
    (case z_enumerate => k_is)
    (case z_set => k_is)
    (case z_list => k_is)
    (case z_dict => k_is)
    (case a_fName => k_is)
    (case l_fName => k_is)
    (case c_fName => k_is)
    (case k_fName => k_is)
    (case a_fStep => k_is)
    (case l_fStep => k_is)
    (case c_fStep => k_is)
    (case k_fStep => k_is)
    (case a_fBad => k_is)
    (case l_fBad => k_is)
    (case c_fBad => k_is)
    (case k_fBad => k_is)
    (case a_fNum => k_is)
    (case l_fNum => k_is)
    (case c_fNum => k_is)
    (case k_fNum => k_is)
    (case a_fOwner => k_is)
    (case l_fOwner => k_is)
    (case c_fOwner => k_is)
    (case k_fOwner => k_is)
    (case a_fAt => k_is)
    (case l_fAt => k_is)
    (case c_fAt => k_is)
    (case k_fAt => k_is)
    (case a_fPool => k_is)
    (case l_fPool => k_is)
    (case c_fPool => k_is)
    (case k_fPool => k_is)
    (case a_fTxt => k_is)
    (case l_fTxt => k_is)
    (case c_fTxt => k_is)
    (case k_fTxt => k_is)
    (case a_fFree => k_is)
    (case l_fFree => k_is)
    (case c_fFree => k_is)
    (case k_fFree => k_is)
    (case a_fState => k_is)
    (case l_fState => k_is)
    (case c_fState => k_is)
    (case k_fState => k_is)
    (case a_fDigit => k_is)
    (case l_fDigit => k_is)
    (case c_fDigit => k_is)
    (case k_fDigit => k_is)
    (case a_fNodes => k_is)
    (case l_fNodes => k_is)
    (case c_fNodes => k_is)
    (case k_fNodes => k_is)
    (case a_fI0 => k_is)
    (case i_fI0 => k_is)
    (case l_fI0 => k_is)
    (case c_fI0 => k_is)
    (case k_fI0 => k_is)
    (case a_fI1 => k_is)
    (case i_fI1 => k_is)
    (case l_fI1 => k_is)
    (case c_fI1 => k_is)
    (case k_fI1 => k_is)
    (case a_fI2 => k_is)
    (case i_fI2 => k_is)
    (case l_fI2 => k_is)
    (case c_fI2 => k_is)
    (case k_fI2 => k_is)
    (case a_fI3 => k_is)
    (case i_fI3 => k_is)
    (case l_fI3 => k_is)
    (case c_fI3 => k_is)
    (case k_fI3 => k_is)
    (case a_fTI => k_is)
    (case i_fTI => k_is)
    (case l_fTI => k_is)
    (case c_fTI => k_is)
    (case k_fTI => k_is)
    (case a_fNNI => k_is)
    (case i_fNNI => k_is)
    (case l_fNNI => k_is)
    (case c_fNNI => k_is)
    (case k_fNNI => k_is)
    (case a_fBI => k_is)
    (case i_fBI => k_is)
    (case l_fBI => k_is)
    (case c_fBI => k_is)
    (case k_fBI => k_is)
    (case a_fEnds => k_is)
    (case l_fEnds => k_is)
    (case c_fEnds => k_is)
    (case k_fEnds => k_is)
    (case a_fPI => k_is)
    (case i_fPI => k_is)
    (case l_fPI => k_is)
    (case c_fPI => k_is)
    (case k_fPI => k_is)
    (case a_fRead => k_is)
    (case l_fRead => k_is)
    (case c_fRead => k_is)
    (case k_fRead => k_is)
    (case a_fVI => k_is)
    (case i_fVI => k_is)
    (case l_fVI => k_is)
    (case c_fVI => k_is)
    (case k_fVI => k_is)
    (case a_fHm => k_is)
    (case l_fHm => k_is)
    (case c_fHm => k_is)
    (case k_fHm => k_is)
    (case a_fCmI => k_is)
    (case i_fCmI => k_is)
    (case l_fCmI => k_is)
    (case c_fCmI => k_is)
    (case k_fCmI => k_is)
    (case a_fCmE => k_is)
    (case i_fCmE => k_is)
    (case l_fCmE => k_is)
    (case c_fCmE => k_is)
    (case k_fCmE => k_is)
    (case a_fGoI => k_is)
    (case i_fGoI => k_is)
    (case l_fGoI => k_is)
    (case c_fGoI => k_is)
    (case k_fGoI => k_is)
    (case a_fLkI => k_is)
    (case i_fLkI => k_is)
    (case l_fLkI => k_is)
    (case c_fLkI => k_is)
    (case k_fLkI => k_is)
    (case a_fUp => k_is)
    (case i_fUp => k_is)
    (case l_fUp => k_is)
    (case c_fUp => k_is)
    (case k_fUp => k_is)
    (case a_fLed => k_is)
    (case i_fLed => k_is)
    (case l_fLed => k_is)
    (case c_fLed => k_is)
    (case k_fLed => k_is)
    (case a_fRfI => k_is)
    (case i_fRfI => k_is)
    (case l_fRfI => k_is)
    (case c_fRfI => k_is)
    (case k_fRfI => k_is)
    (case a_fRfE => k_is)
    (case i_fRfE => k_is)
    (case l_fRfE => k_is)
    (case c_fRfE => k_is)
    (case k_fRfE => k_is)
    (case a_fGoR => k_is)
    (case i_fGoR => k_is)
    (case l_fGoR => k_is)
    (case c_fGoR => k_is)
    (case k_fGoR => k_is)
    (case a_fGoF => k_is)
    (case i_fGoF => k_is)
    (case l_fGoF => k_is)
    (case c_fGoF => k_is)
    (case k_fGoF => k_is)
    (case a_fGoL => k_is)
    (case i_fGoL => k_is)
    (case l_fGoL => k_is)
    (case c_fGoL => k_is)
    (case k_fGoL => k_is)
    (case a_fGoT => k_is)
    (case i_fGoT => k_is)
    (case l_fGoT => k_is)
    (case c_fGoT => k_is)
    (case k_fGoT => k_is)
    (case a_fGoK => k_is)
    (case i_fGoK => k_is)
    (case l_fGoK => k_is)
    (case c_fGoK => k_is)
    (case k_fGoK => k_is)
    (case a_fBeg => k_is)
    (case l_fBeg => k_is)
    (case c_fBeg => k_is)
    (case k_fBeg => k_is)
    (case a_fBgn => k_is)
    (case l_fBgn => k_is)
    (case c_fBgn => k_is)
    (case k_fBgn => k_is)
    (case a_fEnd => k_is)
    (case l_fEnd => k_is)
    (case c_fEnd => k_is)
    (case k_fEnd => k_is)
    (case a_fWk => k_is)
    (case l_fWk => k_is)
    (case c_fWk => k_is)
    (case k_fWk => k_is)
    (case a_fPl => k_is)
    (case l_fPl => k_is)
    (case c_fPl => k_is)
    (case k_fPl => k_is)
    (case tIB => k_is)
    (case tI => k_is)
    (case a_fMay => k_is)
    (case l_fMay => k_is)
    (case c_fMay => k_is)
    (case k_fMay => k_is)
    (case a_fStood => k_is)
    (case l_fStood => k_is)
    (case c_fStood => k_is)
    (case k_fStood => k_is)
    (case a_fFF => k_is)
    (case l_fFF => k_is)
    (case c_fFF => k_is)
    (case k_fFF => k_is)
    (case a_fBy => k_is)
    (case l_fBy => k_is)
    (case c_fBy => k_is)
    (case k_fBy => k_is)
    (case cB => rfl)
    (case lB => k_is)
    (case vB => rfl)
    (case nB => first | k_is | rfl | kernel_rfl)
    (case a_fMade => k_is)
    (case l_fMade => k_is)
    (case c_fMade => k_is)
    (case k_fMade => k_is)
    (case a_fWE => k_is)
    (case l_fWE => k_is)
    (case c_fWE => k_is)
    (case k_fWE => k_is)
    (case a_fWN => k_is)
    (case l_fWN => k_is)
    (case c_fWN => k_is)
    (case k_fWN => k_is)
    (case a_fET => k_is)
    (case l_fET => k_is)
    (case c_fET => k_is)
    (case k_fET => k_is)
    (case a_fCN => k_is)
    (case l_fCN => k_is)
    (case c_fCN => k_is)
    (case k_fCN => k_is)
    (case a_fCF => k_is)
    (case l_fCF => k_is)
    (case c_fCF => k_is)
    (case k_fCF => k_is)
    (case a_fTree => k_is)
    (case l_fTree => k_is)
    (case c_fTree => k_is)
    (case k_fTree => k_is)
    (case a_fCk => k_is)
    (case l_fCk => k_is)
    (case c_fCk => k_is)
    (case k_fCk => k_is)
    (case a_fSs => k_is)
    (case l_fSs => k_is)
    (case c_fSs => k_is)
    (case k_fSs => k_is)
    (case a_fNo => k_is)
    (case l_fNo => k_is)
    (case c_fNo => k_is)
    (case k_fNo => k_is)
    (case a_fText => k_is)
    (case l_fText => k_is)
    (case c_fText => k_is)
    (case k_fText => k_is)
    (case a_fPE => k_is)
    (case i_fPE => k_is)
    (case l_fPE => k_is)
    (case c_fPE => k_is)
    (case k_fPE => k_is)
    (case a_fLaw => k_is)
    (case l_fLaw => k_is)
    (case c_fLaw => k_is)
    (case k_fLaw => k_is)
