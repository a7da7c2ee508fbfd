import PyProof.Rows.All
import Wide.All
import OpenK.AllK
import Wide.FinOn
import HandS.ForMost
import HandS.IsInst
import HandS.Walk
import HandS.ForExc
import HandS.Small
import HandS.OwnEq
import PyProof.InstNe
import HandS.ExcInit
import HandS.ExcField
import HandS.Codes
import PySem.Challenge.RW_namewalk_k03_paths_as_things
set_option Elab.async false
set_option maxRecDepth 100000
set_option maxHeartbeats 4000000
/-! NG: general lemmas over the hand layer -/
namespace NG
open PySem L2
theorem Same.upd {H : Hp} {p : Addr} {o : HO} (h : H p = none) : Same H (upd H p o) := fun a u e => by rw [upd_ne (ne_of_none e h)]; exact e
theorem Same.sqT {K : PySem.W.Frag} {H H' : Hp} {a : Addr} {xs : List V} (e : Same H H') (h : SqT K H a xs) : SqT K H' a xs := by
  rcases h with (h | ⟨o, h⟩) | h
  · exact .inl (.inl (e _ _ h))
  · exact .inl (.inr ⟨o, e _ _ h⟩)
  · exact .inr h
/-- all but p as it was -/
def But (p : Addr) (H H' : Hp) : Prop := ∀ b o, H b = some o → b ≠ p → H' b = some o
theorem But.refl (p : Addr) (H : Hp) : But p H H := fun _ _ h _ => h
theorem But.trans {p : Addr} {H H1 H2 : Hp} (a : But p H H1) (b : But p H1 H2) : But p H H2 := fun c o h n => b c o (a c o h n) n
theorem But.same {p : Addr} {H H1 H2 : Hp} (a : But p H H1) (b : Same H1 H2) : But p H H2 := fun c o h n => b c o (a c o h n)
theorem But.ofSame {p : Addr} {H H1 : Hp} (a : Same H H1) : But p H H1 := fun c o h _ => a c o h
theorem But.upd {p : Addr} {H H1 : Hp} {o : HO} (a : But p H H1) : But p H (L2.upd H1 p o) := fun c u h n => by rw [upd_ne n]; exact a c u h n
theorem But.sqT {K : PySem.W.Frag} {p dx C : Addr} {fs : List (Str × V)} {H H' : Hp} {a : Addr} {xs : List V} (hp : H p = some (.ins C dx fs)) (e : But p H H') (h : SqT K H a xs) : SqT K H' a xs := by
  rcases h with (h | ⟨o, h⟩) | h
  · exact .inl (.inl (e _ _ h (ne_of h hp (by intro z; cases z))))
  · exact .inl (.inr ⟨o, e _ _ h (ne_of h hp (by intro z; cases z))⟩)
  · exact .inr h
theorem len_putF (f : Str) (v : V) : ∀ fs : List (Str × V), (putF f v fs).length ≤ fs.length + 1
  | [] => by unfold putF; simp
  | (g, w) :: r => by
    have := len_putF f v r
    unfold putF
    split
    · simp
    · simp only [List.length_cons]; omega
theorem take_succ {α : Type} {l : List α} {i : Nat} {x : α} (h : l[i]? = some x) : l.take (i + 1) = l.take i ++ [x] := by rw [List.take_add_one, h]; rfl
/-- a comprehension of one clause over what a walk gives: items f x for those of xs with p x; tests and items may lay new objects -/
theorem lc_gen {J : It} {xs : List V} {G : Hp → Prop} (w : Walk J xs.length G (YAt xs)) {tt : TT} {te : TE} {i : Nat} {σ : St} {H1 : Hp} {D : Addr} {Q : Hp → Prop} (p : V → Bool) (f : V → V) (hx : xs.length < sizeLine) (hD : H1 D = none) (hG : ∀ H, Same H1 H → G H)
    (ht : ∀ (k : Nat) (x : V) (H : Hp) (R : Bool → Hp → Prop), xs[k]? = some x → Same H1 H → (∀ H', Same H H' → R (p x) H') → tt ((wipe σ [i]).set i (some x)) H R)
    (he : ∀ (k : Nat) (x : V) (H : Hp) (R : V → Hp → Prop), xs[k]? = some x → p x = true → Same H1 H → (∀ H', Same H H' → R (f x) H') → te ((wipe σ [i]).set i (some x)) H R)
    (hd : ∀ H, Same H1 H → H D = some (.lst ((xs.filter p).map f)) → Q H) :
    ∃ W : Nat → Nat → Hp → Prop, (∃ m, W 0 m (L2.upd H1 D (.lst []))) ∧ ∀ k m H, W k m H →
      (J.stop k H ∧ Q H) ∨ (J.go k H ∧ ∃ Nx : Hp → Prop, (∀ H', Nx H' → ∃ m', m' < m ∧ W (k + 1) m' H') ∧ ∀ x H', J.yld k H x H' → gName i x (wipe σ [i]) H' fun σ2 H2 => wipe σ2 [i] = wipe σ [i] ∧ tt σ2 H2 fun b H3 =>
        if b = true then te σ2 H3 fun y H4 => ∃ acc, H4 D = some (.lst acc) ∧ acc.length < sizeLine ∧ Nx (L2.upd H4 D (.lst (acc ++ [y]))) else Nx H3) := by
  refine lc_it w (fun k H => Same H1 H ∧ H D = some (.lst (((xs.take k).filter p).map f))) ⟨Same.upd hD, by rw [upd_same]; simp⟩ (fun _ H _ h => hG H h.1) ?_ ?_
  · rintro k x H H' hk ⟨s1, eD⟩ ⟨rfl, hxk⟩
    refine ⟨?_, ?_⟩
    · show List.set (List.set (List.set σ i none) i _) i none = List.set σ i none
      rw [List.set_set, List.set_set]
    · have et := take_succ hxk
      have ll : (((xs.take k).filter p).map f).length < sizeLine := by
        rw [List.length_map]
        have := List.length_filter_le p (xs.take k)
        have := List.length_take_le k xs
        omega
      refine ht k x _ _ hxk s1 (fun H3 s3 => ?_)
      have eD3 := s3 _ _ eD
      have s13 := s1.trans s3
      refine ite2 (fun hp => ?_) (fun hp => ?_)
      · refine he k x _ _ hxk hp s13 (fun H4 s4 => ⟨_, s4 _ _ eD3, ll, ?_, ?_⟩)
        · intro b o e
          have hb : b ≠ D := ne_of_none e hD
          rw [upd_ne hb]
          exact s4 _ _ (s13 _ _ e)
        · rw [upd_same, et, List.filter_append, List.map_append]
          congr 2
          congr 1
          have : [x].filter p = [x] := by simp [hp]
          rw [this]
          rfl
      · refine ⟨s13, ?_⟩
        rw [et, List.filter_append, List.map_append]
        have : [x].filter p = [] := by simp [hp]
        rw [this]
        simpa using eD3
  · rintro H ⟨s1, eD⟩
    rw [List.take_length] at eD
    exact hd H s1 eD
/-- the same without a test -/
theorem lc_map {J : It} {xs : List V} {G : Hp → Prop} (w : Walk J xs.length G (YAt xs)) {te : TE} {i : Nat} {σ : St} {H1 : Hp} {D : Addr} {Q : Hp → Prop} (f : V → V) (hx : xs.length < sizeLine) (hD : H1 D = none) (hG : ∀ H, Same H1 H → G H)
    (he : ∀ (k : Nat) (x : V) (H : Hp) (R : V → Hp → Prop), xs[k]? = some x → Same H1 H → (∀ H', Same H H' → R (f x) H') → te ((wipe σ [i]).set i (some x)) H R)
    (hd : ∀ H, Same H1 H → H D = some (.lst (xs.map f)) → Q H) :
    ∃ W : Nat → Nat → Hp → Prop, (∃ m, W 0 m (L2.upd H1 D (.lst []))) ∧ ∀ k m H, W k m H →
      (J.stop k H ∧ Q H) ∨ (J.go k H ∧ ∃ Nx : Hp → Prop, (∀ H', Nx H' → ∃ m', m' < m ∧ W (k + 1) m' H') ∧ ∀ x H', J.yld k H x H' → gName i x (wipe σ [i]) H' fun σ2 H2 => wipe σ2 [i] = wipe σ [i] ∧ tYes σ2 H2 fun b H3 =>
        if b = true then te σ2 H3 fun y H4 => ∃ acc, H4 D = some (.lst acc) ∧ acc.length < sizeLine ∧ Nx (L2.upd H4 D (.lst (acc ++ [y]))) else Nx H3) :=
  lc_gen w (fun _ => true) f hx hD hG (fun _ _ H _ _ _ h => h H (L2.Same.refl H)) (fun k x H R h _ s r => he k x H R h s r) (fun H s e => hd H s (by rw [List.filter_eq_self.mpr (fun _ _ => rfl)] at e; exact e))
end NG

set_option maxRecDepth 100000
set_option maxHeartbeats 4000000
/-! == and != by an own __eq__, both answers -/
namespace NG
open PySem PySem.W PySem.Calls PyProof.Rows Builtin
section
variable {prog : Program} {w : World} {A : Around} {E : Value → Shared → Prop} {s : Shared} {K : Frag} {x C f : Addr} {ox : Obj} {od : Option Obj} {name : Str} {b tb : Value}
theorem ifBound_B {M : Model} {id : String} {args : List Value} {Q : Option Value → Shared → Prop} (X : K.In s.heap) (I : InstAt s.heap x ox C od) (hs : findIn K (.ref C) name = some (some (.builtin id)))
    (hb : ∀ self, bindSpecial (.builtin id) self = pure (.builtin id, [self]))
    (h : wpAny M A (call (.builtin id) (.ref x :: args)) (fun v => Q (some v)) E s) : wpAny M A (callSpecialIfBound? (.ref x) name args) Q E s := by
  simp only [callSpecialIfBound?, bindSpecialIfBound?]
  refine wpAny_holding (wpAny_bind (wpAny_bind (wpAny_bind (I.type.here ((looks_findIn X hs).here ?_)))))
  simp only [hb]
  refine wpAny_bind (wpAny_askSetting (wpAny_ite ?_))
  have fin : wpAny M A (call (.builtin id) ([.ref x] ++ args) >>= fun v => pure (some v)) Q E s := wpAny_bind (wpAny_mono h (fun v s' h' => wpAny_pure h') fun _ _ h' => h')
  split
  · exact wpAny_bind (wpAny_pure (wpAny_pure fin))
  · exact wpAny_tryCatch (wpAny_bind (wpAny_pure (wpAny_pure fin)))
theorem objNe_K (X : K.In s.heap) (I : InstAt s.heap x ox C od) (hs : findIn K (.ref C) "__eq__" = some (some (.ref f))) (hf : isFn K (.ref f) = true) (hu : A.units < cLine) {Q : Fin → Shared → Prop}
    (hcall : wpAny (model prog w) A (call (.ref f) [.ref x, b]) (fun v s' => ∃ r, v = .bool r ∧ Q (.done (.ret (.bool (!r)))) s') E s) :
    wpAny (model prog w) A (Builtin.«object.__ne__» ⟨[.ref x, b], []⟩) Q E s := by
  obtain ⟨h, g, d, t, os⟩ := s
  unfold Builtin.«object.__ne__»
  repeat (first
    | with_reducible refine wpAny_cRoomFor hu ?_
    | (refine wpAny_bind (m := callSpecialIfBound? (.ref x) (Str.ofString "__eq__") [b])
        (ifBound_K X I hs hf (wpAny_mono hcall (fun r s' hr => by
          obtain ⟨b, rfl, hq⟩ := hr
          repeat (first | exact hq | exact wpAny_pure hq | exact wpAny_truthy_bool hq | (refine wpAny_bind (m := truthy (.bool _)) (wpAny_truthy_bool ?_)) | wp_step)) fun _ _ e => e)))
    | wp_step)
theorem ne_K {Q : Value → Shared → Prop} (hu : A.units + 1 < cLine) (X : K.In s.heap) (I : InstAt s.heap x ox C od) (hb : Looks (model prog w) s.heap (typeOf b) tb) (hn : notFirst K C tb = true)
    (ho : subIn K (.ref C) (.type "object") = some true) (hne : findIn K (.ref C) "__ne__" = some (some (.builtin "object.__ne__")))
    (hs : findIn K (.ref C) "__eq__" = some (some (.ref f))) (hf : isFn K (.ref f) = true)
    (h : wpAny (model prog w) A.in1 (call (.ref f) [.ref x, b]) (fun v s' => ∃ r, v = .bool r ∧ Q (.bool (!r)) s') E s) : wpAny (model prog w) A (richCompare .NotEq (.ref x) b) Q E s := by
  have one : wpAny (model prog w) A (tryCompare (.ref x) "__ne__" b) (fun r s' => ∃ v, r = some v ∧ Q v s') E s := by
    unfold tryCompare
    refine wpAny_bind (ifBound_B X I hne F.cmp_object.ne.bind (wpAny_call (codeAny_call_builtin F.cmp_object.ne.plain F.cmpEntry_ne
      (check_slot F.cmpKind_ne F.cmpSplit_ne (I.type.andThen (looks_subIn X ho)) (F.cmpArgs_ne _ _) (objNe_K (A := A.in1) X I hs hf (by exact hu) (wpAny_mono h (fun v s' hv => ?_) fun _ _ e => e))))))
    obtain ⟨r, rfl, hq⟩ := hv
    first | exact ⟨r, rfl, wpAny_pure ⟨_, rfl, hq⟩⟩ | exact ⟨r, rfl, wpAny_pure (wpAny_pure ⟨_, rfl, hq⟩)⟩ | exact ⟨r, rfl, _, rfl, hq⟩
  unfold richCompare
  simp only [oneThing_ref]
  refine wpAny_holding (wpAny_bind (wpAny_cRoomFor (Nat.lt_of_succ_lt hu) ?_))
  rw [cmpInfo_NotEq]
  dsimp only
  refine wpAny_bind (I.type.here (wpAny_bind (hb.here ?_)))
  split
  · rename_i q
    have e : subIn K tb (.ref C) = some false := by
      rcases Bool.or_eq_true_iff.mp hn with e | e
      · rw [beq_iff_eq.mp e] at q; simp at q
      · exact beq_iff_eq.mp e
    refine wpAny_bind ((looks_subIn X e).here ?_)
    simp only [Bool.false_eq_true, if_false]
    refine wpAny_bind (wpAny_mono one (fun r s' z => ?_) fun _ _ e => e)
    obtain ⟨v, rfl, hq⟩ := z
    exact wpAny_pure hq
  · refine wpAny_bind (wpAny_pure ?_)
    simp only [Bool.false_eq_true, if_false]
    refine wpAny_bind (wpAny_mono one (fun r s' z => ?_) fun _ _ e => e)
    obtain ⟨v, rfl, hq⟩ := z
    exact wpAny_pure hq
end
end NG

namespace NG
open PySem L2
section
variable {X : Cx} {n : Nat} {C f : Addr} {fd : FuncData} {ps : List Str} {sp : Sp} {CX : CXT} {E : XK}
/-- x == y, x of a class with its own == : what that def promises of the two -/
def rOwn (K : PySem.W.Frag) (C : Addr) (sp : Sp) (E : XK) (g : Bool → Bool) : R2 := fun x y H Q => ∃ (a dx : Addr) (fs : List (Str × V)) (t : Value), x = .ref a ∧ H a = some (.ins C dx fs) ∧ TyX K H y t ∧ PySem.W.notFirst K C t = true ∧ sp [x, y] H (fun v H' => ∃ k, v = .bl k ∧ Q (.bl (g k)) H') E
theorem own_run (F : FnOk X.prog X.w X.K X.mg X.base CX n f fd ps sp) (hb : Binds X.K fd ps []) (hx : Passes CX X E) {A : Around} {pins : List (Addr × Obj)} {s : Shared} {σ : St} {H : Hp} {a : Addr} {y : V} {u : Value} {R : Bool → Hp → Prop} (sb : Sub X n A) (I : Inv X pins σ H s) (ry : RelV y u)
    (hsp : sp [.ref a, y] H (fun v H' => ∃ k, v = .bl k ∧ R k H') E) :
    wpAny (model X.prog X.w) A (call (.ref f) [.ref a, u]) (fun v s' => ∃ k, v = .bool k ∧ ∃ H', Inv X pins σ H' s' ∧ R k H') X.xe s := by
  have e0 : Env0 X.prog X.w X.K X.mg X.base A X.stack s H := by
    have e := I.env0
    exact ⟨by rw [sb.fr]; exact e.frames, e.mod, e.bs, e.bsz, e.funs, e.frf, e.hok, e.bare⟩
  have hl := F.len _ _ _ _ hsp
  have r2 : Vals [V.ref a, y] [Value.ref a, u] := .cons rfl (.cons ry .nil)
  refine wpAny_call (codeAny_mono (F.run A X.stack s H ⟨[.ref a, u], []⟩ [.ref a, u] [.ref a, y] _ E sb.room e0 (by
    have := hb s [.ref a, u] I.kIn (by simpa using hl)
    simpa using this) r2 hsp) fun r s' hq => ?_)
  cases r with
  | error e => exact hx pins σ H s e s' I hq
  | ok fl =>
    cases fl with
    | ret w =>
      obtain ⟨z, H', I', rz, k, ez, q⟩ := I.after hq
      subst ez
      cases rz
      exact ⟨k, rfl, H', I', q⟩
    | next => exact False.elim hq
    | brk => exact False.elim hq
    | cont => exact False.elim hq
theorem op_eqOwn (F : FnOk X.prog X.w X.K X.mg X.base CX n f fd ps sp) (hr : Room n X.A) (hs : PySem.W.findIn X.K (.ref C) "__eq__" = some (some (.ref f))) (hf : PySem.W.isFn X.K (.ref f) = true) (hb : Binds X.K fd ps []) (hx : Passes CX X E) :
    OpR X (compareOp .Eq) (rOwn X.K C sp E fun k => k) := by
  intro pins s σ H x y v u Q I rx ry h
  obtain ⟨a, dx, fs, t, rfl, ha, ty, hn, hsp⟩ := h
  cases rx
  obtain ⟨mA, J, _⟩ := ins_get I.hok ha
  obtain ⟨od, J, _⟩ := J.look
  obtain ⟨P, Z, p, _⟩ := kit_of I ry ty
  obtain ⟨m, hF⟩ := I.fr
  show wpAny (model X.prog X.w) X.A (richCompare .Eq (.ref a) u) (EP X pins σ Q) X.xe s
  refine PySem.W.cmp_K (op := .Eq) (tb := t) hr.units0 hF I.ok.mod.kin J (Z.ty _ _ I.kIn p) hn hs hf ?_
  refine wpAny_mono (own_run F hb hx ⟨hr, rfl⟩ I ry hsp) (fun r s' z => ?_) fun _ _ x => x
  obtain ⟨k, rfl, H', I', q⟩ := z
  exact ⟨.bl k, H', I', rfl, q⟩
theorem op_neOwn (F : FnOk X.prog X.w X.K X.mg X.base CX n f fd ps sp) (hr : Room (n + 1) X.A) (hs : PySem.W.findIn X.K (.ref C) "__eq__" = some (some (.ref f))) (hf : PySem.W.isFn X.K (.ref f) = true)
    (ho : PySem.W.subIn X.K (.ref C) (.type "object") = some true) (hne : PySem.W.findIn X.K (.ref C) "__ne__" = some (some (.builtin "object.__ne__"))) (hb : Binds X.K fd ps []) (hx : Passes CX X E) :
    OpR X (compareOp .NotEq) (rOwn X.K C sp E fun k => !k) := by
  intro pins s σ H x y v u Q I rx ry h
  obtain ⟨a, dx, fs, t, rfl, ha, ty, hn, hsp⟩ := h
  cases rx
  obtain ⟨mA, J, _⟩ := ins_get I.hok ha
  obtain ⟨od, J, _⟩ := J.look
  obtain ⟨P, Z, p, _⟩ := kit_of I ry ty
  show wpAny (model X.prog X.w) X.A (richCompare .NotEq (.ref a) u) (EP X pins σ Q) X.xe s
  refine ne_K (tb := t) (by have := hr.un; omega) I.kIn J (Z.ty _ _ I.kIn p) hn ho hne hs hf ?_
  refine wpAny_mono (own_run F hb hx (A := X.A.in1) ⟨hr.in1, rfl⟩ I ry hsp) (fun r s' z => ?_) fun _ _ x => x
  obtain ⟨k, rfl, H', I', q⟩ := z
  exact ⟨k, rfl, .bl (!k), H', I', rfl, q⟩
end
end NG

set_option maxRecDepth 100000
set_option maxHeartbeats 4000000
namespace NG
open PySem L2
section
variable {X : Cx}
theorem op_mulStr : OpR X (binaryOp .Mult) (fun x y H Q => ∃ (i : Str) (n : Int), x = .str i ∧ y = .int n ∧ MulOk i n ∧ Q (.str (Txt.mul i n)) H) := by
  intro pins s σ H x y v u Q I rx ry h
  obtain ⟨i, n, rfl, rfl, hm, q⟩ := h
  obtain ⟨t, rfl⟩ := rx
  obtain ⟨t', rfl⟩ := ry
  exact SB.mul hm fun t' k => ⟨.str (Txt.mul i n), H, I.tok _, ⟨_, rfl⟩, q⟩
end
theorem foldl_app (a : Array Nat) : ∀ (k : Nat) (b : Array Nat), ((List.replicate k a).foldl (· ++ ·) b).toList = b.toList ++ (List.replicate k a.toList).flatten
  | 0, b => by simp
  | k + 1, b => by
    rw [List.replicate_succ, List.foldl_cons, foldl_app a k, List.replicate_succ, List.flatten_cons]
    simp
theorem pick {α : Type} {xs : List α} {d : Int} (h0 : 0 ≤ d) (h1 : d < (xs.length : Nat)) : ∃ v, v ∈ xs ∧ atI xs d = some v := by
  obtain ⟨k, rfl⟩ : ∃ k : Nat, d = (k : Int) := ⟨d.toNat, by omega⟩
  have hk : k < xs.length := by omega
  exact ⟨xs[k], List.getElem_mem hk, atI_nat (List.getElem?_eq_getElem hk)⟩
/-- a text's signs, as texts -/
def sgs (z : Str) : List V := z.cps.toList.map fun c => .str ⟨#[c]⟩
theorem sgs_len (z : Str) : (sgs z).length = z.length := by unfold sgs; simp [Str.length]
theorem walk_sgs {z : Str} : Walk (Its z) (sgs z).length (fun _ => True) (YAt (sgs z)) := by
  rw [sgs_len]
  refine Walk.mono (walk_str (z := z)) (fun _ h => h) (fun i H x H' hi _ ⟨e, c, hc, hx⟩ => ⟨e, ?_⟩)
  unfold sgs
  rw [List.getElem?_map]
  have : z.cps.toList[i]? = some c := by simpa using hc
  rw [this, hx]
  rfl
theorem sgs_get {z : Str} {k : Nat} {x : V} (h : (sgs z)[k]? = some x) : ∃ c, x = .str ⟨#[c]⟩ ∧ c ∈ z.cps.toList := by
  unfold sgs at h
  rw [List.getElem?_map] at h
  cases e : z.cps.toList[k]? with
  | none => rw [e] at h; cases h
  | some c => rw [e] at h; exact ⟨c, (Option.some.inj h).symm, List.mem_of_getElem? e⟩
/-! ### draws in loops: p holds the numbers' state -/
def DSo (o : HO) : Prop := ∃ a m c : Int, o = .lst [.int a, .int m, .int c] ∧ 0 ≤ a ∧ 7 ≤ m ∧ m < 2147483636 ∧ 0 ≤ c ∧ c < 2147483587
structure Dr (p : Addr) (H H' : Hp) : Prop where
  but : But p H H'
  st : ∃ o, H' p = some o ∧ DSo o
theorem Dr.refl {p : Addr} {H : Hp} {o : HO} (h : H p = some o) (d : DSo o) : Dr p H H := ⟨But.refl _ _, o, h, d⟩
theorem Dr.trans {p : Addr} {H H1 H2 : Hp} (a : Dr p H H1) (b : Dr p H1 H2) : Dr p H H2 := ⟨a.but.trans b.but, b.st⟩
theorem Dr.same {p : Addr} {H H1 H2 : Hp} (a : Dr p H H1) (b : Same H1 H2) : Dr p H H2 := ⟨a.but.same b, let ⟨o, h, d⟩ := a.st; ⟨o, b _ _ h, d⟩⟩
theorem Dr.next {p : Addr} {H H1 : Hp} {o : HO} (a : Dr p H H1) (d : DSo o) : Dr p H (L2.upd H1 p o) := ⟨a.but.upd, o, upd_same, d⟩
/-- a comprehension over range(n) whose items are drawn -/
theorem lc_draw {lo : Int} {n : Nat} {te : TE} {i : Nat} {σ : St} {p : Addr} {H1 : Hp} {D : Addr} {Q : Hp → Prop} (Px : V → Hp → Prop) (hn : n < sizeLine) (hD : H1 D = none) (h0 : Dr p H1 H1) (hm : ∀ x H H', But D H H' → Px x H → Px x H') (hm2 : ∀ x H H', Dr p H H' → Px x H → Px x H')
    (he : ∀ (k : Nat) (H : Hp) (R : V → Hp → Prop), k < n → Dr p H1 H → (∀ x H', Px x H' → Dr p H H' → R x H') → te ((wipe σ [i]).set i (some (.int (lo + k)))) H R)
    (hd : ∀ H xs, Dr p H1 H → H D = some (.lst xs) → xs.length = n → (∀ x ∈ xs, Px x H) → Q H) :
    ∃ W : Nat → Nat → Hp → Prop, (∃ m, W 0 m (L2.upd H1 D (.lst []))) ∧ ∀ k m H, W k m H →
      ((Itr lo n).stop k H ∧ Q H) ∨ ((Itr lo n).go k H ∧ ∃ Nx : Hp → Prop, (∀ H', Nx H' → ∃ m', m' < m ∧ W (k + 1) m' H') ∧ ∀ x H', (Itr lo n).yld k H x H' → gName i x (wipe σ [i]) H' fun σ2 H2 => wipe σ2 [i] = wipe σ [i] ∧ tYes σ2 H2 fun b H3 =>
        if b = true then te σ2 H3 fun y H4 => ∃ acc, H4 D = some (.lst acc) ∧ acc.length < sizeLine ∧ Nx (L2.upd H4 D (.lst (acc ++ [y]))) else Nx H3) := by
  obtain ⟨o0, ep0, d0⟩ := h0.st
  have npD : p ≠ D := ne_of_none ep0 hD
  refine lc_range (fun k H => Dr p H1 H ∧ ∃ acc, H D = some (.lst acc) ∧ acc.length = k ∧ ∀ x ∈ acc, Px x H) ⟨⟨But.ofSame (Same.upd hD), o0, by rw [upd_ne npD]; exact ep0, d0⟩, [], upd_same, rfl, by simp⟩ ?_ ?_
  · rintro k H hk ⟨dr, acc, eD, el, hx⟩
    refine ⟨?_, ?_⟩
    · show List.set (List.set (List.set σ i none) i _) i none = List.set σ i none
      rw [List.set_set, List.set_set]
    · refine he k H _ hk dr (fun x H' hpx dr' => ?_)
      have eD' : H' D = some (.lst acc) := dr'.but _ _ eD npD.symm
      have bD : But D H' (L2.upd H' D (.lst (acc ++ [x]))) := (But.refl D H').upd
      refine ⟨acc, eD', by omega, ⟨fun b o e n => ?_, ?_⟩, acc ++ [x], upd_same, by simp [el], fun y hy => ?_⟩
      · have hb : b ≠ D := ne_of_none e hD
        rw [upd_ne hb]
        exact (dr.trans dr').but _ _ e n
      · obtain ⟨o, e, d⟩ := dr'.st
        exact ⟨o, by rw [upd_ne npD]; exact e, d⟩
      · refine hm y _ _ bD ?_
        rcases List.mem_append.mp hy with h | h
        · exact hm2 y _ _ dr' (hx y h)
        · rw [List.mem_singleton.mp h]; exact hpx
  · rintro H ⟨dr, acc, eD, el, hx⟩
    exact hd H acc dr eD el hx
end NG

set_option maxRecDepth 100000
set_option maxHeartbeats 4000000
/-! xs + ys of lists that are to be read, locked ones too -/
namespace NG
open PySem L2 PyProof.Rows
def rCatS (K : PySem.W.Frag) : R2 := fun x y H Q => ∃ (l b : Addr) (xs zs : List V), x = .ref l ∧ y = .ref b ∧ SqL K H l xs ∧ SqL K H b zs ∧ xs.length + zs.length ≤ sizeLine ∧ ∀ p, H p = none → Q (.ref p) (L2.upd H p (.lst (xs ++ zs)))
theorem op_catS {X : Cx} : OpR X (binaryOp .Add) (rCatS X.K) := by
  intro pins s σ H x y v u Q I rx ry h
  obtain ⟨l, b, xs, zs, rfl, rfl, h1, h2, hz, q⟩ := h
  cases rx
  cases ry
  obtain ⟨its, r, ⟨⟨c1, d1, t1, s1⟩, n, e, ec, ed, et⟩, _⟩ := I.list h1
  obtain ⟨its2, r2, ⟨⟨c2, d2, t2, s2⟩, n2, e2, ec2, ed2, et2⟩, _⟩ := I.list h2
  simp only at ec ed et ec2 ed2 et2
  subst ec ed et ec2 ed2 et2
  have hl : its.toArray.size + its2.toArray.size ≤ sizeLine := by rw [List.size_toArray, List.size_toArray, ← r.length, ← r2.length]; exact hz
  have ea : its.toArray ++ its2.toArray = (its ++ its2).toArray := by simp
  refine concat_meets ⟨_, e, rfl⟩ ⟨_, e2, rfl⟩ noFill_list_add seq_list_add PySem.F.slot_list_add PySem.F.entry_list_add (PySem.F.args_list_add_2 _ _) (list_addW l b its.toArray its2.toArray n n2 none none s1 s2 hl) ⟨e, e2, ?_⟩
  rw [ea]
  exact ⟨.ref _, _, I.lnew (t' := s.toks) (r.append r2) (by rw [List.length_append]; omega), rfl, q _ I.fresh⟩
end NG

set_option maxRecDepth 100000
set_option maxHeartbeats 4000000
/-! making an object in a try body; x in [..] by own __eq__, all answers False -/
namespace NG
open PySem PySem.SeqAt
open AutoSeq1 (wpAny_loadPart')
open MeetsSeq MeetsSeq2 MeetsSeq3 SeqRoads2 GQ
section
variable {prog : Program} {w : World} {A : Around} {R : Result → Shared → Prop}
/-- at each turn the list is read anew: N items, none equal to x -/
def LoopF (prog : Program) (w : World) (A : Around) (E : Value → Shared → Prop) (l : Addr) (x : Value) (N : Nat) (I : Nat → Shared → Prop) : Prop :=
  ∀ i s, I i s → ∃ (items : Array Value) (n : Nat), s.heap.get? l = some { cls := .type "list", data := .seq items n } ∧ items.size = N ∧
    ∀ (h1 : i < items.size), wpAny (model prog w) A.in1 (eqBool items[i] x) (fun r s' => r = false ∧ I (i + 1) s') E s
theorem in_loopF (l : Addr) (x : Value) (N : Nat) (I : Nat → Shared → Prop) (hl : LoopF prog w A (fun e s' => R (.error e) s') l x N I)
    (fin : ∀ s, I N s → R (.ok (.ret (.bool false))) s) (k : Nat) :
    ∀ i : Nat, N - i = k → i ≤ N → ∀ s, I i s →
      wpAny (model prog w) A.in1 (Builtin.«list.__contains__.loop» ⟨[.ref l, x, rawInt i], []⟩) (FinOf prog w A R) (fun e s' => R (.error e) s') s := by
  induction k with
  | zero =>
    intro i hk hi s h
    obtain ⟨items, n, hl1, hs1, _⟩ := hl _ _ h
    have hi' : i = N := by omega
    have hR : R (.ok (.ret (.bool false))) s := fin s (hi' ▸ h)
    obtain ⟨hp, g, d, tk, os⟩ := s
    wp_walk using wpAny_loadPart' hl1
    have hi1 : items[((i : Nat) : Int).toNat]? = none := by simp; omega
    rw [hi1]
    wp_walk
    exact hR
  | succ k ih =>
    intro i hk hi s h
    obtain ⟨items, n, hl1, hs1, turn⟩ := hl _ _ h
    have hlt : i < items.size := by omega
    have ht := turn hlt
    obtain ⟨hp, g, d, tk, os⟩ := s
    wp_walk using wpAny_loadPart' hl1
    have hi1 : items[((i : Nat) : Int).toNat]? = some items[i] := by simp [hlt]
    have hc : ((i : Int) + 1) = ((i + 1 : Nat) : Int) := by omega
    rw [hi1]
    refine wpAny_bind (wpAny_mono ht (fun r s2 h2 => ?_) fun _ _ x => x)
    obtain ⟨hr, h2⟩ := h2
    subst hr
    have hrec := ih (i + 1) (by omega) (by omega) s2 h2
    obtain ⟨hp2, g2, d2, tk2, os2⟩ := s2
    wp_walk
    rw [hc]
    exact ⟨plainId_quiet plain_contains_loop _, codeAny_builtin entry_contains_loop (by
      rw [Around.under_plainId plain_contains_loop _]
      exact hrec)⟩
theorem list_inF (l : Addr) (x : Value) (N : Nat) (I : Nat → Shared → Prop) (hl : LoopF prog w A (fun e s' => R (.error e) s') l x N I)
    (fin : ∀ s, I N s → R (.ok (.ret (.bool false))) s) {s : Shared} (h : I 0 s) :
    wpAny (model prog w) A.in1 (Builtin.«list.__contains__» ⟨[.ref l, x], []⟩) (FinOf prog w A R) (fun e s' => R (.error e) s') s := by
  obtain ⟨items, n, hl1, hs1, _⟩ := hl _ _ h
  have hrec := in_loopF (A := A) (R := R) l x N I hl fin _ 0 rfl (Nat.zero_le _) s h
  obtain ⟨hp, g, d, tk, os⟩ := s
  wp_walk using wpAny_loadPart' hl1
  exact ⟨plainId_quiet plain_contains_loop _, codeAny_builtin entry_contains_loop (by
    rw [Around.under_plainId plain_contains_loop _]
    exact hrec)⟩
end
section
variable {prog : Program} {w : World} {A : Around} {E : Value → Shared → Prop} {s : Shared}
theorem op_inF {l : Addr} {x : Value} {N : Nat} {Q : Value → Shared → Prop} (I : Nat → Shared → Prop) (hl : LoopF prog w A E l x N I)
    (fin : ∀ s, I N s → Q (.bool false) s) (h : I 0 s) : wpAny (model prog w) A (compareOp .In x (.ref l)) Q E s := by
  obtain ⟨items, n, hl1, _, _⟩ := hl _ _ h
  show wpAny _ A (do return .bool (← contains (.ref l) x)) Q E s
  refine wpAny_bind (wpAny_contains_slot ⟨_, hl1, rfl⟩ F.slot_list_contains (call_here F.slot_list_contains ⟨_, hl1, rfl⟩ F.entry_list_contains (F.args_list_contains_2 _ _) ?_))
  refine list_inF (R := wants (fun r s' => wpAny (model prog w) A (truthy r) (fun b s' => wpAny (model prog w) A (pure (Value.bool b)) Q E s') E s') E) l x N I hl (fun s' q => ?_) h
  exact wpAny_truthy_bool (wpAny_pure (fin s' q))
end
end NG
namespace NG
open PySem PySem.W PySem.Calls PyProof.Rows
section
variable {prog : Program} {w : World} {A : Around} {E : Value → Shared → Prop} {s : Shared} {K : Frag} {x C f : Addr} {dx : Addr} {od : Option Obj} {v : Value} {T id : String}
theorem tup_declines {a : Addr} {items : Array Value} {Q : Value → Shared → Prop} (ha : s.heap.IsTuple a items) (X : K.In s.heap) (I : InstAt s.heap x (instObj C dx) C od) (hs : subIn K (.ref C) (.type "tuple") = some false)
    (h : Q .notImplemented s) : wpAny (model prog w) A (call (.builtin "tuple.__eq__") [.ref a, .ref x]) Q E s := by
  obtain ⟨⟨cls, dd, data, sl⟩, ho, hc, n, hd⟩ := id ha
  simp only at hc hd
  subst hc hd
  refine GQ.call_here F.slot_tuple_eq ⟨_, ho, rfl⟩ F.entry_tuple_eq (F.args_tuple_eq_2 _ _) ?_
  have hi : ∀ {Q : Bool → Shared → Prop} {A : Around} {E : Value → Shared → Prop}, Q false s → wpAny (model prog w) A (isInstance (.ref x) (.type "tuple")) Q E s := fun hq => by
    unfold isInstance
    exact wpAny_bind (I.type.here ((looks_subIn X hs).here hq))
  obtain ⟨hp, g, d, tk, os⟩ := s
  wp_walk using hi
  exact h
theorem str_declines {z : Str} {k : Tok} {Q : Value → Shared → Prop} (I : InstAt s.heap x (instObj C dx) C od)
    (h : Q .notImplemented s) : wpAny (model prog w) A (call (.builtin "str.__eq__") [.str z k, .ref x]) Q E s := by
  refine GQ.call_here F.slot_str_eq (typeIs_str s z k) F.entry_str_eq (F.args_str_eq_2 _ _) ?_
  have hx := I.at_
  obtain ⟨hp, g, d, tk, os⟩ := s
  wp_walk using wpAny_load hx
  exact h
theorem cmpR_K {a : Value} {Q : Value → Shared → Prop} (hu : A.units < cLine) (h1 : oneThing? .Eq a (.ref x) = none) (ha : s.TypeIs a T) (slot : Slot T "__eq__" id) (X : K.In s.heap) (I : InstAt s.heap x (instObj C dx) C od) (hsub : subIn K (.ref C) (.type T) = some false)
    (hdec : ∀ {Q : Value → Shared → Prop}, Q .notImplemented s → wpAny (model prog w) A (call (.builtin id) [a, .ref x]) Q E s)
    (hs : findIn K (.ref C) "__eq__" = some (some (.ref f))) (hf : isFn K (.ref f) = true)
    (h : wpAny (model prog w) A (call (.ref f) [.ref x, a]) (PySem.W.CmpBack Q) E s) : wpAny (model prog w) A (richCompare .Eq a (.ref x)) Q E s := by
  have two : wpAny (model prog w) A (tryCompare (.ref x) "__eq__" a) (fun r s' => ∃ v, r = some v ∧ Q v s') E s := by
    unfold tryCompare
    refine wpAny_bind (ifBound_K X I hs hf (wpAny_mono h (fun v s' hv => ?_) fun _ _ e => e))
    cases v <;> first | exact hv.elim | exact wpAny_pure ⟨_, rfl, hv⟩
  unfold richCompare
  rw [h1]
  refine wpAny_holding (wpAny_bind (wpAny_cRoomFor hu ?_))
  rw [cmpInfo_Eq]
  dsimp only
  refine wpAny_bind (wpAny_typeOf ha (wpAny_bind (I.type.here ?_)))
  rw [if_pos (by simp)]
  refine wpAny_bind ((looks_subIn X hsub).here ?_)
  simp only [Bool.false_eq_true, if_false]
  refine wpAny_bind (wpAny_tryCompare_declines ha slot (hdec ⟨rfl, ?_⟩))
  dsimp only
  simp only [Bool.not_false, if_true]
  refine wpAny_bind (wpAny_mono two (fun r s' z => ?_) fun _ _ e => e)
  obtain ⟨v, rfl, hq⟩ := z
  exact wpAny_pure hq
end
end NG

namespace NG
open PySem L2
section
variable {X : Cx} {n m : Nat} {C f : Addr} {fd : FuncData} {ps : List Str} {sp : Sp} {CX : CXT} {E : XK} {D D' : Eqv}
/-- == gives False for what D says, and only makes objects -/
def EqF (X : Cx) (n : Nat) (D : Eqv) : Prop :=
  ∀ (A : Around) (pins : List (Addr × Obj)) (s : Shared) (σ : St) (H : Hp) (x y : V) (u v : Value), Sub X n A → Inv X pins σ H s → RelV x u → RelV y v → D x y H →
    wpAny (model X.prog X.w) A (eqBool u v) (fun r s' => r = false ∧ ∃ H', Inv X pins σ H' s' ∧ Ext H H') X.xe s
theorem EqF.or (h : EqF X n D) (h' : EqF X n D') : EqF X n (fun x y H => D x y H ∨ D' x y H) := fun A pins s σ H x y u v sb I rx ry d => by
  rcases d with d | d
  · exact h A pins s σ H x y u v sb I rx ry d
  · exact h' A pins s σ H x y u v sb I rx ry d
def rInF (D : Eqv) : R2 := fun x y H Q => ∃ p zs, y = .ref p ∧ H p = some (.lst zs) ∧ (∀ z ∈ zs, D z x H) ∧ ∀ H', Ext H H' → Q (.bl false) H'
theorem op_inOwnF (hD : Mon D) (h : EqF X n D) (hr : Room (n + 1) X.A) : OpR X (compareOp .In) (rInF D) := by
  intro pins s σ H x y v u Q I rx ry q
  obtain ⟨p, zs, rfl, hp, hz, k⟩ := q
  cases ry
  refine op_inF (N := zs.length) (fun _ s' => LoopI X pins σ H s') (fun i s' q => ?_) (fun s' q => ?_) ⟨H, I, Ext.rfl'⟩
  · obtain ⟨H1, I1, e1⟩ := id q
    obtain ⟨z, its, j, r, e⟩ := I1.hok p _ (e1 _ _ hp)
    refine ⟨its.toArray, j, e, by rw [List.size_toArray, ← r.length], fun h1 => ?_⟩
    have h1' : i < its.length := by simpa using h1
    have k1 : i < zs.length := by rw [r.length]; exact h1'
    obtain ⟨w1, hw1, rw1⟩ := r.get (List.getElem?_eq_getElem k1)
    have g1 : its[i]? = some its.toArray[i] := by rw [List.getElem?_eq_getElem h1'] <;> simp
    rw [g1] at hw1
    rw [Option.some.inj hw1]
    refine wpAny_mono (h X.A.in1 pins s' σ H1 _ _ _ _ ⟨hr.in1, rfl⟩ I1 rw1 rx (hD _ _ _ _ e1 (hz _ (List.getElem_mem k1)))) (fun r s2 q => ?_) fun _ _ x => x
    obtain ⟨hr, H2, I2, e2⟩ := q
    exact ⟨hr, H2, I2, e1.trans e2⟩
  · obtain ⟨H1, I1, e1⟩ := q
    exact ⟨.bl false, H1, I1, rfl, k H1 e1⟩
theorem eqBool_neG {prog : Program} {w : World} {A : Around} {E : Value → Shared → Prop} {s : Shared} {u v : Value} {Q : Bool → Shared → Prop} (hne : (u == v) = false) (hfl : ∀ a b, u ≠ .float a b)
    (h : wpAny (model prog w) A (richCompare .Eq u v) (fun r s' => ∃ b, r = .bool b ∧ Q b s') E s) : wpAny (model prog w) A (eqBool u v) Q E s := by
  unfold eqBool
  refine wpAny_holding ?_
  rw [hne]
  cases u with
  | float a b => exact absurd rfl (hfl a b)
  | _ =>
    simp only [Bool.false_eq_true, if_false]
    refine wpAny_bind (wpAny_mono h (fun v s' hv => ?_) fun _ _ x => x)
    obtain ⟨r, rfl, q⟩ := hv
    exact wpAny_truthy_bool q
/-- instances of C: what its == promises is False -/
def DInsF (K : PySem.W.Frag) (C : Addr) (R : V → V → Hp → Prop) : Eqv := fun x y H => ∃ a b dx dy fs gs, x = .ref a ∧ y = .ref b ∧ a ≠ b ∧ H a = some (.ins C dx fs) ∧ H b = some (.ins C dy gs) ∧ R x y H
/-- a tuple or a text ahead of an instance of C -/
def DOthF (K : PySem.W.Frag) (C : Addr) (R : V → V → Hp → Prop) : Eqv := fun x y H => ∃ b dy gs, y = .ref b ∧ H b = some (.ins C dy gs) ∧ ((∃ a xs, x = .ref a ∧ a ≠ b ∧ SqT K H a xs) ∨ ∃ z, x = .str z) ∧ R y x H
/-- what the own == must promise of the two -/
def SaysF (K : PySem.W.Frag) (sp : Sp) (E : XK) (R : V → V → Hp → Prop) : Prop := ∀ x y H, R x y H → sp [x, y] H (fun v H' => ∃ k, v = .bl k ∧ k = false ∧ Ext H H') E
theorem eqF_ins {R : V → V → Hp → Prop} (F : FnOk X.prog X.w X.K X.mg X.base CX n f fd ps sp) (hs : PySem.W.findIn X.K (.ref C) "__eq__" = some (some (.ref f))) (hf : PySem.W.isFn X.K (.ref f) = true) (hb : Binds X.K fd ps []) (hx : Passes CX X E)
    (hR : SaysF X.K sp E R) : EqF X n (DInsF X.K C R) := by
  intro A pins s σ H x y u v sb I rx ry d
  obtain ⟨a, b, dx, dy, fs, gs, rfl, rfl, hab, ha, hb', r⟩ := d
  cases rx
  cases ry
  obtain ⟨mA, J, _⟩ := ins_get I.hok ha
  obtain ⟨mB, J', _⟩ := ins_get I.hok hb'
  obtain ⟨od, J, _⟩ := J.look
  obtain ⟨od', J', _⟩ := J'.look
  obtain ⟨m, hF⟩ := I.fr
  refine GQ.eqBool_refG hab (PySem.W.cmp_K (op := .Eq) (tb := .ref C) sb.room.units0 hF I.ok.mod.kin J J'.type (by simp [PySem.W.notFirst]) hs hf ?_)
  refine wpAny_mono (own_run F hb hx sb I (show RelV (.ref b) (.ref b) from rfl) (R := fun k H' => k = false ∧ Ext H H') (hR _ _ _ r)) (fun r s' z => ?_) fun _ _ x => x
  obtain ⟨k, rfl, H', I', rfl, q⟩ := z
  exact ⟨false, rfl, rfl, H', I', q⟩
theorem eqF_oth {R : V → V → Hp → Prop} (F : FnOk X.prog X.w X.K X.mg X.base CX n f fd ps sp) (hs : PySem.W.findIn X.K (.ref C) "__eq__" = some (some (.ref f))) (hf : PySem.W.isFn X.K (.ref f) = true) (hb : Binds X.K fd ps []) (hx : Passes CX X E)
    (ht : PySem.W.subIn X.K (.ref C) (.type "tuple") = some false) (hst : PySem.W.subIn X.K (.ref C) (.type "str") = some false) (hR : SaysF X.K sp E R) : EqF X n (DOthF X.K C R) := by
  intro A pins s σ H x y u v sb I rx ry d
  obtain ⟨b, dy, gs, rfl, hb', ho, r⟩ := d
  cases ry
  obtain ⟨mB, J', _⟩ := ins_get I.hok hb'
  obtain ⟨od', J', _⟩ := J'.look
  have hu := sb.room.units0
  have own : wpAny (model X.prog X.w) A (call (.ref f) [.ref b, u]) (PySem.W.CmpBack fun v s' => ∃ k, v = .bool k ∧ k = false ∧ ∃ H', Inv X pins σ H' s' ∧ Ext H H') X.xe s := by
    refine wpAny_mono (own_run F hb hx sb I rx (R := fun k H' => k = false ∧ Ext H H') (hR _ _ _ r)) (fun r s' z => ?_) fun _ _ x => x
    obtain ⟨k, rfl, H', I', rfl, q⟩ := z
    exact ⟨false, rfl, rfl, H', I', q⟩
  rcases ho with ⟨a, xs, rfl, hab, hq⟩ | ⟨z, rfl⟩
  · cases rx
    obtain ⟨its, r', pl, hz⟩ := I.tuple hq
    obtain ⟨o, ho, hc, _⟩ := id pl
    exact GQ.eqBool_refG hab (cmpR_K hu rfl ⟨o, ho, hc⟩ PySem.F.slot_tuple_eq I.kIn J' ht (fun q => tup_declines pl I.kIn J' ht q) hs hf own)
  · obtain ⟨t, rfl⟩ := rx
    exact eqBool_neG rfl (fun _ _ e => by cases e) (cmpR_K hu rfl (typeIs_str s z t) PySem.F.slot_str_eq I.kIn J' hst (fun q => str_declines J' q) hs hf own)
end
/-! making an object where its __init__ may raise -/
section
variable {X : Cx} {CX : CXT} {k : Nat} {f C : Addr} {fd : FuncData} {ps : List Str} {sp : Sp} {E : St → XK} {x : Str} {p pos : Pos} {e : Expr} {es : List Expr} {t : TA}
theorem run_makeS {pins : List (Addr × Obj)} {σ : St} {H : Hp} {s : Shared} {Q : VK} {us : List Value} {vs : List V} (M : Mk X.K C f) (F : FnOk X.prog X.w X.K X.mg X.base CX k f fd ps sp) (hr : Room (k + 1) X.A) (hb : Binds X.K fd ps [])
    (hx : PassesAt CX X σ (E σ)) (I : Inv X pins σ H s) (r : Vals vs us)
    (h : ∀ x dx, H x = none → H dx = none → dx ≠ x → sp (.ref x :: vs) (upd (upd H dx (.own x)) x (.ins C dx [])) (fun v H2 => v = .non ∧ Q (.ref x) H2) (E σ)) :
    wpAny (model X.prog X.w) X.A (call (.ref C) us) (EP X pins σ Q) X.xe s := by
  have hq := h (s.heap.objs.size + 1) s.heap.objs.size (I.hok.fresh (Nat.le_succ _)) (I.hok.fresh (Nat.le_refl _)) (Nat.ne_of_lt (Nat.lt_succ_self _))
  have I2 := Inv.made (C := C) I
  have r2 : Vals (V.ref (s.heap.objs.size + 1) :: vs) (Value.ref (s.heap.objs.size + 1) :: us) := .cons rfl r
  have hl : (Value.ref (s.heap.objs.size + 1) :: us).length = ps.length := by
    have e := r2.length
    rw [F.len _ _ _ _ hq] at e
    exact e.symm
  have b := hb _ (Value.ref (s.heap.objs.size + 1) :: us) I2.kIn (by rw [List.append_nil]; exact hl)
  rw [List.append_nil] at b
  refine wpAny_call (make_map (f := f) I.kIn M.makes M.init (beq_iff_eq.mp M.fn) (codeAny_mono (F.run _ X.stack _ _ ⟨Value.ref (s.heap.objs.size + 1) :: us, []⟩ (Value.ref (s.heap.objs.size + 1) :: us) _ _ (E σ) (hr.make C us [])
    (I2.env0.make C us []) b r2 hq) fun r s' hq' => ?_))
  cases r with
  | error e => exact hx pins _ _ e s' I2 hq'
  | ok fl =>
    cases fl with
    | ret u =>
      obtain ⟨v, H', I3, rv, ev, q3⟩ := I2.after hq'
      subst ev
      exact ⟨rv, ⟨V.ref (s.heap.objs.size + 1), H', I3, rfl, q3⟩⟩
    | next => exact False.elim hq'
    | brk => exact False.elim hq'
    | cont => exact False.elim hq'
def tMakeS (C : Addr) (sp : Sp) (E : St → XK) (t : TA) : TE := fun σ H Q => t σ H fun vs H1 => ∀ x dx, H1 x = none → H1 dx = none → dx ≠ x → sp (.ref x :: vs) (upd (upd H1 dx (.own x)) x (.ins C dx [])) (fun v H2 => v = .non ∧ Q (.ref x) H2) (E σ)
theorem pe_makeS (M : Mk X.K C f) (F : FnOk X.prog X.w X.K X.mg X.base CX k f fd ps sp) (hr : Room (k + 1) X.A) (hg : Gl X x) (hm : X.mg x = some (.ref C)) (hb : Binds X.K fd ps []) (hx : ∀ σ, PassesAt CX X σ (E σ))
    (ha : PA X (e :: es) t) (hdb : (x == ("__debug__" : Str)) = false := by decide) (he : starEach (e :: es) X.env = (false, eval e X.env) :: starEach es X.env := by rfl) (hpl : (backTo pos (starEach es X.env)).any (·.1) = false := by rfl) :
    PE X (.Call (.Name x p) (e :: es) [] pos) (tMakeS C sp E t) := by
  refine ⟨fun pins s σ H Q I h => ?_⟩
  refine wpAny_Call_Name_kw (ld_glob I hg hm ?_ hdb)
  refine PySem.W.callWith_K (h₀ := X.base) I.ok.mod.kin M.kp (thn (ha.run pos pins s σ H _ I h) fun us s1 ⟨vs, H1, I1, r, q⟩ => ⟨I1.kIn, ?_⟩) he hpl
  exact run_makeS M F hr hb (hx σ) I1 r q
end
end NG

set_option maxRecDepth 100000
set_option maxHeartbeats 4000000
namespace NW
open PySem L2 NG
def top (i : Nat) : Stmt := PySem.Challenge.pw_namewalk_k03_paths_as_things.main.body.getD i (.Pass ⟨0, 0, 0, 0⟩)
abbrev sState : Stmt := top 18
abbrev sDigit : Stmt := top 19
/-! ### draws -/
def spState : Sp := fun vs H Q _ => ∃ n : Int, vs = [.int n] ∧ ∀ p o, H p = none → DSo o → Q (.ref p) (upd H p o)
def spDigit : Sp := fun vs H Q _ => ∃ (p : Addr) (b : Int) (o : HO), vs = [.ref p, .int b] ∧ 0 < b ∧ b < 1073741824 ∧ H p = some o ∧ DSo o ∧
  ∀ (d : Int) (o' : HO), 0 ≤ d → d < b → DSo o' → Q (.int d) (upd H p o')
structure TxtA (mg : Str → Option Value) : Prop where
  m_int : mg "int" = none
  m_abs : mg "abs" = none
section
variable {P : Program} {w : World} {K : PySem.W.Frag} {mg : Str → Option Value} {base : Heap}
theorem scState : FnScope ["_law_source"] ["_law_source"] (defScope sState) := ⟨rfl, rfl, rfl, by decide +kernel, rfl, by decide +kernel, by decide +kernel⟩
theorem ok_state {f : Addr} {fd : FuncData} (F : Fun K "_law_state" "_law_state" sState f fd) (T : TxtA mg) : FnOk P w K mg base CX0 1 f fd ["_law_source"] spState := by
  have nd := scState.nd
  refine F.ok scState (fun vs H Q E h => ?_) (fun cdv A outer s H vs Q E hr h => ?_)
  · obtain ⟨n, rfl, _⟩ := h
    rfl
  · obtain ⟨n, rfl, k⟩ := h
    refine ⟨_, (pss_cons (ps_set (i := 0) nd rfl (Or.inl rfl) (pe_callB call_abs (by rfl) T.m_abs (by decide +kernel) (pa_cons (pv 0) pa_nil)))
  (pss_one (ps_ret (pe_lst (pa_cons (pe_op op_mul (pv 0) (pe_callTy call_int1 (by rfl) T.m_int (by decide +kernel) (pa_cons (pe_cmpR op_ge (pv 0) (pe_op op_pow pe_int pe_int) (nomark _)) pa_nil))) (pa_cons (pe_op op_add (pe_op op_mod (pe_callTy call_int1 (by rfl) T.m_int (by decide +kernel) (pa_cons (pv 0) pa_nil)) pe_int) pe_int) (pa_cons (pe_op op_mod (pe_callTy call_int1 (by rfl) T.m_int (by decide +kernel) (pa_cons (pv 0) pa_nil)) pe_int) pa_nil))))))), ?_⟩
    refine ⟨_, rfl, _, rfl, ?_⟩
    generalize hz : (if n < 0 then -n else n) = z
    have hz0 : 0 ≤ z := by rw [← hz]; split <;> omega
    refine ⟨_, rfl, _, rfl, _, _, rfl, rfl, ⟨by decide, by decide, by decide⟩, _, _, rfl, rfl, .inr ⟨_, rfl, ?_⟩⟩
    refine ⟨_, _, rfl, rfl, .inr ⟨by split <;> decide, by split <;> decide⟩, ?_⟩
    refine ⟨_, rfl, .inl ⟨_, rfl, _, _, rfl, rfl, (by show (0 : Int) < 2147483629; decide), _, _, rfl, rfl, ?_⟩⟩
    refine ⟨_, rfl, .inl ⟨_, rfl, _, _, rfl, rfl, (by show (0 : Int) < 2147483587; decide), ?_⟩⟩
    refine ⟨(by show 3 ≤ sizeLine; decide), fun p hp => k p _ hp ⟨_, _, _, rfl, ?_, ?_, ?_, ?_, ?_⟩⟩
    · split
      · omega
      · omega
    · have := Int.emod_nonneg z (by decide : (2147483629 : Int) ≠ 0); omega
    · have := Int.emod_lt_of_pos z (by decide : (0 : Int) < 2147483629); omega
    · exact Int.emod_nonneg z (by decide)
    · exact Int.emod_lt_of_pos z (by decide)
theorem scDigit : FnScope ["_law_state_here", "_law_base", "_law_found", "_law_mixed"] ["_law_state_here", "_law_base"] (defScope sDigit) := ⟨rfl, rfl, rfl, by decide +kernel, rfl, by decide +kernel, by decide +kernel⟩
theorem ok_digit {f : Addr} {fd : FuncData} (F : Fun K "_law_digit" "_law_digit" sDigit f fd) (T : TxtA mg) : FnOk P w K mg base CX0 1 f fd ["_law_state_here", "_law_base"] spDigit := by
  have nd := scDigit.nd
  refine F.ok scDigit (fun vs H Q E h => ?_) (fun cdv A outer s H vs Q E hr h => ?_)
  · obtain ⟨p, b, o, rfl, _⟩ := h
    rfl
  · obtain ⟨p, b, o, rfl, b0, b1, hp, ⟨a, m, c, rfl, ha, hm0, hm1, hc0, hc1⟩, k⟩ := h
    refine ⟨_, (pss_cons (ps_if (pt_cmpR op_gt (pe_ix ix_list (pv 0) pe_int (fun _ _ => rfl)) pe_int (nomark _)) (pss_cons (ps_set (i := 2) nd rfl (Or.inl rfl) (pe_op op_mod (pe_callTy call_int1 (by rfl) T.m_int (by decide +kernel) (pa_cons (pe_ix ix_list (pv 0) pe_int (fun _ _ => rfl)) pa_nil)) (pv 1)))
  (pss_cons (ps_asg (pe_op op_fdiv (pe_ix ix_list (pv 0) pe_int (fun _ _ => rfl)) (pv 1)) (pg_sub (pv 0) pe_int set_list))
  (pss_one (ps_ret (pv 2))))) pss_nil)
  (pss_cons (ps_set (i := 3) nd rfl (Or.inl rfl) (pe_op op_mul (pe_ix ix_list (pv 0) pe_int (fun _ _ => rfl)) (pe_op op_add (pe_op op_fdiv (pe_ix ix_list (pv 0) pe_int (fun _ _ => rfl)) pe_int) pe_int)))
  (pss_cons (ps_asg (pe_op op_add (pe_op op_mod (pe_callTy call_int1 (by rfl) T.m_int (by decide +kernel) (pa_cons (pe_op op_add (pv 3) (pe_ix ix_list (pv 0) pe_int (fun _ _ => rfl))) pa_nil)) pe_int) pe_int) (pg_sub (pv 0) pe_int set_list))
  (pss_one (ps_ret (pe_op op_mod (pe_callTy call_int1 (by rfl) T.m_int (by decide +kernel) (pa_cons (pe_op op_fdiv (pe_ix ix_list (pv 0) pe_int (fun _ _ => rfl)) pe_int) pa_nil)) (pv 1))))))), ?_⟩
    have sq : ∀ i : Int, SqL K H p [.int a, .int m, .int c] := fun _ => SqL.of hp
    refine ⟨_, rfl, p, _, _, _, rfl, rfl, SqL.of hp, rfl, _, _, rfl, rfl, _, rfl, ?_⟩
    refine ite2 (fun h => ?_) (fun h => ?_)
    · refine ⟨_, rfl, p, _, _, _, rfl, rfl, SqL.of hp, rfl, .inl ⟨_, rfl, _, rfl, _, _, rfl, rfl, b0, ?_⟩⟩
      refine ⟨_, rfl, p, _, _, _, rfl, rfl, SqL.of hp, rfl, _, rfl, _, _, rfl, rfl, ⟨b0, b1⟩, ?_⟩
      refine ⟨_, rfl, p, _, _, _, rfl, rfl, hp, rfl, _, rfl, ?_⟩
      exact k _ _ (Int.emod_nonneg _ (by omega)) (Int.emod_lt_of_pos _ b0) ⟨_, _, _, rfl, Int.ediv_nonneg ha (by omega), hm0, hm1, hc0, hc1⟩
    · refine ⟨_, rfl, p, _, _, _, rfl, rfl, SqL.of hp, rfl, _, rfl, p, _, _, _, rfl, rfl, SqL.of hp, rfl, _, _, rfl, rfl, ⟨by decide, by decide⟩, _, _, rfl, rfl, _, _, rfl, rfl, .inl ⟨by omega, by omega⟩, ?_⟩
      refine ⟨_, rfl, _, rfl, p, _, _, _, rfl, rfl, SqL.of hp, rfl, _, _, rfl, rfl, .inl ⟨_, rfl, _, _, rfl, rfl, (by show (0 : Int) < 2147483629; decide), _, _, rfl, rfl, ?_⟩⟩
      refine ⟨_, rfl, p, _, _, _, rfl, rfl, hp, rfl, ?_⟩
      refine ⟨_, rfl, p, _, _, _, rfl, rfl, SqL.of upd_same, rfl, _, _, rfl, rfl, ⟨by decide, by decide⟩, .inl ⟨_, rfl, _, rfl, _, _, rfl, rfl, b0, ?_⟩⟩
      have e0 := Int.emod_nonneg (m * (m / 1009 + 69621) + c) (by decide : (2147483629 : Int) ≠ 0)
      have e1 := Int.emod_lt_of_pos (m * (m / 1009 + 69621) + c) (by decide : (0 : Int) < 2147483629)
      exact k _ _ (Int.emod_nonneg _ (by omega)) (Int.emod_lt_of_pos _ b0) ⟨_, _, _, rfl, ha, by omega, by omega, hc0, hc1⟩
end
end NW

set_option maxRecDepth 100000
set_option maxHeartbeats 4000000
namespace NW
open PySem L2 NG
abbrev sName : Stmt := top 8
abbrev sStep : Stmt := top 11
abbrev sEnds : Stmt := top 12
/-! ### names -/
def letters : Str := "abcdefghijklmnopqrstuvwxyz0123456789_-."
def nameZ (z : Str) : Bool := decide (1 ≤ z.length) && decide (z.length ≤ 12) && (!(z == ("." : Str)) && !(z == (".." : Str))) && z.cps.toList.all (fun c => decide (c ∈ letters.cps.toList))
def stepZ (z : Str) : Bool := nameZ z || decide (z = ("..":Str))
structure TxtN (K : PySem.W.Frag) (mg : Str → Option Value) (fName fStep fEnds : Addr) : Prop where
  m_isinstance : mg "isinstance" = none
  m_str : mg "str" = none
  m_len : mg "len" = none
  m_all : mg "all" = none
  g_LONGEST_NAME : ∃ t, mg "LONGEST_NAME" = some (.int 12 t)
  g_NAME_LETTERS : ∃ t, mg "NAME_LETTERS" = some (.str letters t)
  g_is_name : mg "is_name" = some (.ref fName)
  kp_is_name : PySem.W.keepIn K (.ref fName) = true
  g_is_step : mg "is_step" = some (.ref fStep)
  kp_is_step : PySem.W.keepIn K (.ref fStep) = true
  g_ends_with_name : mg "ends_with_name" = some (.ref fEnds)
  kp_ends_with_name : PySem.W.keepIn K (.ref fEnds) = true
def spName : Sp := fun vs H Q _ => ∃ z : Str, vs = [.str z] ∧ z.length ≤ sizeLine ∧ ∀ H', Same H H' → Q (.bl (nameZ z)) H'
/-- a comprehension over a text's signs, its element pure -/
theorem lc_signs {z : Str} {te : TE} {i : Nat} {σ : St} {H1 : Hp} {D : Addr} {Q : Hp → Prop} (f : Nat → V) (hz : z.length ≤ sizeLine) (hD : H1 D = none)
    (he : ∀ (c : Nat) (H : Hp) (R : V → Hp → Prop), R (f c) H → te ((wipe σ [i]).set i (some (.str ⟨#[c]⟩))) H R)
    (hd : Q (upd H1 D (.lst (z.cps.toList.map f)))) :
    ∃ W : Nat → Nat → Hp → Prop, (∃ m, W 0 m (upd H1 D (.lst []))) ∧ ∀ k m H, W k m H →
      ((Its z).stop k H ∧ Q H) ∨ ((Its z).go k H ∧ ∃ Nx : Hp → Prop, (∀ H', Nx H' → ∃ m', m' < m ∧ W (k + 1) m' H') ∧ ∀ x H', (Its z).yld k H x H' → gName i x (wipe σ [i]) H' fun σ2 H2 => wipe σ2 [i] = wipe σ [i] ∧ tYes σ2 H2 fun b H3 =>
        if b = true then te σ2 H3 fun y H4 => ∃ acc, H4 D = some (.lst acc) ∧ acc.length < sizeLine ∧ Nx (upd H4 D (.lst (acc ++ [y]))) else Nx H3) := by
  refine lc_it walk_str (fun k H => H = upd H1 D (.lst ((z.cps.toList.take k).map f))) (by simp) (fun _ _ _ _ => True.intro) ?_ ?_
  · rintro k x H H' hk rfl ⟨rfl, c, hc, rfl⟩
    refine ⟨?_, ?_⟩
    · show List.set (List.set (List.set σ i none) i _) i none = List.set σ i none
      rw [List.set_set, List.set_set]
    · refine he c _ _ ?_
      refine ⟨_, upd_same, ?_, ?_⟩
      · rw [List.length_map, List.length_take]
        have : z.cps.toList.length = z.length := by simp [Str.length]
        have hk' : k < z.length := hk
        omega
      · rw [upd_upd]
        congr 2
        have hc' : z.cps.toList[k]? = some c := by simpa using hc
        rw [List.take_add_one, hc', List.map_append]
        rfl
  · rintro H rfl
    have : z.cps.toList.take z.cps.size = z.cps.toList := List.take_of_length_le (by simp)
    rw [this]
    exact hd
section
variable {P : Program} {w : World} {K : PySem.W.Frag} {mg : Str → Option Value} {base : Heap} {fName fStep fEnds : Addr}
theorem scName : FnScope ["value", "letter"] ["value"] (defScope sName) := ⟨rfl, rfl, rfl, by decide +kernel, rfl, by decide +kernel, by decide +kernel⟩
theorem ok_name {fd : FuncData} (F : Fun K "is_name" "is_name" sName fName fd) (T : TxtN K mg fName fStep fEnds) : FnOk P w K mg base CX0 1 fName fd ["value"] spName := by
  have nd := scName.nd
  obtain ⟨t1, g1⟩ := T.g_LONGEST_NAME
  obtain ⟨t2, g2⟩ := T.g_NAME_LETTERS
  refine F.ok scName (fun vs H Q E h => ?_) (fun cdv A outer s H vs Q E hr h => ?_)
  · obtain ⟨z, rfl, _⟩ := h
    rfl
  · obtain ⟨z, rfl, hz, k⟩ := h
    refine ⟨_, (pss_cons (ps_if (PW.pt (pw_or (pt_not (pt_val (pe_callB call_isi (by rfl) T.m_isinstance (by decide +kernel) (pa_cons (pv 0) (pa_cons (pe_bltn (v := .ty "str") (by rfl) T.m_str (by decide +kernel) rfl) pa_nil))))) (pw_or1 (pt_not (pt_chain op_le op_le pe_int (pe_callB call_len_str (by rfl) T.m_len (by decide +kernel) (pa_cons (pv 0) pa_nil)) (pe_glob (v := .int 12) (by rfl) g1 ⟨_, rfl⟩)))))) (pss_one (ps_ret pe_bl)) pss_nil)
  (pss_cons (ps_if (pt_cmpR op_in_seq (pv 0) (pe_tup (pa_cons pe_str (pa_cons pe_str pa_nil))) (by rfl)) (pss_one (ps_ret pe_bl)) pss_nil)
  (pss_one (ps_ret (pe_callB (cr_all rfl) (by rfl) T.m_all (by decide +kernel) (pa_cons (pe_lc (own := [("letter", 1)]) rfl nd (pi_str (pv 0)) (blkOk_by (N := ["value", "letter"]) (sc := defScope sName) (by decide +kernel)) (fun _ _ _ _ _ => (pg_name (i := 1) nd rfl (Or.inl rfl))) (fun _ _ _ _ _ => pts_nil) (fun _ _ _ _ _ => (pe_cmpR op_in_sign (pv 1) (pe_glob (v := .str letters) (by rfl) g2 ⟨_, rfl⟩) (by rfl)))) pa_nil)))))), ?_⟩
    refine ⟨_, rfl, _, _, _, _, true, rfl, .ty _, .base (.str z), rfl, _, rfl, ?_⟩
    refine iteF ?_
    refine ⟨_, rfl, _, rfl, hz, _, _, rfl, rfl, _, rfl, ?_⟩
    have cut : ∀ (c : Bool), (c = true → 1 ≤ z.length ∧ z.length ≤ 12) → (c = false → ¬ (1 ≤ z.length ∧ z.length ≤ 12)) → ∀ {A B : Prop}, ((nameZ z = false) → A) → ((1 ≤ z.length ∧ z.length ≤ 12) → B) → if (!c) = true then A else B := fun c h1 h2 A B ha hb => by
      cases c with
      | true => exact iteF (hb (h1 rfl))
      | false =>
        refine iteT (ha ?_)
        have q := h2 rfl
        unfold nameZ
        by_cases a1 : 1 ≤ z.length
        · have a2 : ¬ z.length ≤ 12 := fun a2 => q ⟨a1, a2⟩
          simp [a2]
        · simp [a1]
    have rest : (1 ≤ z.length ∧ z.length ≤ 12) → (tSeq (tIfS (tTest (tOp (rIn K false) (tVar 0) (tTup (tCons (tC (V.str ".")) (tCons (tC (V.str "..")) tNil))))) (tRet (tC (V.bl false))) tNext)
        (tRet (tCB (rAll K) (tCons (tLc (iStr (tVar 0)) (gName 1) tYes (tOp (fun x y H Q => ∃ c z, x = V.str { cps := #[c] } ∧ y = V.str z ∧ Q (V.bl (decide (c ∈ z.cps.toList))) H) (tVar 1) (tC (V.str letters))) [1]) tNil))) { nx := fun _ H' => Q V.non H', rt := Q }) (start ["value", "letter"] [V.str z]) H := fun ⟨l1, l2⟩ => by
      refine ⟨_, rfl, (by show 2 ≤ sizeLine; decide), fun p hp => ⟨p, _, rfl, .inr (SqT.of upd_same), rfl, rfl, _, rfl, ?_⟩⟩
      have s1 : Same H (upd H p (.tup [.str ".", .str ".."])) := NG.Same.upd hp
      have eI : (if false = true then !inV (V.str z) [V.str ".", V.str ".."] else inV (V.str z) [V.str ".", V.str ".."]) = (z == ("." : Str) || z == (".." : Str)) := by
        show (((("." : Str) == z) || (((".." : Str) == z) || false))) = _
        rw [Bool.or_false]
        congr 1
        · exact Bool.beq_comm
        · exact Bool.beq_comm
      rw [eI]
      refine ite2 (fun h => ?_) (fun h => ?_)
      · have e : nameZ z = false := by
          unfold nameZ
          have : (!(z == ("." : Str)) && !(z == (".." : Str))) = false := by
            rw [← Bool.not_or, h]; rfl
          rw [this]; simp
        have := k _ s1
        rw [e] at this
        exact this
      · refine ⟨_, rfl, z, rfl, fun D hD => lc_signs (fun c => .bl (decide (c ∈ letters.cps.toList))) hz hD (fun c H R hR => ⟨_, rfl, c, letters, rfl, rfl, hR⟩) ?_⟩
        refine ⟨D, z.cps.toList.map (fun c => decide (c ∈ letters.cps.toList)), rfl, SqL.of ?_, ?_⟩
        · rw [upd_same, List.map_map]
          rfl
        · have e : nameZ z = (z.cps.toList.map (fun c => decide (c ∈ letters.cps.toList))).all id := by
            unfold nameZ
            have : (!(z == ("." : Str)) && !(z == (".." : Str))) = true := by
              rw [← Bool.not_or]
              simpa using h
            rw [this, List.all_map]
            simp [l1, l2]
          rw [← e]
          exact k _ (s1.trans (NG.Same.upd hD))
    refine ite2 (fun c1 => ?_) (fun c1 => ?_)
    · refine ⟨_, _, rfl, rfl, _, rfl, ?_⟩
      have c1' : (1 : Int) ≤ (z.length : Int) := of_decide_eq_true c1
      refine cut _ (fun h => ⟨by omega, by have := of_decide_eq_true h; omega⟩) (fun h q => by have := of_decide_eq_false h; omega) (fun e => ?_) rest
      have := k _ (Same.refl H)
      rw [e] at this
      exact this
    · refine ⟨_, rfl, ?_⟩
      refine cut _ (fun h => by cases h) (fun _ q => c1 (decide_eq_true (by omega))) (fun e => ?_) rest
      have := k _ (Same.refl H)
      rw [e] at this
      exact this
end
end NW

set_option maxRecDepth 100000
set_option maxHeartbeats 4000000
namespace NW
open PySem L2 NG
def endsName (xs : List Str) : Bool := match xs.getLast? with
  | none => false
  | some z => !decide (z = (".." : Str))
def spStep : Sp := fun vs H Q _ => ∃ z : Str, vs = [.str z] ∧ z.length ≤ sizeLine ∧ ∀ H', Same H H' → Q (.bl (stepZ z)) H'
def spEnds (K : PySem.W.Frag) : Sp := fun vs H Q _ => ∃ (a : Addr) (xs : List Str), vs = [.ref a] ∧ SqT K H a (xs.map V.str) ∧ Q (.bl (endsName xs)) H
section
variable {P : Program} {w : World} {K : PySem.W.Frag} {mg : Str → Option Value} {base : Heap} {fName fStep fEnds : Addr}
theorem scStep : FnScope ["value"] ["value"] (defScope sStep) := ⟨rfl, rfl, rfl, by decide +kernel, rfl, by decide +kernel, by decide +kernel⟩
theorem ok_step {fd fdN : FuncData} (F : Fun K "is_step" "is_step" sStep fStep fd) (T : TxtN K mg fName fStep fEnds) (G_is_name : FnOk P w K mg base CX0 1 fName fdN ["value"] spName) (b_is_name : Binds K fdN ["value"] []) :
    FnOk P w K mg base CX0 2 fStep fd ["value"] spStep := by
  have nd := scStep.nd
  refine F.ok scStep (fun vs H Q E h => ?_) (fun cdv A outer s H vs Q E hr h => ?_)
  · obtain ⟨z, rfl, _⟩ := h
    rfl
  · obtain ⟨z, rfl, hz, k⟩ := h
    have hr_is_name : Room 1 _ := hr
    refine ⟨_, (pss_one (ps_ret (pe_or (pe_call G_is_name hr_is_name (by rfl) T.g_is_name T.kp_is_name b_is_name .nil pass0 (pa_cons (pv 0) pa_nil)) (pe_one (pe_cmpR op_eq (pv 0) pe_str (nomark _)))))), ?_⟩
    refine ⟨_, rfl, z, rfl, hz, fun H' s1 => ⟨_, rfl, ?_⟩⟩
    have k' := k _ s1
    unfold stepZ at k'
    refine ite2 (fun c => ?_) (fun c => ?_)
    · rw [c] at k'
      exact k'
    · have c' : nameZ z = false := by simpa using c
      rw [c'] at k'
      refine ⟨_, rfl, rfl, ?_⟩
      rw [Bool.false_or] at k'
      have e : decide (V.str z = V.str "..") = decide (z = (".." : Str)) := by
        by_cases h : z = ".."
        · simp [h]
        · rw [decide_eq_false h, decide_eq_false (fun q => h (V.str.inj q))]
      show Q (V.bl (decide (V.str z = V.str ".."))) H'
      rw [e]
      exact k'
theorem scEnds : FnScope ["steps"] ["steps"] (defScope sEnds) := ⟨rfl, rfl, rfl, by decide +kernel, rfl, by decide +kernel, by decide +kernel⟩
theorem ok_ends {fd : FuncData} (F : Fun K "ends_with_name" "ends_with_name" sEnds fEnds fd) (T : TxtN K mg fName fStep fEnds) : FnOk P w K mg base CX0 1 fEnds fd ["steps"] (spEnds K) := by
  have nd := scEnds.nd
  refine F.ok scEnds (fun vs H Q E h => ?_) (fun cdv A outer s H vs Q E hr h => ?_)
  · obtain ⟨a, xs, rfl, _⟩ := h
    rfl
  · obtain ⟨a, xs, rfl, hS, k⟩ := h
    refine ⟨_, (pss_one (ps_ret (pe_and (pe_cmpR op_gt (pe_callB call_len_seq (by rfl) T.m_len (by decide +kernel) (pa_cons (pv 0) pa_nil)) pe_int (nomark _)) (pe_one (pe_cmpR op_ne (pe_ix ix_tup (pv 0) (pe_un un_neg pe_int) (fun _ _ => rfl)) pe_str (nomark _)))))), ?_⟩
    refine ⟨_, rfl, a, _, rfl, .inr hS, _, _, rfl, rfl, _, rfl, ?_⟩
    rcases List.eq_nil_or_concat xs with rfl | ⟨ys, z, ez⟩
    · exact iteF k
    · rw [List.concat_eq_append] at ez
      subst ez
      have hl : decide ((0 : Int) < ((((ys ++ [z]).map V.str).length : Nat) : Int)) = true := decide_eq_true (by rw [List.length_map, List.length_append, List.length_singleton]; omega)
      rw [hl]
      refine iteT ⟨_, rfl, _, rfl, a, _, _, .str z, rfl, rfl, hS, ?_, rfl, ?_⟩
      · have : (ys ++ [z]).map V.str = ys.map V.str ++ [V.str z] := by simp
        rw [this]
        exact atI_last _ _
      · have e : (!decide (V.str z = V.str "..")) = endsName (ys ++ [z]) := by
          unfold endsName
          rw [List.getLast?_append]
          show _ = !decide (z = (".." : Str))
          congr 1
          by_cases h : z = ".."
          · simp [h]
          · rw [decide_eq_false h, decide_eq_false (fun q => h (V.str.inj q))]
        show Q (V.bl (!decide (V.str z = V.str ".."))) H
        rw [e]
        exact k
end
end NW

set_option maxRecDepth 100000
set_option maxHeartbeats 4000000
namespace NW
open PySem L2 NG
section
open PyProof.Rows
/-- X(), X an own exception class without own __init__ -/
theorem pmk_own0 {X : Cx} {C : Addr} {bmB : List Value} {B newId initId : String} {x : Str} {p pos : Pos} (F : ExcBaseFacts B newId initId bmB) (q : PySem.W.excIn X.K C bmB newId = true) (gC : X.mg x = some (.ref C))
    (kC : PySem.W.keepIn X.K (.ref C) = true) (r : Raises X (.ref C)) (hg : Gl X x) (hdb : (x == ("__debug__" : Str)) = false := by decide) :
    PMk X (.Call (.Name x p) [] [] pos) (fun _ H Q => Q (.ref C) none H) := by
  intro pins s σ H Q I h
  refine wpAny_Call_Name_kw (ld_glob I hg gC ?_ hdb)
  refine PySem.W.callWith_K0 I.kIn kC ?_
  show wpAny _ _ (call (.ref C) []) _ _ _
  obtain ⟨bm, N, nm, qn, bs, hdct, sn, sub, ab, col, dd, k0, k1, k2, k3, k5, mN, hC, hN, hni, T⟩ := exc_obj I.kIn q
  refine wpAny_call_exc_subT F T hC hN hni (fun h' e hm => ?_) (by show 0 ≤ sizeLine; exact Nat.zero_le _)
  exact mk_of I hm r h (I.hok.gone hm.new)
end
abbrev sInit : Stmt := inClass (top 10) 0
abbrev sEq : Stmt := inClass (top 10) 1
/-! ### paths -/
def okPath (xs : List Str) (fo : Bool) : Bool := xs.all stepZ && (fo || endsName xs)
def pfl (t : Addr) (ab fo : Bool) : List (Str × V) := putF "folder" (.bl fo) (putF "absolute" (.bl ab) (putF "steps" (.ref t) []))
theorem n_sa : ¬ (("steps" : Str) = "absolute") := by decide +kernel
theorem n_sf : ¬ (("steps" : Str) = "folder") := by decide +kernel
theorem n_af : ¬ (("absolute" : Str) = "folder") := by decide +kernel
theorem pfl_steps (t : Addr) (ab fo : Bool) : (pfl t ab fo).lookup ("steps" : Str) = some (.ref t) := by
  unfold pfl
  rw [lookup_putF, if_neg n_sf, lookup_putF, if_neg n_sa, lookup_putF, if_pos rfl]
theorem pfl_abs (t : Addr) (ab fo : Bool) : (pfl t ab fo).lookup ("absolute" : Str) = some (.bl ab) := by
  unfold pfl
  rw [lookup_putF, if_neg n_af, lookup_putF, if_pos rfl]
theorem pfl_fo (t : Addr) (ab fo : Bool) : (pfl t ab fo).lookup ("folder" : Str) = some (.bl fo) := by
  unfold pfl
  rw [lookup_putF, if_pos rfl]
def SqLT (K : PySem.W.Frag) (H : Hp) (a : Addr) (xs : List V) : Prop := SqL K H a xs ∨ SqT K H a xs
structure PathAt (K : PySem.W.Frag) (C : Addr) (H : Hp) (p : Addr) (xs : List Str) (ab fo : Bool) : Prop where
  ob : ∃ dx t, H p = some (.ins C dx (pfl t ab fo)) ∧ SqT K H t (xs.map V.str)
def spPath (K : PySem.W.Frag) (C CN : Addr) : Sp := fun vs H Q E => ∃ (p dx a : Addr) (xs : List Str) (ab fo : Bool), vs = [.ref p, .ref a, .bl ab, .bl fo] ∧ H p = some (.ins C dx []) ∧ SqLT K H a (xs.map V.str) ∧ (∀ z ∈ xs, z.length ≤ sizeLine) ∧ xs.length < sizeLine ∧
  (okPath xs fo = true → ∀ H', But p H H' → PathAt K C H' p xs ab fo → Q .non H') ∧ (okPath xs fo = false → ∀ H', But p H H' → E (.ref CN) none H')
structure TxtP (K : PySem.W.Frag) (mg : Str → Option Value) (C CN : Addr) : Prop where
  m_tuple : mg "tuple" = none
  g_Path : mg "Path" = some (.ref C)
  cl : Cls K C
  nS : NoAttr K C "steps"
  nA : NoAttr K C "absolute"
  nF : NoAttr K C "folder"
  xP : PySem.W.excIn K CN [.type "ValueError", .type "Exception", .type "BaseException", .type "object"] "ValueError.__new__" = true
  gP : mg "NoPath" = some (.ref CN)
  kP : PySem.W.keepIn K (.ref CN) = true
  bP : PySem.W.subIn K (.ref CN) (.type "BaseException") = some true
  tP : PySem.W.typeIn K (.ref CN) = some (.type "type")
section
variable {P : Program} {w : World} {K : PySem.W.Frag} {mg : Str → Option Value} {base : Heap} {fName fStep fEnds C CN fI : Addr}
theorem scInit : FnScope ["self", "steps", "absolute", "folder", "step"] ["self", "steps", "absolute", "folder"] (defScope sInit) := ⟨rfl, rfl, rfl, by decide +kernel, rfl, by decide +kernel, by decide +kernel⟩
theorem ok_pinit {fd fdS fdE : FuncData} (F : Fun K "__init__" "Path.__init__" sInit fI fd) (T0 : TxtN K mg fName fStep fEnds) (T : TxtP K mg C CN)
    (G_is_step : FnOk P w K mg base CX0 2 fStep fdS ["value"] spStep) (b_is_step : Binds K fdS ["value"] []) (G_ends_with_name : FnOk P w K mg base CX0 1 fEnds fdE ["steps"] (spEnds K)) (b_ends_with_name : Binds K fdE ["steps"] []) :
    FnOk P w K mg base (L2.CX P w) 4 fI fd ["self", "steps", "absolute", "folder"] (spPath K C CN) := by
  have nd := scInit.nd
  refine F.okX scInit (fun vs H Q E h => ?_) (fun cdv A outer s H vs Q E hr h => ?_)
  · obtain ⟨p, dx, a, xs, ab, fo, rfl, _⟩ := h
    rfl
  · obtain ⟨p, dx, a, xs, ab, fo, rfl, hp, hS, hz, hl, kO, kE⟩ := h
    have hr_is_step : Room 2 _ := hr.mono (by decide)
    have hr_ends_with_name : Room 1 _ := hr.mono (by decide)
    refine ⟨_, (pss_cons (ps_fld (pv 0) (pe_callTy call_tuple_of (by rfl) T.m_tuple (by decide +kernel) (pa_cons (pv 1) pa_nil)) rfl)
  (pss_cons (ps_fld (pv 0) (pv 2) rfl)
  (pss_cons (ps_fld (pv 0) (pv 3) rfl)
  (pss_cons (ps_if (pt_not (pt_val (pe_callB (cr_all rfl) (by rfl) T0.m_all (by decide +kernel) (pa_cons (pe_lc (own := [("step", 4)]) rfl nd (pi_tup (pe_fld (pv 0) rfl)) (blkOk_by (N := ["self", "steps", "absolute", "folder", "step"]) (sc := defScope sInit) (by decide +kernel)) (fun _ _ _ _ _ => (pg_name (i := 4) nd rfl (Or.inl rfl))) (fun _ _ _ _ _ => pts_nil) (fun _ _ _ _ _ => (pe_call G_is_step hr_is_step (by rfl) T0.g_is_step T0.kp_is_step b_is_step .nil pass0 (pa_cons (pv 4) pa_nil)))) pa_nil)))) (pss_one (ps_raise rfl (takes_of rfl rfl rfl rfl) (pmk_own0 PySem.F.excBase_ValueError T.xP T.gP T.kP (raises_own T.bP T.tP) rfl))) pss_nil)
  (pss_one (ps_if (PW.pt (pw_and (pt_not (pt_val (pv 3))) (pw_and1 (pt_not (pt_val (pe_call G_ends_with_name hr_ends_with_name (by rfl) T0.g_ends_with_name T0.kp_ends_with_name b_ends_with_name .nil pass0 (pa_cons (pe_fld (pv 0) rfl) pa_nil))))))) (pss_one (ps_raise rfl (takes_of rfl rfl rfl rfl) (pmk_own0 PySem.F.excBase_ValueError T.xP T.gP T.kP (raises_own T.bP T.tP) rfl))) pss_nil)))))), ?_⟩
    refine ⟨_, rfl, a, xs.map V.str, rfl, ?_⟩
    have e0 : But p H H := But.refl p H
    have fin : ∀ (H' : Hp) (t : Addr), But p H H' → H' p = some (.ins C dx (pfl t ab fo)) → SqT K H' t (xs.map V.str) → okPath xs fo = true → Q .non H' := fun H' t b1 b2 b3 b4 => kO b4 H' b1 ⟨⟨dx, t, b2, b3⟩⟩
    have l2 : ∀ t, (putF "absolute" (.bl ab) (putF "steps" (V.ref t) [])).length < 1000 := fun t => by
      have a1 := len_putF "absolute" (.bl ab) (putF "steps" (V.ref t) [])
      have a2 := len_putF "steps" (V.ref t) []
      simp only [List.length_nil] at a2
      omega
    have hxl : (xs.map V.str).length < sizeLine := by rw [List.length_map]; exact hl
    have getz : ∀ (k : Nat) (x : V), (xs.map V.str)[k]? = some x → ∃ z, x = .str z ∧ z ∈ xs := fun k x h => by
      rw [List.getElem?_map] at h
      cases e : xs[k]? with
      | none => rw [e] at h; cases h
      | some z => rw [e] at h; exact ⟨z, (Option.some.inj h).symm, List.mem_of_getElem? e⟩
    let fS : V → V := fun v => match v with | .str z => .bl (stepZ z) | _ => .bl false
    have hall : (xs.map V.str).map fS = (xs.map stepZ).map V.bl := by
      rw [List.map_map, List.map_map]
      rfl
    have hall2 : (xs.map stepZ).all id = xs.all stepZ := by rw [List.all_map]; rfl
    have rest : ∀ (H3 : Hp) (t : Addr), But p H H3 → H3 p = some (.ins C dx (pfl t ab fo)) → SqT K H3 t (xs.map V.str) →
        (tSeq (tIfS (tNot (tB (tCB (rAll K) (tCons (tLc (iTup K (tFld K (tVar 0) "steps")) (gName 4) tYes (tCall spStep [] E0 (tCons (tVar 4) tNil)) [4]) tNil)))) (fun _ _ H => E (.ref CN) none H) tNext)
          (tIfS (tAnd (tNot (tB (tVar 3))) (tNot (tB (tCall (spEnds K) [] E0 (tCons (tFld K (tVar 0) "steps") tNil))))) (fun _ _ H => E (.ref CN) none H) tNext) : TS)
          { nx := fun _ H' => Q .non H', rt := Q } (start ["self", "steps", "absolute", "folder", "step"] [.ref p, .ref a, .bl ab, .bl fo]) H3 := fun H3 t b3 p3 q3 => by
      refine ⟨_, rfl, p, C, dx, _, _, rfl, p3, T.cl, T.nS, pfl_steps _ _ _, t, rfl, ⟨_, q3⟩, fun D hD => lc_map (walk_tup (K := K) (a := t)) fS hxl hD (fun H s => Same.sqT s q3) (fun k x H4 R hk s4 hR => ?_) (fun H4 s4 e4 => ?_)⟩
      · obtain ⟨z, rfl, hzx⟩ := getz k x hk
        exact ⟨_, rfl, z, rfl, hz z hzx, fun H' s' => hR H' s'⟩
      · rw [hall] at e4
        refine ⟨D, xs.map stepZ, rfl, SqL.of e4, _, rfl, ?_⟩
        rw [hall2]
        have b4 := b3.same s4
        have p4 := s4 _ _ p3
        have q4 := Same.sqT s4 q3
        cases ha : xs.all stepZ with
        | false =>
          refine iteT ?_
          exact kE (by unfold okPath; rw [ha]; rfl) _ b4
        | true =>
          refine iteF ?_
          refine ⟨_, rfl, _, rfl, ?_⟩
          cases fo with
          | true =>
            refine iteF (iteF ?_)
            exact fin _ t b4 p4 q4 (by unfold okPath; rw [ha]; rfl)
          | false =>
            refine iteT ⟨_, rfl, p, C, dx, _, _, rfl, p4, T.cl, T.nS, pfl_steps _ _ _, t, xs, rfl, q4, _, rfl, ?_⟩
            cases he : endsName xs with
            | true =>
              refine iteF ?_
              exact fin _ t b4 p4 q4 (by unfold okPath; rw [ha, he]; rfl)
            | false =>
              refine iteT ?_
              exact kE (by unfold okPath; rw [ha, he]; rfl) _ b4
    rcases hS with hS | hS
    · refine .inl ⟨hS, fun t ht => ?_⟩
      have npt : p ≠ t := ne_of_none hp ht
      refine ⟨_, rfl, p, C, dx, _, rfl, by rw [upd_ne npt]; exact hp, T.cl, T.nS, (by show 0 < 1000; decide), ?_⟩
      refine ⟨_, rfl, _, rfl, p, C, dx, _, rfl, upd_same, T.cl, T.nA, (by show 1 < 1000; decide), ?_⟩
      refine ⟨_, rfl, _, rfl, p, C, dx, _, rfl, upd_same, T.cl, T.nF, l2 _, ?_⟩
      refine rest _ t ?_ upd_same ?_
      · exact (((But.ofSame (NG.Same.upd ht)).upd).upd).upd
      · exact SqT.of (by rw [upd_ne npt.symm, upd_ne npt.symm, upd_ne npt.symm, upd_same])
    · refine .inr ⟨hS, ?_⟩
      refine ⟨_, rfl, p, C, dx, _, rfl, hp, T.cl, T.nS, (by show 0 < 1000; decide), ?_⟩
      refine ⟨_, rfl, _, rfl, p, C, dx, _, rfl, upd_same, T.cl, T.nA, (by show 1 < 1000; decide), ?_⟩
      refine ⟨_, rfl, _, rfl, p, C, dx, _, rfl, upd_same, T.cl, T.nF, l2 _, ?_⟩
      have bb : ∀ o1 o2 o3, But p H (upd (upd (upd H p o1) p o2) p o3) := fun o1 o2 o3 => ((e0.upd).upd).upd
      exact rest _ a (bb _ _ _) upd_same (But.sqT hp (bb _ _ _) hS)
end
end NW

set_option maxRecDepth 100000
set_option maxHeartbeats 4000000
namespace NW
open PySem L2 NG
/-- what isinstance asks of an own class -/
structure TyC (K : PySem.W.Frag) (C : Addr) : Prop where
  c1 : PySem.W.findIn K (.ref C) "__class__" = some (some (.builtin "object.__class__"))
  c2 : PySem.W.specialIn K (.builtin "object.__class__") "__get__" = some (some (.builtin "getset_descriptor.__get__"))
  c3 : PySem.W.takesIn K (.builtin "object.__class__") = some true
  c4 : PySem.W.mroIn K C (.type "object") = some true
/-- what == and != ask of an own class with __eq__ at f -/
structure EqC (K : PySem.W.Frag) (C f : Addr) : Prop where
  e1 : PySem.W.findIn K (.ref C) "__eq__" = some (some (.ref f))
  e2 : PySem.W.isFn K (.ref f) = true
  e3 : PySem.W.subIn K (.ref C) (.type "object") = some true
  e4 : PySem.W.findIn K (.ref C) "__ne__" = some (some (.builtin "object.__ne__"))
def okS (z : Str) : Prop := z.length ≤ sizeLine ∧ z.cps.all (· < 0x110000) = true
theorem kit_self {K : PySem.W.Frag} {C : Addr} : PySem.W.kitOne K (.ref C) (.ref C) = some true := by unfold PySem.W.kitOne; rw [if_pos (by simp)]
theorem nf_self {K : PySem.W.Frag} {C : Addr} : PySem.W.notFirst K C (.ref C) = true := by simp [PySem.W.notFirst]
theorem dpAll_strs {K : PySem.W.Frag} {H : Hp} : ∀ xs : List Str, DpAll K H (xs.map V.str) (xs.map PyData.str)
  | [] => .nil
  | x :: r => .cons (.str x) (dpAll_strs r)
theorem dp_tup {K : PySem.W.Frag} {H : Hp} {a : Addr} {xs : List Str} (h : SqT K H a (xs.map V.str)) : Dp K H (.ref a) (.tuple (xs.map PyData.str)) := .tup h (dpAll_strs xs)
theorem dp_lst {K : PySem.W.Frag} {H : Hp} {a : Addr} {xs : List Str} (h : SqL K H a (xs.map V.str)) : Dp K H (.ref a) (.list (xs.map PyData.str)) := .lst h (dpAll_strs xs)
theorem lay_strs : ∀ {xs : List Str}, (∀ z ∈ xs, okS z) → PyData.canLayAll0 (xs.map PyData.str) = true
  | [], _ => by simp [PyData.canLayAll0]
  | x :: r, h => by
    have h1 := (h x List.mem_cons_self).2
    have h2 := lay_strs (xs := r) fun z hz => h z (List.mem_cons_of_mem _ hz)
    simp only [List.map_cons, PyData.canLayAll0, PyData.canLay0, PyData.strOk, h1, h2, Bool.and_self]
theorem depth_strs : ∀ xs : List Str, PyData.depthAll (xs.map PyData.str) = 0
  | [] => by simp [PyData.depthAll]
  | x :: r => by simp [PyData.depthAll, PyData.depth, depth_strs r]
theorem shaped_tup {xs : List Str} (h : ∀ z ∈ xs, okS z) : SeqAt.shaped (.tuple (xs.map PyData.str)) = true := by
  unfold SeqAt.shaped
  simp [PyData.canLay0, PyData.depth, lay_strs h, depth_strs]
theorem shaped_lst {xs : List Str} (h : ∀ z ∈ xs, okS z) : SeqAt.shaped (.list (xs.map PyData.str)) = true := by
  unfold SeqAt.shaped
  simp [PyData.canLay0, PyData.depth, lay_strs h, depth_strs]
theorem eqvAll_strs : ∀ xs ys : List Str, PyData.eqvAll (xs.map PyData.str) (ys.map PyData.str) = decide (xs = ys)
  | [], [] => by simp [PyData.eqvAll]
  | [], _ :: _ => by simp [PyData.eqvAll]
  | _ :: _, [] => by simp [PyData.eqvAll]
  | x :: r, y :: q => by
    simp only [List.map_cons, PyData.eqvAll, PyData.eqv, eqvAll_strs r q, List.cons.injEq]
    by_cases h : x = y
    · simp [h]
    · simp [h]
theorem eqv_tup (xs ys : List Str) : PyData.eqv (.tuple (xs.map PyData.str)) (.tuple (ys.map PyData.str)) = decide (xs = ys) := by unfold PyData.eqv; exact eqvAll_strs xs ys
theorem eqv_lst (xs ys : List Str) : PyData.eqv (.list (xs.map PyData.str)) (.list (ys.map PyData.str)) = decide (xs = ys) := by unfold PyData.eqv; exact eqvAll_strs xs ys
def eqPath (xs : List Str) (ab fo : Bool) (ys : List Str) (ab' fo' : Bool) : Bool := decide (xs = ys) && (ab == ab') && (fo == fo')
def spEqP (K : PySem.W.Frag) (C : Addr) : Sp := fun vs H Q _ => ∃ (p q : Addr) (xs ys : List Str) (ab fo ab' fo' : Bool), vs = [.ref p, .ref q] ∧ PathAt K C H p xs ab fo ∧ PathAt K C H q ys ab' fo' ∧ (∀ z ∈ xs, okS z) ∧ (∀ z ∈ ys, okS z) ∧
  Q (.bl (eqPath xs ab fo ys ab' fo')) H
section
variable {P : Program} {w : World} {K : PySem.W.Frag} {mg : Str → Option Value} {base : Heap} {fName fStep fEnds C CN fE : Addr}
theorem scEq : FnScope ["self", "other"] ["self", "other"] (defScope sEq) := ⟨rfl, rfl, rfl, by decide +kernel, rfl, by decide +kernel, by decide +kernel⟩
theorem ok_peq {fd : FuncData} (F : Fun K "__eq__" "Path.__eq__" sEq fE fd) (T0 : TxtN K mg fName fStep fEnds) (T : TxtP K mg C CN) (TC : TyC K C) :
    FnOk P w K mg base CX0 1 fE fd ["self", "other"] (spEqP K C) := by
  have nd := scEq.nd
  refine F.ok scEq (fun vs H Q E h => ?_) (fun cdv A outer s H vs Q E hr h => ?_)
  · obtain ⟨p, q, xs, ys, ab, fo, ab', fo', rfl, _⟩ := h
    rfl
  · obtain ⟨p, q, xs, ys, ab, fo, ab', fo', rfl, ⟨dx, t, hp, ht⟩, ⟨dy, u, hq, hu⟩, ox, oy, k⟩ := h
    refine ⟨_, (pss_one (ps_ret (pe_and (pe_callB call_isi (by rfl) T0.m_isinstance (by decide +kernel) (pa_cons (pv 1) (pa_cons (pe_glob (v := .ref C) (by rfl) T.g_Path rfl) pa_nil))) (pe_and (pe_cmpR (op_eqD hr.units) (pe_fld (pv 0) rfl) (pe_fld (pv 1) rfl) (nomark _)) (pe_and (pe_cmpR op_eq (pe_fld (pv 0) rfl) (pe_fld (pv 1) rfl) (nomark _)) (pe_one (pe_cmpR op_eq (pe_fld (pv 0) rfl) (pe_fld (pv 1) rfl) (nomark _)))))))), ?_⟩
    refine ⟨_, rfl, _, _, _, _, true, rfl, .own C, .base (.ins hq T.cl TC.c1 TC.c2 TC.c3 TC.c4), kit_self, _, rfl, ?_⟩
    refine iteT ?_
    refine ⟨_, rfl, p, C, dx, _, _, rfl, hp, T.cl, T.nS, pfl_steps _ _ _, _, rfl, q, C, dy, _, _, rfl, hq, T.cl, T.nS, pfl_steps _ _ _, _, _, dp_tup ht, dp_tup hu, shaped_tup ox, shaped_tup oy, _, rfl, ?_⟩
    rw [eqv_tup]
    unfold eqPath at k
    by_cases h1 : xs = ys
    · rw [decide_eq_true h1] at k ⊢
      refine iteT ?_
      refine ⟨_, rfl, p, C, dx, _, _, rfl, hp, T.cl, T.nA, pfl_abs _ _ _, _, rfl, q, C, dy, _, _, rfl, hq, T.cl, T.nA, pfl_abs _ _ _, rfl, _, rfl, ?_⟩
      by_cases h2 : ab = ab'
      · subst h2
        rw [decide_eq_true rfl]
        refine iteT ?_
        refine ⟨_, rfl, p, C, dx, _, _, rfl, hp, T.cl, T.nF, pfl_fo _ _ _, _, rfl, q, C, dy, _, _, rfl, hq, T.cl, T.nF, pfl_fo _ _ _, rfl, ?_⟩
        have e : decide (V.bl fo = V.bl fo') = (true && (ab == ab) && (fo == fo')) := by
          cases fo <;> cases fo' <;> cases ab <;> rfl
        show Q (V.bl (decide (V.bl fo = V.bl fo'))) H
        rw [e]
        exact k
      · rw [decide_eq_false (fun z => h2 (V.bl.inj z))]
        refine iteF ?_
        have e : (ab == ab') = false := by simpa using h2
        rw [e] at k
        exact k
    · rw [decide_eq_false h1] at k ⊢
      refine iteF ?_
      exact k
end
end NW

set_option maxRecDepth 100000
set_option maxHeartbeats 4000000
namespace NW
open PySem L2 NG
abbrev sBTI : Stmt := inClass (top 3) 0
abbrev sBad : Stmt := top 13
abbrev sRead : Stmt := top 14
abbrev sText : Stmt := top 15
/-! ### texts -/
def plain (p : Str) : Bool := (p == ("" : Str)) || (p == ("." : Str))
def badPart (p : Str) : Bool := !plain p && !stepZ p
def goBad : Nat → List Str → Option Nat
  | _, [] => none
  | k, p :: r => if badPart p then some k else goBad (k + p.length + 1) r
def partsOf (z : Str) : List Str := Txt.split z "/"
def badP (z : Str) : Option Nat := if z = ("" : Str) then some 0 else goBad 0 (partsOf z)
structure TxtB (K : PySem.W.Frag) (mg : Str → Option Value) (CB fBI fBad : Addr) : Prop where
  ox : OexC K CB
  nP : PySem.W.findIn K (.ref CB) "place" = some none
  iC : PySem.W.findIn K (.ref CB) "__init__" = some (some (.ref fBI))
  tI : PySem.W.typeIn K (.ref fBI) = some (.type "function")
  gB : mg "BadText" = some (.ref CB)
  g_bad_place : mg "bad_place" = some (.ref fBad)
  kp_bad_place : PySem.W.keepIn K (.ref fBad) = true
def spBTI (K : PySem.W.Frag) (C : Addr) : Sp := fun vs H Q _ => ∃ (a : Addr) (v : V), vs = [.ref a, v] ∧ H a = some (exo a C none) ∧ ∀ dx, H dx = none → dx ≠ a → Q .non (upd (upd H dx (exd dx [("place", v)])) a (exo a C (some dx)))
def spBad (K : PySem.W.Frag) : Sp := fun vs H Q _ => (∃ (x : V) (t : Value), vs = [x] ∧ TyX K H x t ∧ PySem.W.kitOne K t (.type "str") = some false ∧ Q (.int 0) H) ∨
  (∃ z : Str, vs = [.str z] ∧ z.length + 2 ≤ sizeLine ∧ (∀ p ∈ partsOf z, p.length ≤ sizeLine) ∧ (∀ n, badP z = some n → ∀ H', Same H H' → Q (.int (n : Nat)) H') ∧ (badP z = none → ∀ H', Same H H' → Q .non H'))
theorem inV2 (x a b : Str) : (if true = true then !inV (V.str x) [V.str a, V.str b] else inV (V.str x) [V.str a, V.str b]) = !(x == a || x == b) := by
  show (!((a == x) || ((b == x) || false))) = _
  rw [Bool.or_false, Bool.beq_comm (a := a), Bool.beq_comm (a := b)]
section
variable {P : Program} {w : World} {K : PySem.W.Frag} {mg : Str → Option Value} {base : Heap} {fName fStep fEnds C CN CB fBI fBad : Addr}
theorem scBTI : FnScope ["self", "place"] ["self", "place"] (defScope sBTI) := ⟨rfl, rfl, rfl, by decide +kernel, rfl, by decide +kernel, by decide +kernel⟩
theorem ok_bti {fd : FuncData} (F : Fun K "__init__" "BadText.__init__" sBTI fBI fd) (T : TxtB K mg CB fBI fBad) : FnOk P w K mg base CX0 1 fBI fd ["self", "place"] (spBTI K CB) := by
  refine F.ok scBTI (fun vs H Q E h => ?_) (fun cdv A outer s H vs Q E hr h => ?_)
  · obtain ⟨a, v, rfl, _⟩ := h
    rfl
  · obtain ⟨a, v, rfl, ha, k⟩ := h
    refine ⟨_, pss_one (ps_ost (pv 0) (pv 1)), ?_⟩
    exact ⟨_, rfl, _, rfl, a, CB, rfl, T.ox, T.nP, .inl ⟨ha, fun dx h1 h2 => k dx h1 h2⟩⟩
theorem scBad : FnScope ["text", "place", "part"] ["text"] (defScope sBad) := ⟨rfl, rfl, rfl, by decide +kernel, rfl, by decide +kernel, by decide +kernel⟩
theorem ok_bad {fd fdS : FuncData} (F : Fun K "bad_place" "bad_place" sBad fBad fd) (T : TxtN K mg fName fStep fEnds) (G_is_step : FnOk P w K mg base CX0 2 fStep fdS ["value"] spStep) (b_is_step : Binds K fdS ["value"] []) :
    FnOk P w K mg base CX0 3 fBad fd ["text"] (spBad K) := by
  have nd := scBad.nd
  refine F.ok scBad (fun vs H Q E h => ?_) (fun cdv A outer s H vs Q E hr h => ?_)
  · rcases h with ⟨x, t, rfl, _⟩ | ⟨z, rfl, _⟩
    · rfl
    · rfl
  · have hr_is_step : Room 2 _ := hr
    refine ⟨_, (pss_cons (ps_if (PW.pt (pw_or (pt_not (pt_val (pe_callB call_isi (by rfl) T.m_isinstance (by decide +kernel) (pa_cons (pv 0) (pa_cons (pe_bltn (v := .ty "str") (by rfl) T.m_str (by decide +kernel) rfl) pa_nil))))) (pw_or1 (pt_cmpR op_eq (pv 0) pe_str (nomark _))))) (pss_one (ps_ret pe_int)) pss_nil)
  (pss_cons (ps_set (i := 1) nd rfl (Or.inl rfl) pe_int)
  (pss_cons (ps_for PassesOwn.never rfl (pi_list (pe_split (pv 0) pe_str)) (pg_name (i := 2) nd rfl (Or.inl rfl))
  (pss_cons (ps_if (PW.pt (pw_and (pt_cmpR op_notIn_seq (pv 2) (pe_tup (pa_cons pe_str (pa_cons pe_str pa_nil))) (by rfl)) (pw_and1 (pt_not (pt_val (pe_call G_is_step hr_is_step (by rfl) T.g_is_step T.kp_is_step b_is_step .nil pass0 (pa_cons (pv 2) pa_nil))))))) (pss_one (ps_ret (pv 1))) pss_nil)
  (pss_one (ps_aug (i := 1) nd rfl (Or.inl rfl) (pe_op op_add (pe_callB call_len_str (by rfl) T.m_len (by decide +kernel) (pa_cons (pv 2) pa_nil)) pe_int) ip_add))))
  (pss_one (ps_ret pe_non))))), ?_⟩
    rcases h with ⟨x, t, rfl, ty, kt, k⟩ | ⟨z, rfl, hz, hps, kS, kN⟩
    · exact ⟨_, rfl, _, _, _, _, false, rfl, .ty _, ty, kt, _, rfl, iteT k⟩
    · refine ⟨_, rfl, _, _, _, _, true, rfl, .ty _, .base (.str z), rfl, _, rfl, ?_⟩
      refine iteF ?_
      refine ⟨_, rfl, rfl, _, rfl, ?_⟩
      by_cases h0 : z = ("" : Str)
      · rw [decide_eq_true (by rw [h0])]
        refine iteT ?_
        exact kS 0 (by unfold badP; rw [if_pos h0]) H (Same.refl H)
      · rw [decide_eq_false (fun q => h0 (V.str.inj q))]
        refine iteF ?_
        have eb : badP z = goBad 0 (partsOf z) := by unfold badP; rw [if_neg h0]
        refine ⟨_, rfl, ⟨z, rfl⟩, z, "/", rfl, rfl, by decide +kernel, hz, fun p hp => ⟨p, rfl, ⟨_, SqL.of upd_same⟩, ?_⟩⟩
        have s1 : Same H (upd H p (.lst ((partsOf z).map V.str))) := NG.Same.upd hp
        refine for_list (K := K) (a := p) (xs := (partsOf z).map V.str) (fun i σ H' => ∃ (n : Nat) (v : Option V), σ = [some (.str z), some (.int (n : Nat)), v] ∧ Same (upd H p (.lst ((partsOf z).map V.str))) H' ∧ badP z = goBad n ((partsOf z).drop i))
          ⟨0, none, rfl, Same.refl _, eb⟩ (fun i σ H' _ ⟨_, _, _, s2, _⟩ => SqL.of (s2 _ _ upd_same)) ?_ ?_
        · rintro i y σ H' hi ⟨n, v, rfl, s2, eg⟩
          obtain ⟨q, hq, rfl⟩ : ∃ q, (partsOf z)[i]? = some q ∧ y = V.str q := by
            rw [List.getElem?_map] at hi
            cases e : (partsOf z)[i]? with
            | none => rw [e] at hi; cases hi
            | some q => rw [e] at hi; exact ⟨q, rfl, (Option.some.inj hi).symm⟩
          have hdrop : (partsOf z).drop i = q :: (partsOf z).drop (i + 1) := by
            have hlt := (List.getElem?_eq_some_iff.mp hq).1
            rw [List.drop_eq_getElem_cons hlt, (List.getElem?_eq_some_iff.mp hq).2]
          have ql := hps q (List.mem_of_getElem? hq)
          rw [hdrop] at eg
          unfold goBad at eg
          have go : ∀ H2, Same H' H2 → badPart q = false → (tAug 1 (tOp (rI0 fun i j => V.int (i + j)) (tCB (fun xs H Q => ∃ z, xs = [V.str z] ∧ z.length ≤ sizeLine ∧ Q (V.int z.length) H) (tCons (tVar 2) tNil)) (tC (V.int 1))) (ipI fun i j => i + j)
              { nx := fun σ H' => ∃ (n : Nat) (v : Option V), σ = [some (.str z), some (.int (n : Nat)), v] ∧ Same (upd H p (.lst ((partsOf z).map V.str))) H' ∧ badP z = goBad n ((partsOf z).drop (i + 1)), rt := Q }
              [some (.str z), some (.int (n : Nat)), some (.str q)] H2) := fun H2 s3 hb => by
            refine ⟨_, rfl, _, rfl, _, rfl, ql, _, _, rfl, rfl, _, _, rfl, rfl, ?_⟩
            refine ⟨n + q.length + 1, some (.str q), ?_, s2.trans s3, ?_⟩
            · show [some (V.str z), some (V.int ((n : Int) + ((q.length : Int) + 1))), some (V.str q)] = _
              have : (n : Int) + ((q.length : Int) + 1) = ((n + q.length + 1 : Nat) : Int) := by omega
              rw [this]
            · rw [eg, hb]
              rfl
          refine ⟨_, rfl, (by show 2 ≤ sizeLine; decide), fun t ht => ⟨t, _, rfl, .inr (SqT.of upd_same), rfl, rfl, _, rfl, ?_⟩⟩
          have s3 : Same H' (upd H' t (.tup [.str "", .str "."])) := NG.Same.upd ht
          rw [inV2]
          cases hpl : plain q with
          | true =>
            have e1 : ((q == ("" : Str)) || (q == ("." : Str))) = true := hpl
            rw [e1]
            refine iteF ?_
            refine iteF ?_
            exact go _ s3 (by unfold badPart; rw [hpl]; rfl)
          | false =>
            have e1 : ((q == ("" : Str)) || (q == ("." : Str))) = false := hpl
            rw [e1]
            refine iteT ?_
            refine ⟨_, rfl, q, rfl, ql, fun H2 s4 => ⟨_, rfl, ?_⟩⟩
            cases hst : stepZ q with
            | true =>
              refine iteF ?_
              exact go _ (s3.trans s4) (by unfold badPart; rw [hst]; simp)
            | false =>
              refine iteT ?_
              refine ⟨_, rfl, ?_⟩
              have hb : badPart q = true := by unfold badPart; rw [hst, hpl]; rfl
              rw [hb, if_pos rfl] at eg
              exact kS n eg _ (s1.trans (s2.trans (s3.trans s4)))
        · rintro σ H' ⟨n, v, rfl, s2, eg⟩
          rw [List.length_map, List.drop_length] at eg
          exact kN eg _ (s1.trans s2)
end
end NW

set_option maxRecDepth 100000
set_option maxHeartbeats 4000000
namespace NW
open PySem L2 NG
def stepsOf (ps : List Str) : List Str := ps.filter fun p => !plain p
def absOf (ps : List Str) : Bool := match ps.head? with
  | none => false
  | some q => decide (q = ("" : Str))
def fol3 (q : Str) : Bool := q == ("" : Str) || (q == ("." : Str) || q == (".." : Str))
def folOf (ps : List Str) : Bool := match ps.getLast? with
  | none => false
  | some q => fol3 q
/-- z is read as the components ps -/
structure PartsAre (z : Str) (ps : List Str) : Prop where
  sp : partsOf z = ps
  ne : ps ≠ []
  ok : ∀ p ∈ ps, okS p
  zl : z.length + 2 ≤ sizeLine
  pl : ps.length < sizeLine
theorem goBad_none : ∀ {ps : List Str} {k : Nat}, goBad k ps = none → ∀ p ∈ ps, badPart p = false
  | [], _, _, p, hp => by cases hp
  | q :: r, k, h, p, hp => by
    unfold goBad at h
    cases hb : badPart q with
    | true => rw [hb, if_pos rfl] at h; cases h
    | false =>
      rw [hb, if_neg Bool.false_ne_true] at h
      rcases List.mem_cons.mp hp with rfl | hp
      · exact hb
      · exact goBad_none h p hp
theorem read_ok {z : Str} {ps : List Str} (A : PartsAre z ps) (h : badP z = none) : okPath (stepsOf ps) (folOf ps) = true := by
  have hb : ∀ p ∈ ps, badPart p = false := by
    unfold badP at h
    by_cases h0 : z = ("" : Str)
    · rw [if_pos h0] at h; cases h
    · rw [if_neg h0, A.sp] at h
      exact goBad_none h
  unfold okPath
  rw [Bool.and_eq_true]
  constructor
  · rw [List.all_eq_true]
    intro p hp
    have h1 := hb p (List.mem_filter.mp hp).1
    have h2 := (List.mem_filter.mp hp).2
    unfold badPart at h1
    rw [h2] at h1
    simpa using h1
  · rcases List.eq_nil_or_concat ps with e | ⟨ys, q, e⟩
    · exact absurd e A.ne
    · rw [List.concat_eq_append] at e
      subst e
      unfold folOf
      rw [List.getLast?_append]
      show (fol3 q || endsName (stepsOf (ys ++ [q]))) = true
      cases h3 : fol3 q with
      | true => rfl
      | false =>
        unfold fol3 at h3
        simp only [Bool.or_eq_false_iff] at h3
        have hpl : plain q = false := by unfold plain; simp [h3.1, h3.2.1]
        have : stepsOf (ys ++ [q]) = stepsOf ys ++ [q] := by
          unfold stepsOf
          rw [List.filter_append]
          congr 1
          simp [hpl]
        rw [this]
        unfold endsName
        rw [List.getLast?_append]
        have h4 : ¬ q = (".." : Str) := by simpa using h3.2.2
        show (!decide (q = (".." : Str))) = true
        rw [decide_eq_false h4]
        rfl
def spRead (K : PySem.W.Frag) (C CB : Addr) : Sp := fun vs H Q E => (∃ (x : V) (t : Value), vs = [x] ∧ TyX K H x t ∧ PySem.W.kitOne K t (.type "str") = some false ∧ ∀ d H', Same H H' → H d = none → H' d = some (.xd [("place", .int 0)]) → E (.ref CB) (some d) H') ∨
  (∃ (z : Str) (ps : List Str), vs = [.str z] ∧ PartsAre z ps ∧ (∀ n, badP z = some n → ∀ d H', Same H H' → H d = none → H' d = some (.xd [("place", .int (n : Nat))]) → E (.ref CB) (some d) H') ∧
    (badP z = none → ∀ p H', Same H H' → H p = none → PathAt K C H' p (stepsOf ps) (absOf ps) (folOf ps) → Q (.ref p) H'))
section
variable {P : Program} {w : World} {K : PySem.W.Frag} {mg : Str → Option Value} {base : Heap} {fName fStep fEnds C CN CB fI fBI fBad fRead : Addr}
theorem scRead : FnScope ["text", "place", "parts", "steps", "part"] ["text"] (defScope sRead) := ⟨rfl, rfl, rfl, by decide +kernel, rfl, by decide +kernel, by decide +kernel⟩
theorem ok_read {fd fdB fdI fdBI : FuncData} (F : Fun K "read_path" "read_path" sRead fRead fd) (T1 : TxtP K mg C CN) (T3 : TxtB K mg CB fBI fBad)
    (G_bad_place : FnOk P w K mg base CX0 3 fBad fdB ["text"] (spBad K)) (b_bad_place : Binds K fdB ["text"] []) (G_bti : FnOk P w K mg base CX0 1 fBI fdBI ["self", "place"] (spBTI K CB)) (b_bti : Binds K fdBI ["self", "place"] [])
    (M_Path : Mk K C fI) (G_Path : FnOk P w K mg base (L2.CX P w) 4 fI fdI ["self", "steps", "absolute", "folder"] (spPath K C CN)) (b_Path : Binds K fdI ["self", "steps", "absolute", "folder"] []) :
    FnOk P w K mg base (L2.CX P w) 6 fRead fd ["text"] (spRead K C CB) := by
  have nd := scRead.nd
  refine F.okX scRead (fun vs H Q E h => ?_) (fun cdv A outer s H vs Q E hr h => ?_)
  · rcases h with ⟨x, t, rfl, _⟩ | ⟨z, ps, rfl, _⟩
    · rfl
    · rfl
  · have hr_bad_place : Room 3 _ := hr.mono (by decide)
    have hr_bti : Room 2 _ := hr.mono (by decide)
    have hr_Path : Room 5 _ := hr
    refine ⟨_, (pss_cons (ps_set (i := 1) nd rfl (Or.inl rfl) (pe_call G_bad_place hr_bad_place (by rfl) T3.g_bad_place T3.kp_bad_place b_bad_place .nil pass0 (pa_cons (pv 0) pa_nil)))
  (pss_cons (ps_if (pt_cmp (pc_notN (pv 1))) (pss_one (ps_raise rfl (takes_of rfl rfl rfl rfl) (pmk_oex T3.ox T3.iC T3.tI G_bti hr_bti b_bti .nil pass0 (by rfl) T3.gB (pa_cons (pv 1) pa_nil)))) pss_nil)
  (pss_cons (ps_set (i := 2) nd rfl (Or.inl rfl) (pe_split (pv 0) pe_str))
  (pss_cons (ps_setLc (i := 3) (own := [("part", 4)]) (tt := tTest (tOp (rIn K true) (tVar 4) (tTup (tCons (tC (V.str "")) (tCons (tC (V.str ".")) tNil))))) rfl nd rfl rfl (sw_true rfl rfl rfl (by decide +kernel)) (pi_list (pv 2)) (blkOk_by (N := ["text", "place", "parts", "steps", "part"]) (sc := defScope sRead) (by decide +kernel)) (fun _ _ _ _ _ => (pg_name (i := 4) nd rfl (Or.inl rfl))) (fun _ _ _ _ _ => pts_one (pt_cmpR op_notIn_seq (pv 4) (pe_tup (pa_cons pe_str (pa_cons pe_str pa_nil))) (by rfl))) (fun _ _ _ _ _ => (pv 4)))
  (pss_one (ps_ret (pe_make M_Path G_Path hr_Path (by rfl) T1.g_Path b_Path .nil (passes_call takes0 (fun _ _ _ _ h => h)) (pa_cons (pv 3) (pa_cons (pe_cmpR op_eq (pe_ix ix_list (pv 2) pe_int (fun _ _ => rfl)) pe_str (nomark _)) (pa_cons (pe_cmpR op_in_seq (pe_ix ix_list (pv 2) (pe_un un_neg pe_int) (fun _ _ => rfl)) (pe_tup (pa_cons pe_str (pa_cons pe_str (pa_cons pe_str pa_nil)))) (by rfl)) pa_nil)))))))))), ?_⟩
    -- what raise BadText(place) leads to
    have rz : ∀ (x : V) (n : Int) (H1 : Hp), Same H H1 → (∀ d H', Same H H' → H d = none → H' d = some (.xd [("place", .int n)]) → E (.ref CB) (some d) H') →
        tMkO CB (spBTI K CB) [] (tCons (tVar 1) tNil) [some x, some (.int n), none, none, none] H1 (fun cls d H' => E cls d H') := fun x n H1 s1 k => by
      refine ⟨_, rfl, (by show 1 ≤ 1000; decide), fun a ha => ⟨a, _, rfl, upd_same, fun dx h1 h2 => ⟨rfl, dx, [("place", .int n)], upd_same, ?_, ?_, ?_⟩⟩⟩
      · rw [upd_ne h2, upd_same]
      · rw [upd_ne h2] at h1; exact h1
      · have h1' : H1 dx = none := by rw [upd_ne h2] at h1; exact h1
        refine k dx _ (fun b o e => ?_) (s1.free h1') upd_same
        have e1 := s1 _ _ e
        have nb : b ≠ dx := ne_of_none e1 h1'
        have na : b ≠ a := ne_of_none e1 ha
        rw [upd_ne nb, del_ne na, upd_ne na, upd_ne nb, upd_ne na]
        exact e1
    rcases h with ⟨x, t, rfl, ty, kt, k⟩ | ⟨z, ps, rfl, A1, kS, kN⟩
    · refine ⟨_, rfl, .inl ⟨x, t, rfl, ty, kt, ?_⟩⟩
      refine ⟨_, rfl, _, rfl, ?_⟩
      refine iteT ?_
      exact rz x 0 H (Same.refl H) k
    · obtain ⟨esp, hne, hok, hzl, hpl⟩ := id A1
      refine ⟨_, rfl, .inr ⟨z, rfl, hzl, fun p hp => (hok p (esp ▸ hp)).1, fun n en H1 s1 => ?_, fun en H1 s1 => ?_⟩⟩
      · refine ⟨_, rfl, _, rfl, ?_⟩
        refine iteT ?_
        exact rz (.str z) n H1 s1 (kS n en)
      · refine ⟨_, rfl, _, rfl, ?_⟩
        refine iteF ?_
        refine ⟨_, rfl, ⟨z, rfl⟩, z, "/", rfl, rfl, by decide +kernel, hzl, fun q hq => ?_⟩
        have s2 : Same H1 (upd H1 q (.lst ((Txt.split z "/").map V.str))) := NG.Same.upd hq
        have eq0 : (upd H1 q (.lst ((Txt.split z "/").map V.str))) q = some (.lst (ps.map V.str)) := by rw [upd_same, ← esp]; rfl
        have hxl : (ps.map V.str).length < sizeLine := by rw [List.length_map]; exact hpl
        let pS : V → Bool := fun v => match v with | .str z => !plain z | _ => false
        have efl : ((ps.map V.str).filter pS).map (fun v => v) = (stepsOf ps).map V.str := by
          rw [List.map_id', List.filter_map]
          rfl
        refine ⟨_, rfl, q, rfl, ⟨_, SqL.of eq0⟩, fun D hD => lc_gen (walk_list (K := K) (a := q)) pS (fun v => v) hxl hD (fun H' s => SqL.of (s _ _ eq0)) (fun k x H4 R hk s4 hR => ?_) (fun k x H4 R hk _ s4 hR => ⟨_, rfl, hR _ (Same.refl _)⟩) (fun H4 s4 e4 => ?_)⟩
        · obtain ⟨zz, rfl⟩ : ∃ zz, x = V.str zz := by
            rw [List.getElem?_map] at hk
            cases e : ps[k]? with
            | none => rw [e] at hk; cases hk
            | some zz => rw [e] at hk; exact ⟨zz, (Option.some.inj hk).symm⟩
          refine ⟨_, rfl, (by show 2 ≤ sizeLine; decide), fun t ht => ⟨t, _, rfl, .inr (SqT.of upd_same), rfl, rfl, _, rfl, ?_⟩⟩
          rw [inV2]
          exact hR _ (NG.Same.upd ht)
        · rw [efl] at e4
          have eq4 : H4 q = some (.lst (ps.map V.str)) := s4 _ _ eq0
          obtain ⟨q0, r0, e0⟩ : ∃ q0 r0, ps = q0 :: r0 := by
            cases ps with
            | nil => exact absurd rfl hne
            | cons a b => exact ⟨a, b, rfl⟩
          obtain ⟨ys, ql, el⟩ : ∃ ys ql, ps = ys ++ [ql] := by
            rcases List.eq_nil_or_concat ps with e | ⟨ys, q, e⟩
            · exact absurd e hne
            · rw [List.concat_eq_append] at e; exact ⟨ys, q, e⟩
          refine ⟨_, rfl, _, rfl, q, _, _, .str q0, rfl, rfl, SqL.of eq4, atI_nat (j := 0) (by rw [e0]; rfl), rfl, ?_⟩
          refine ⟨_, rfl, _, rfl, q, _, _, .str ql, rfl, rfl, SqL.of eq4, (by rw [el, List.map_append]; exact atI_last _ _), (by show 3 ≤ sizeLine; decide), fun t ht => ⟨t, _, rfl, .inr (SqT.of upd_same), rfl, rfl, ?_⟩⟩
          intro x dx hx hdx hne'
          have e1 : decide (V.str q0 = V.str "") = absOf ps := by
            rw [e0]
            show _ = decide (q0 = ("" : Str))
            by_cases h : q0 = ("" : Str)
            · simp [h]
            · rw [decide_eq_false h, decide_eq_false (fun z => h (V.str.inj z))]
          have e2 : (if false = true then !inV (V.str ql) [V.str "", V.str ".", V.str ".."] else inV (V.str ql) [V.str "", V.str ".", V.str ".."]) = folOf ps := by
            have : folOf ps = fol3 ql := by rw [el]; unfold folOf; rw [List.getLast?_append]; rfl
            rw [this]
            show ((("" : Str) == ql) || ((("." : Str) == ql) || (((".." : Str) == ql) || false))) = _
            rw [Bool.or_false, Bool.beq_comm (a := ("" : Str)), Bool.beq_comm (a := ("." : Str)), Bool.beq_comm (a := (".." : Str))]
            rfl
          have s5 : Same H4 (upd H4 t (.tup [.str "", .str ".", .str ".."])) := NG.Same.upd ht
          have sA : Same H (upd H4 t (.tup [.str "", .str ".", .str ".."])) := s1.trans (s2.trans (s4.trans s5))
          have nDd : D ≠ dx := ne_of_none (s5 _ _ e4) hdx
          have nDx : D ≠ x := ne_of_none (s5 _ _ e4) hx
          refine ⟨x, dx, D, stepsOf ps, absOf ps, folOf ps, ?_, upd_same, .inl (SqL.of (by rw [upd_ne nDx, upd_ne nDd]; exact s5 _ _ e4)), fun zz hzz => (hok zz (List.mem_filter.mp hzz).1).1,
            Nat.lt_of_le_of_lt (List.length_filter_le _ _) hpl, fun hO H' b5 p5 => ⟨rfl, ?_⟩, fun hO => ?_⟩
          · show [V.ref x, V.ref D, V.bl (decide (V.str q0 = V.str "")), V.bl _] = _
            rw [e1]
            congr 4
            exact congrArg V.bl e2
          · refine kN en x H' (fun b o e => ?_) (sA.free hx) p5
            have eb := sA _ _ e
            exact b5 b o (by rw [upd_ne (ne_of_none eb hx), upd_ne (ne_of_none eb hdx)]; exact eb) (ne_of_none eb hx)
          · rw [read_ok A1 en] at hO; cases hO
end
end NW

set_option maxRecDepth 100000
set_option maxHeartbeats 4000000
namespace NW
open PySem L2 NG
def textP (xs : List Str) (ab fo : Bool) : Str :=
  let t1 := if ab then ("/" : Str) ++ Txt.join "/" xs else Txt.join "/" xs
  let t2 := if fo && endsName xs then t1 ++ ("/" : Str) else t1
  if t2 = ("" : Str) then (".":Str) else t2
def spText (K : PySem.W.Frag) (C : Addr) : Sp := fun vs H Q _ => ∃ (p : Addr) (xs : List Str) (ab fo : Bool), vs = [.ref p] ∧ PathAt K C H p xs ab fo ∧ (xs.map (·.length)).sum + xs.length ≤ 1000000 ∧ Q (.str (textP xs ab fo)) H
theorem len_app (x y : Str) : (x ++ y).length = x.length + y.length := by
  rw [TL.len_tl, TL.len_tl x, TL.len_tl y, TL.tl_append, List.length_append]
section
variable {P : Program} {w : World} {K : PySem.W.Frag} {mg : Str → Option Value} {base : Heap} {fName fStep fEnds C CN fText : Addr}
theorem len_join_le (xs : List Str) : (Txt.join "/" xs).length ≤ (xs.map (·.length)).sum + xs.length := by
  have h : ("/" : Str).length = 1 := by decide +kernel
  rw [TL.join_eq]
  induction xs with
  | nil => show (Str.join "/" []).length ≤ 0; exact Nat.le_refl 0
  | cons x r ih =>
    cases r with
    | nil => show x.length ≤ _; simp
    | cons y q =>
      show (x ++ ("/" : Str) ++ Str.join "/" (y :: q)).length ≤ _
      rw [len_app, len_app, h]
      simp only [List.map_cons, List.sum_cons, List.length_cons] at ih ⊢
      omega
theorem scText : FnScope ["path", "text"] ["path"] (defScope sText) := ⟨rfl, rfl, rfl, by decide +kernel, rfl, by decide +kernel, by decide +kernel⟩
theorem ok_text {fd fdE : FuncData} (F : Fun K "path_text" "path_text" sText fText fd) (T : TxtN K mg fName fStep fEnds) (T1 : TxtP K mg C CN) (G_ends_with_name : FnOk P w K mg base CX0 1 fEnds fdE ["steps"] (spEnds K)) (b_ends_with_name : Binds K fdE ["steps"] []) :
    FnOk P w K mg base CX0 2 fText fd ["path"] (spText K C) := by
  have nd := scText.nd
  refine F.ok scText (fun vs H Q E h => ?_) (fun cdv A outer s H vs Q E hr h => ?_)
  · obtain ⟨p, xs, ab, fo, rfl, _⟩ := h
    rfl
  · obtain ⟨p, xs, ab, fo, rfl, ⟨dx, t, hp, ht⟩, hl, k⟩ := h
    have hr_ends_with_name : Room 1 _ := hr
    refine ⟨_, (pss_cons (ps_set (i := 1) nd rfl (Or.inl rfl) (pe_join pe_str (pe_fld (pv 0) rfl)))
  (pss_cons (ps_if (pt_val (pe_fld (pv 0) rfl)) (pss_one (ps_set (i := 1) nd rfl (Or.inl rfl) (pe_op op_add_str pe_str (pv 1)))) pss_nil)
  (pss_cons (ps_if (PW.pt (pw_and (pt_val (pe_fld (pv 0) rfl)) (pw_and1 (pt_val (pe_call G_ends_with_name hr_ends_with_name (by rfl) T.g_ends_with_name T.kp_ends_with_name b_ends_with_name .nil pass0 (pa_cons (pe_fld (pv 0) rfl) pa_nil)))))) (pss_one (ps_set (i := 1) nd rfl (Or.inl rfl) (pe_op op_add_str (pv 1) pe_str))) pss_nil)
  (pss_cons (ps_if (pt_cmpR op_eq (pv 1) pe_str (nomark _)) (pss_one (ps_ret pe_str)) pss_nil)
  (pss_one (ps_ret (pv 1))))))), ?_⟩
    have hj := len_join_le xs
    have h1 : ("/" : Str).length = 1 := by decide +kernel
    have hs : sizeLine = 16777216 := sizeLine_eq
    refine ⟨⟨"/", rfl⟩, _, rfl, p, C, dx, _, _, rfl, hp, T1.cl, T1.nS, pfl_steps _ _ _, "/", t, xs, rfl, rfl, .inr ht, (by rw [h1]; omega), ?_⟩
    refine ⟨_, rfl, p, C, dx, _, _, rfl, hp, T1.cl, T1.nA, pfl_abs _ _ _, _, rfl, ?_⟩
    have last : ∀ (t1 : Str), t1.length ≤ 2000000 → textP xs ab fo = (if ((if fo && endsName xs then t1 ++ ("/" : Str) else t1) : Str) = ("" : Str) then (".":Str) else (if fo && endsName xs then t1 ++ ("/" : Str) else t1)) →
        (tSeq (tIfS (tAnd (tB (tFld K (tVar 0) "folder")) (tB (tCall (spEnds K) [] E0 (tCons (tFld K (tVar 0) "steps") tNil)))) (tAsg (tOp (fun x y H Q => ∃ i j, x = V.str i ∧ y = V.str j ∧ i.length + j.length ≤ sizeLine ∧ Q (V.str (i ++ j)) H) (tVar 1) (tC (.str "/"))) (gName 1)) tNext)
          (tSeq (tIfS (tTest (tOp rEq (tVar 1) (tC (.str "")))) (tRet (tC (.str "."))) tNext) (tRet (tVar 1))) : TS) { nx := fun _ H' => Q .non H', rt := Q } [some (.ref p), some (.str t1)] H := fun t1 ht1 et => by
      have fin : ∀ t2 : Str, textP xs ab fo = (if t2 = ("" : Str) then (".":Str) else t2) → (tSeq (tIfS (tTest (tOp rEq (tVar 1) (tC (.str "")))) (tRet (tC (.str "."))) tNext) (tRet (tVar 1)) : TS) { nx := fun _ H' => Q .non H', rt := Q } [some (.ref p), some (.str t2)] H := fun t2 e2 => by
        refine ⟨_, rfl, rfl, _, rfl, ?_⟩
        by_cases h0 : t2 = ("" : Str)
        · rw [decide_eq_true (by rw [h0])]
          rw [if_pos h0] at e2
          rw [e2] at k
          exact iteT k
        · rw [decide_eq_false (fun q => h0 (V.str.inj q))]
          rw [if_neg h0] at e2
          rw [e2] at k
          exact iteF ⟨_, rfl, k⟩
      refine ⟨_, rfl, p, C, dx, _, _, rfl, hp, T1.cl, T1.nF, pfl_fo _ _ _, _, rfl, ?_⟩
      cases fo with
      | false =>
        refine iteF (iteF ?_)
        exact fin t1 et
      | true =>
        refine iteT ⟨_, rfl, p, C, dx, _, _, rfl, hp, T1.cl, T1.nS, pfl_steps _ _ _, t, xs, rfl, ht, _, rfl, ?_⟩
        cases he : endsName xs with
        | false =>
          refine iteF ?_
          rw [he] at et
          exact fin t1 et
        | true =>
          refine iteT ⟨_, rfl, _, _, rfl, rfl, (by rw [h1]; omega), ?_⟩
          rw [he] at et
          exact fin _ et
    cases ab with
    | false =>
      refine iteF ?_
      exact last _ (by omega) rfl
    | true =>
      refine iteT ⟨_, rfl, _, _, rfl, rfl, (by rw [h1]; omega), ?_⟩
      exact last _ (by rw [len_app, h1]; omega) rfl
end
end NW

set_option maxRecDepth 100000
set_option maxHeartbeats 4000000
namespace NG
open PySem L2
theorem fnOk_or {P : Program} {w : World} {K : PySem.W.Frag} {mg : Str → Option Value} {base : Heap} {CX : CXT} {k : Nat} {f : Addr} {fd : FuncData} {ps : List Str} {a b : Sp} (h : FnOk P w K mg base CX k f fd ps a) (h' : FnOk P w K mg base CX k f fd ps b) :
    FnOk P w K mg base CX k f fd ps (fun vs H Q E => a vs H Q E ∨ b vs H Q E) := by
  refine ⟨fun vs H Q E q => ?_, ?_⟩
  · rcases q with q | q
    · exact h.len _ _ _ _ q
    · exact h'.len _ _ _ _ q
  · intro A ST s H g us vs Q E hr e0 bi r q
    rcases q with q | q
    · exact h.run A ST s H g us vs Q E hr e0 bi r q
    · exact h'.run A ST s H g us vs Q E hr e0 bi r q
theorem op_eqOwnK {X : Cx} {n : Nat} {C f : Addr} {fd : FuncData} {ps : List Str} {sp : Sp} {CX : CXT} {E : XK} (K : PySem.W.Frag) (hK : X.K = K) (F : FnOk X.prog X.w X.K X.mg X.base CX n f fd ps sp) (hr : Room n X.A) (hs : PySem.W.findIn X.K (.ref C) "__eq__" = some (some (.ref f))) (hf : PySem.W.isFn X.K (.ref f) = true) (hb : Binds X.K fd ps []) (hx : Passes CX X E) :
    OpR X (compareOp .Eq) (rOwn K C sp E fun k => k) := hK ▸ op_eqOwn F hr hs hf hb hx
theorem pe_fldK {X : Cx} (K : PySem.W.Frag) (hK : X.K = K) {e : Expr} {te : TE} {f : Str} {pos : Pos} (he : PE X e te) (hb : attributeBase e f X.env (eval e X.env) = eval e X.env) : PE X (.Attribute e f pos) (tFld K te f) := hK ▸ pe_fld he hb
end NG
namespace NW
open PySem L2 NG
/-- a step that is no text -/
def Odd (H : Hp) (v : V) : Prop := v = .non ∨ (∃ n, v = .int n) ∨ ∃ a, v = .ref a ∧ H a = some (.tup [.str "a"])
theorem Odd.ty {K : PySem.W.Frag} {H : Hp} {v : V} (h : Odd H v) : ∃ t, TyX K H v t ∧ PySem.W.kitOne K t (.type "str") = some false := by
  rcases h with rfl | ⟨n, rfl⟩ | ⟨a, rfl, e⟩
  · exact ⟨_, .base .non, rfl⟩
  · exact ⟨_, .base (.int n), rfl⟩
  · exact ⟨_, .base (.tup e), rfl⟩
theorem Odd.dp {K : PySem.W.Frag} {H : Hp} {v : V} (h : Odd H v) : ∃ d, Dp K H v d ∧ SeqAt.shaped d = true ∧ PyData.eqv d (.str "..") = false := by
  rcases h with rfl | ⟨n, rfl⟩ | ⟨a, rfl, e⟩
  · exact ⟨.none, .non, by decide +kernel, by decide +kernel⟩
  · refine ⟨.int n, .int n, ?_, ?_⟩
    · unfold SeqAt.shaped
      simp [PyData.canLay0, PyData.depth]
    · simp [PyData.eqv]
  · exact ⟨.tuple [.str "a"], .tup (SqT.of e) (.cons (.str "a") .nil), by decide +kernel, by decide +kernel⟩
theorem Odd.mono {H H' : Hp} {v : V} (h : Odd H v) (s : Same H H') : Odd H' v := h.imp id fun h => h.imp id fun ⟨a, e, h⟩ => ⟨a, e, s _ _ h⟩
def spNameO : Sp := fun vs H Q _ => ∃ v, vs = [v] ∧ Odd H v ∧ Q (.bl false) H
section
variable {P : Program} {w : World} {K : PySem.W.Frag} {mg : Str → Option Value} {base : Heap} {fName fStep fEnds C CN fI fE : Addr}
theorem ok_nameO {fd : FuncData} (F : Fun K "is_name" "is_name" sName fName fd) (T : TxtN K mg fName fStep fEnds) : FnOk P w K mg base CX0 1 fName fd ["value"] spNameO := by
  have nd := scName.nd
  obtain ⟨t1, g1⟩ := T.g_LONGEST_NAME
  obtain ⟨t2, g2⟩ := T.g_NAME_LETTERS
  refine F.ok scName (fun vs H Q E h => ?_) (fun cdv A outer s H vs Q E hr h => ?_)
  · obtain ⟨z, rfl, _⟩ := h
    rfl
  · obtain ⟨v, rfl, o, k⟩ := h
    refine ⟨_, (pss_cons (ps_if (PW.pt (pw_or (pt_not (pt_val (pe_callB call_isi (by rfl) T.m_isinstance (by decide +kernel) (pa_cons (pv 0) (pa_cons (pe_bltn (v := .ty "str") (by rfl) T.m_str (by decide +kernel) rfl) pa_nil))))) (pw_or1 (pt_not (pt_chain op_le op_le pe_int (pe_callB call_len_str (by rfl) T.m_len (by decide +kernel) (pa_cons (pv 0) pa_nil)) (pe_glob (v := .int 12) (by rfl) g1 ⟨_, rfl⟩)))))) (pss_one (ps_ret pe_bl)) pss_nil)
  (pss_cons (ps_if (pt_cmpR op_in_seq (pv 0) (pe_tup (pa_cons pe_str (pa_cons pe_str pa_nil))) (by rfl)) (pss_one (ps_ret pe_bl)) pss_nil)
  (pss_one (ps_ret (pe_callB (cr_all rfl) (by rfl) T.m_all (by decide +kernel) (pa_cons (pe_lc (own := [("letter", 1)]) rfl nd (pi_str (pv 0)) (blkOk_by (N := ["value", "letter"]) (sc := defScope sName) (by decide +kernel)) (fun _ _ _ _ _ => (pg_name (i := 1) nd rfl (Or.inl rfl))) (fun _ _ _ _ _ => pts_nil) (fun _ _ _ _ _ => (pe_cmpR op_in_sign (pv 1) (pe_glob (v := .str letters) (by rfl) g2 ⟨_, rfl⟩) (by rfl)))) pa_nil)))))), ?_⟩
    obtain ⟨t, ty, kt⟩ := o.ty (K := K)
    refine ⟨_, rfl, _, _, _, _, false, rfl, .ty _, ty, kt, _, rfl, ?_⟩
    exact iteT (iteT k)
theorem ok_stepO {fd fdN : FuncData} (F : Fun K "is_step" "is_step" sStep fStep fd) (T : TxtN K mg fName fStep fEnds) (G_is_name : FnOk P w K mg base CX0 1 fName fdN ["value"] spNameO) (b_is_name : Binds K fdN ["value"] []) :
    FnOk P w K mg base CX0 2 fStep fd ["value"] spNameO := by
  have nd := scStep.nd
  refine F.ok scStep (fun vs H Q E h => ?_) (fun cdv A outer s H vs Q E hr h => ?_)
  · obtain ⟨z, rfl, _⟩ := h
    rfl
  · obtain ⟨v, rfl, o, k⟩ := h
    have hr_is_name : Room 1 _ := hr
    refine ⟨_, (pss_one (ps_ret (pe_or (pe_call G_is_name hr_is_name (by rfl) T.g_is_name T.kp_is_name b_is_name .nil pass0 (pa_cons (pv 0) pa_nil)) (pe_one (pe_cmpR (op_eqD hr.units) (pv 0) pe_str (nomark _)))))), ?_⟩
    obtain ⟨d, dp, sh, e⟩ := o.dp (K := K)
    refine ⟨_, rfl, v, rfl, o, _, rfl, ?_⟩
    refine iteF ⟨_, rfl, d, _, dp, .str "..", sh, by decide +kernel, ?_⟩
    rw [e]
    exact k
/-! ### Path of any steps -/
def ItV (H : Hp) (v : V) : Prop := (∃ z, v = .str z ∧ okS z) ∨ Odd H v
theorem ItV.mono {H H' : Hp} {v : V} (h : ItV H v) (s : Same H H') : ItV H' v := h.imp id fun o => o.mono s
def stepV (v : V) : Bool := match v with | .str z => stepZ z | _ => false
theorem stepV_odd {H : Hp} {v : V} (h : Odd H v) : stepV v = false := by
  rcases h with rfl | ⟨n, rfl⟩ | ⟨a, rfl, e⟩ <;> rfl
def spPathX (K : PySem.W.Frag) (C CN : Addr) : Sp := fun vs H Q E => ∃ (p dx a : Addr) (ws : List V) (ab fo : Bool), vs = [.ref p, .ref a, .bl ab, .bl fo] ∧ H p = some (.ins C dx []) ∧ SqLT K H a ws ∧ (∀ v ∈ ws, ItV H v) ∧ ws.length < sizeLine ∧
  (∀ xs, ws = xs.map V.str → okPath xs fo = true → ∀ H', But p H H' → PathAt K C H' p xs ab fo → Q .non H') ∧ ((∀ xs, ws = xs.map V.str → okPath xs fo = false) → ∀ H', But p H H' → E (.ref CN) none H')
def spStepX : Sp := fun vs H Q E => spStep vs H Q E ∨ spNameO vs H Q E
theorem ItV.but {H H' : Hp} {p : Addr} {o : HO} {v : V} (h : ItV H v) (hp : H p = some o) (no : ∀ xs, o ≠ .tup xs) (b : But p H H') : ItV H' v := by
  rcases h with h | h | h | ⟨a, rfl, e⟩
  · exact .inl h
  · exact .inr (.inl h)
  · exact .inr (.inr (.inl h))
  · exact .inr (.inr (.inr ⟨a, rfl, b _ _ e (fun q => by rw [q, hp] at e; exact no _ (Option.some.inj e))⟩))
theorem strs_step : ∀ {ws : List V}, ws.all stepV = true → ∃ xs : List Str, ws = xs.map V.str ∧ xs.all stepZ = true
  | [], _ => ⟨[], rfl, rfl⟩
  | v :: r, h => by
    rw [List.all_cons, Bool.and_eq_true] at h
    obtain ⟨xs, rfl, hx⟩ := strs_step h.2
    cases v with
    | str z => exact ⟨z :: xs, rfl, by rw [List.all_cons, hx, Bool.and_true]; exact h.1⟩
    | _ => exact absurd h.1 (by show ¬ false = true; exact Bool.false_ne_true)
theorem step_strs (xs : List Str) : (xs.map V.str).all stepV = xs.all stepZ := by rw [List.all_map]; rfl
theorem str_inj : ∀ {xs ys : List Str}, xs.map V.str = ys.map V.str → xs = ys
  | [], [], _ => rfl
  | [], _ :: _, h => by cases h
  | _ :: _, [], h => by cases h
  | x :: r, y :: q, h => by
    simp only [List.map_cons, List.cons.injEq, V.str.injEq] at h
    rw [h.1, str_inj h.2]
theorem ok_pinitX {fd fdS fdE : FuncData} (F : Fun K "__init__" "Path.__init__" sInit fI fd) (T0 : TxtN K mg fName fStep fEnds) (T : TxtP K mg C CN)
    (G_is_step : FnOk P w K mg base CX0 2 fStep fdS ["value"] spStepX) (b_is_step : Binds K fdS ["value"] []) (G_ends_with_name : FnOk P w K mg base CX0 1 fEnds fdE ["steps"] (spEnds K)) (b_ends_with_name : Binds K fdE ["steps"] []) :
    FnOk P w K mg base (L2.CX P w) 4 fI fd ["self", "steps", "absolute", "folder"] (spPathX K C CN) := by
  have nd := scInit.nd
  refine F.okX scInit (fun vs H Q E h => ?_) (fun cdv A outer s H vs Q E hr h => ?_)
  · obtain ⟨p, dx, a, xs, ab, fo, rfl, _⟩ := h
    rfl
  · obtain ⟨p, dx, a, ws, ab, fo, rfl, hp, hS, hz, hl, kO, kE⟩ := h
    have hr_is_step : Room 2 _ := hr.mono (by decide)
    have hr_ends_with_name : Room 1 _ := hr.mono (by decide)
    refine ⟨_, (pss_cons (ps_fld (pv 0) (pe_callTy call_tuple_of (by rfl) T.m_tuple (by decide +kernel) (pa_cons (pv 1) pa_nil)) rfl)
  (pss_cons (ps_fld (pv 0) (pv 2) rfl)
  (pss_cons (ps_fld (pv 0) (pv 3) rfl)
  (pss_cons (ps_if (pt_not (pt_val (pe_callB (cr_all rfl) (by rfl) T0.m_all (by decide +kernel) (pa_cons (pe_lc (own := [("step", 4)]) rfl nd (pi_tup (pe_fld (pv 0) rfl)) (blkOk_by (N := ["self", "steps", "absolute", "folder", "step"]) (sc := defScope sInit) (by decide +kernel)) (fun _ _ _ _ _ => (pg_name (i := 4) nd rfl (Or.inl rfl))) (fun _ _ _ _ _ => pts_nil) (fun _ _ _ _ _ => (pe_call G_is_step hr_is_step (by rfl) T0.g_is_step T0.kp_is_step b_is_step .nil pass0 (pa_cons (pv 4) pa_nil)))) pa_nil)))) (pss_one (ps_raise rfl (takes_of rfl rfl rfl rfl) (pmk_own0 PySem.F.excBase_ValueError T.xP T.gP T.kP (raises_own T.bP T.tP) rfl))) pss_nil)
  (pss_one (ps_if (PW.pt (pw_and (pt_not (pt_val (pv 3))) (pw_and1 (pt_not (pt_val (pe_call G_ends_with_name hr_ends_with_name (by rfl) T0.g_ends_with_name T0.kp_ends_with_name b_ends_with_name .nil pass0 (pa_cons (pe_fld (pv 0) rfl) pa_nil))))))) (pss_one (ps_raise rfl (takes_of rfl rfl rfl rfl) (pmk_own0 PySem.F.excBase_ValueError T.xP T.gP T.kP (raises_own T.bP T.tP) rfl))) pss_nil)))))), ?_⟩
    refine ⟨_, rfl, a, ws, rfl, ?_⟩
    have e0 : But p H H := But.refl p H
    have l2 : ∀ t, (putF "absolute" (.bl ab) (putF "steps" (V.ref t) [])).length < 1000 := fun t => by
      have a1 := len_putF "absolute" (.bl ab) (putF "steps" (V.ref t) [])
      have a2 := len_putF "steps" (V.ref t) []
      simp only [List.length_nil] at a2
      omega
    let fS : V → V := fun v => .bl (stepV v)
    have hall : ws.map fS = (ws.map stepV).map V.bl := by
      rw [List.map_map]
      rfl
    have hall2 : (ws.map stepV).all id = ws.all stepV := by rw [List.all_map]; rfl
    have rest : ∀ (H3 : Hp) (t : Addr), But p H H3 → H3 p = some (.ins C dx (pfl t ab fo)) → SqT K H3 t ws →
        (tSeq (tIfS (tNot (tB (tCB (rAll K) (tCons (tLc (iTup K (tFld K (tVar 0) "steps")) (gName 4) tYes (tCall spStepX [] E0 (tCons (tVar 4) tNil)) [4]) tNil)))) (fun _ _ H => E (.ref CN) none H) tNext)
          (tIfS (tAnd (tNot (tB (tVar 3))) (tNot (tB (tCall (spEnds K) [] E0 (tCons (tFld K (tVar 0) "steps") tNil))))) (fun _ _ H => E (.ref CN) none H) tNext) : TS)
          { nx := fun _ H' => Q .non H', rt := Q } (start ["self", "steps", "absolute", "folder", "step"] [.ref p, .ref a, .bl ab, .bl fo]) H3 := fun H3 t b3 p3 q3 => by
      refine ⟨_, rfl, p, C, dx, _, _, rfl, p3, T.cl, T.nS, pfl_steps _ _ _, t, rfl, ⟨_, q3⟩, fun D hD => lc_map (walk_tup (K := K) (a := t)) fS hl hD (fun H s => Same.sqT s q3) (fun k x H4 R hk s4 hR => ?_) (fun H4 s4 e4 => ?_)⟩
      · have hx := hz x (List.mem_of_getElem? hk)
        rcases hx with ⟨z, rfl, hzz⟩ | o
        · exact ⟨_, rfl, .inl ⟨z, rfl, hzz.1, fun H' s' => hR H' s'⟩⟩
        · have o4 : ItV H4 x := ((ItV.but (.inr o) hp (by intro _ q; cases q) b3).mono s4)
          have o5 : Odd H4 x := by
            rcases o4 with ⟨z, rfl, _⟩ | o4
            · rcases o with q | ⟨n, q⟩ | ⟨a, q, _⟩ <;> cases q
            · exact o4
          refine ⟨_, rfl, .inr ⟨x, rfl, o5, ?_⟩⟩
          have := hR H4 (Same.refl _)
          rw [← stepV_odd o]
          exact this
      · rw [hall] at e4
        refine ⟨D, ws.map stepV, rfl, SqL.of e4, _, rfl, ?_⟩
        rw [hall2]
        have b4 := b3.same s4
        have p4 := s4 _ _ p3
        have q4 := Same.sqT s4 q3
        cases ha : ws.all stepV with
        | false =>
          refine iteT ?_
          refine kE (fun xs ex => ?_) _ b4
          rw [ex, step_strs] at ha
          unfold okPath; rw [ha]; rfl
        | true =>
          obtain ⟨xs, rfl, ha'⟩ := strs_step ha
          have fin : ∀ (H' : Hp), But p H H' → H' p = some (.ins C dx (pfl t ab fo)) → SqT K H' t (xs.map V.str) → okPath xs fo = true → Q .non H' := fun H' b1 b2 b3 b4 => kO xs rfl b4 H' b1 ⟨⟨dx, t, b2, b3⟩⟩
          refine iteF ?_
          refine ⟨_, rfl, _, rfl, ?_⟩
          cases fo with
          | true =>
            refine iteF (iteF ?_)
            exact fin _ b4 p4 q4 (by unfold okPath; rw [ha']; rfl)
          | false =>
            refine iteT ⟨_, rfl, p, C, dx, _, _, rfl, p4, T.cl, T.nS, pfl_steps _ _ _, t, xs, rfl, q4, _, rfl, ?_⟩
            cases he : endsName xs with
            | true =>
              refine iteF ?_
              exact fin _ b4 p4 q4 (by unfold okPath; rw [ha', he]; rfl)
            | false =>
              refine iteT ?_
              refine kE (fun ys ey => ?_) _ b4
              rw [← str_inj ey]
              unfold okPath; rw [ha', he]; rfl
    rcases hS with hS | hS
    · refine .inl ⟨hS, fun t ht => ?_⟩
      have npt : p ≠ t := ne_of_none hp ht
      refine ⟨_, rfl, p, C, dx, _, rfl, by rw [upd_ne npt]; exact hp, T.cl, T.nS, (by show 0 < 1000; decide), ?_⟩
      refine ⟨_, rfl, _, rfl, p, C, dx, _, rfl, upd_same, T.cl, T.nA, (by show 1 < 1000; decide), ?_⟩
      refine ⟨_, rfl, _, rfl, p, C, dx, _, rfl, upd_same, T.cl, T.nF, l2 _, ?_⟩
      refine rest _ t ?_ upd_same ?_
      · exact (((But.ofSame (NG.Same.upd ht)).upd).upd).upd
      · exact SqT.of (by rw [upd_ne npt.symm, upd_ne npt.symm, upd_ne npt.symm, upd_same])
    · refine .inr ⟨hS, ?_⟩
      refine ⟨_, rfl, p, C, dx, _, rfl, hp, T.cl, T.nS, (by show 0 < 1000; decide), ?_⟩
      refine ⟨_, rfl, _, rfl, p, C, dx, _, rfl, upd_same, T.cl, T.nA, (by show 1 < 1000; decide), ?_⟩
      refine ⟨_, rfl, _, rfl, p, C, dx, _, rfl, upd_same, T.cl, T.nF, l2 _, ?_⟩
      have bb : ∀ o1 o2 o3, But p H (upd (upd (upd H p o1) p o2) p o3) := fun o1 o2 o3 => ((e0.upd).upd).upd
      exact rest _ a (bb _ _ _) upd_same (But.sqT hp (bb _ _ _) hS)
/-! ### Path and what is none -/
def spEqO (K : PySem.W.Frag) (C : Addr) : Sp := fun vs H Q _ => ∃ (p dx : Addr) (fs : List (Str × V)) (y : V) (t : Value), vs = [.ref p, y] ∧ H p = some (.ins C dx fs) ∧ TyX K H y t ∧ PySem.W.kitOne K t (.ref C) = some false ∧ Q (.bl false) H
theorem ok_peqO {fd : FuncData} (F : Fun K "__eq__" "Path.__eq__" sEq fE fd) (T0 : TxtN K mg fName fStep fEnds) (T : TxtP K mg C CN) :
    FnOk P w K mg base CX0 1 fE fd ["self", "other"] (spEqO K C) := by
  have nd := scEq.nd
  refine F.ok scEq (fun vs H Q E h => ?_) (fun cdv A outer s H vs Q E hr h => ?_)
  · obtain ⟨p, dx, fs, y, t, rfl, _⟩ := h
    rfl
  · obtain ⟨p, dx, fs, y, t, rfl, hp, ty, kt, k⟩ := h
    refine ⟨_, (pss_one (ps_ret (pe_and (pe_callB call_isi (by rfl) T0.m_isinstance (by decide +kernel) (pa_cons (pv 1) (pa_cons (pe_glob (v := .ref C) (by rfl) T.g_Path rfl) pa_nil))) (pe_and (pe_cmpR (op_eqD hr.units) (pe_fld (pv 0) rfl) (pe_fld (pv 1) rfl) (nomark _)) (pe_and (pe_cmpR op_eq (pe_fld (pv 0) rfl) (pe_fld (pv 1) rfl) (nomark _)) (pe_one (pe_cmpR op_eq (pe_fld (pv 0) rfl) (pe_fld (pv 1) rfl) (nomark _)))))))), ?_⟩
    refine ⟨_, rfl, _, _, _, _, false, rfl, .own C, ty, kt, _, rfl, ?_⟩
    exact iteF k
end
end NW

set_option maxRecDepth 100000
set_option maxHeartbeats 4000000
namespace NG
open PySem L2
theorem strs_of {R : Str → Prop} : ∀ {xs : List V}, (∀ x ∈ xs, ∃ z, x = V.str z ∧ R z) → ∃ ys : List Str, xs = ys.map V.str ∧ ∀ z ∈ ys, R z
  | [], _ => ⟨[], rfl, by simp⟩
  | x :: r, h => by
    obtain ⟨z, rfl, hz⟩ := h x List.mem_cons_self
    obtain ⟨ys, rfl, hy⟩ := strs_of (xs := r) fun y hy => h y (List.mem_cons_of_mem _ hy)
    refine ⟨z :: ys, rfl, fun q hq => ?_⟩
    rcases List.mem_cons.mp hq with rfl | hq
    · exact hz
    · exact hy q hq
theorem mem_joinL {c : Nat} {S : List Nat} : ∀ {ps : List (List Nat)}, c ∈ TL.joinL S ps → c ∈ S ∨ ∃ p ∈ ps, c ∈ p
  | [], h => by cases h
  | [p], h => .inr ⟨p, List.mem_cons_self, h⟩
  | p :: q :: r, h => by
    rcases List.mem_append.mp (show c ∈ p ++ (S ++ TL.joinL S (q :: r)) from h) with h | h
    · exact .inr ⟨p, List.mem_cons_self, h⟩
    · rcases List.mem_append.mp h with h | h
      · exact .inl h
      · rcases mem_joinL h with h | ⟨x, hx, h⟩
        · exact .inl h
        · exact .inr ⟨x, List.mem_cons_of_mem _ hx, h⟩
theorem mem_join {c : Nat} {y : Str} {ps : List Str} (h : c ∈ (Txt.join y ps).cps.toList) : c ∈ y.cps.toList ∨ ∃ p ∈ ps, c ∈ p.cps.toList := by
  rw [TL.join_eq] at h
  have h' : c ∈ TL.tl (Str.join y ps) := h
  rw [TL.tl_join] at h'
  rcases mem_joinL h' with h | ⟨x, hx, h⟩
  · exact .inl h
  · obtain ⟨p, hp, rfl⟩ := List.mem_map.mp hx
    exact .inr ⟨p, hp, h⟩
end NG
namespace NW
open PySem L2 NG
theorem len_join_gen (y : Str) (xs : List Str) : (Txt.join y xs).length ≤ (xs.map (·.length)).sum + xs.length * y.length := by
  rw [TL.join_eq]
  induction xs with
  | nil => show (Str.join y []).length ≤ _; exact Nat.zero_le _
  | cons x r ih =>
    cases r with
    | nil => show x.length ≤ _; simp only [List.map_cons, List.sum_cons]; omega
    | cons z q =>
      show (x ++ y ++ Str.join y (z :: q)).length ≤ _
      rw [len_app, len_app]
      simp only [List.map_cons, List.sum_cons, List.length_cons] at ih ⊢
      rw [Nat.add_mul (q.length + 1) 1, Nat.one_mul]
      omega
/-- a component that may be drawn -/
def compB (z : Str) : Bool := decide (z.length ≤ 5000) && z.cps.toList.all (fun c => decide (c < 128) && decide (c ≠ 47))
theorem compB_ok {z : Str} (h : compB z = true) : okS z := by
  unfold compB at h
  rw [Bool.and_eq_true] at h
  refine ⟨Nat.le_trans (of_decide_eq_true h.1) (by decide), ?_⟩
  rw [← Array.all_toList, List.all_eq_true]
  intro c hc
  have := List.all_eq_true.mp h.2 c hc
  simp only [Bool.and_eq_true, decide_eq_true_eq] at this
  simp only [decide_eq_true_eq]
  omega
theorem compB_sl {z : Str} (h : compB z = true) : 47 ∉ z.cps.toList := by
  unfold compB at h
  rw [Bool.and_eq_true] at h
  intro hc
  have := List.all_eq_true.mp h.2 47 hc
  simp at this
theorem compB_len {z : Str} (h : compB z = true) : z.length ≤ 5000 := by
  unfold compB at h
  rw [Bool.and_eq_true] at h
  exact of_decide_eq_true h.1
theorem long_a : compB (Txt.mul "a" 5000) = true := by
  have e : (Txt.mul "a" 5000).cps.toList = List.replicate 5000 97 := by
    have h1 : ("a" : Str).cps = #[97] := by decide +kernel
    have h2 : Txt.mul "a" 5000 = ⟨(List.replicate 5000 ("a" : Str).cps).foldl (· ++ ·) #[]⟩ := by
      unfold Txt.mul
      rw [if_neg (by decide), if_neg (by decide +kernel)]
      rfl
    rw [h2, foldl_app, h1]
    show [] ++ (List.replicate 5000 [97]).flatten = _
    rw [List.nil_append]
    have : ∀ k : Nat, (List.replicate k [97]).flatten = List.replicate k 97 := fun k => by
      induction k with
      | zero => rfl
      | succ k ih => rw [List.replicate_succ, List.flatten_cons, ih, List.replicate_succ]; rfl
    exact this 5000
  unfold compB
  rw [e, Bool.and_eq_true]
  refine ⟨decide_eq_true ?_, ?_⟩
  · rw [TL.len_tl]
    show (Txt.mul "a" 5000).cps.toList.length ≤ 5000
    rw [e, List.length_replicate]
    exact Nat.le_refl _
  · rw [List.all_eq_true]
    intro c hc
    rw [(List.mem_replicate.mp hc).2]
    decide
def shortP (xs : List Str) (ab fo : Bool) : Str := if xs = [] then (if ab then ("/" : Str) else ("." : Str)) else
  (if ab then ("/" : Str) else ("" : Str)) ++ Txt.join "/" xs ++ (if fo && endsName xs then ("/" : Str) else ("" : Str))
theorem len_zero {p : Str} (h : p.length = 0) : p = ("" : Str) := by
  apply TL.ext_tl
  have : (TL.tl p).length = 0 := by rw [← TL.len_tl]; exact h
  rw [List.eq_nil_of_length_eq_zero this]
  decide +kernel
theorem goBad_cons (n : Nat) (q : Str) (r : List Str) : goBad n (q :: r) = if badPart q then some n else goBad (n + q.length + 1) r := rfl
end NW

set_option maxRecDepth 100000
set_option maxHeartbeats 4000000
namespace NW
open PySem L2 NG
theorem tl_slash : TL.tl ("/" : Str) = [47] := by decide +kernel
theorem tl_empty : TL.tl ("" : Str) = [] := by decide +kernel
theorem parts_join {ps : List Str} (hne : ps ≠ []) (hp : ∀ p ∈ ps, compB p = true) : partsOf (Txt.join "/" ps) = ps :=
  TL.split_join (s := 47) (S := []) tl_slash (by decide +kernel) hne fun p h => compB_sl (hp p h)
theorem sum_len {ps : List Str} (hp : ∀ p ∈ ps, compB p = true) : (ps.map (·.length)).sum ≤ ps.length * 5000 := by
  induction ps with
  | nil => simp
  | cons x r ih =>
    have h1 := compB_len (hp x List.mem_cons_self)
    have h2 := ih fun p h => hp p (List.mem_cons_of_mem _ h)
    simp only [List.map_cons, List.sum_cons, List.length_cons]
    omega
theorem parts_are {ps : List Str} (hne : ps ≠ []) (hp : ∀ p ∈ ps, compB p = true) (hl : ps.length ≤ 20) : PartsAre (Txt.join "/" ps) ps := by
  have h1 := len_join_le ps
  have h2 := sum_len hp
  have hs : sizeLine = 16777216 := sizeLine_eq
  exact ⟨parts_join hne hp, hne, fun p h => compB_ok (hp p h), by omega, by omega⟩
theorem goBad_of : ∀ {ps : List Str} {k : Nat}, (∀ p ∈ ps, badPart p = false) → goBad k ps = none
  | [], _, _ => rfl
  | q :: r, k, h => by
    rw [goBad_cons, h q List.mem_cons_self, if_neg (by decide)]
    exact goBad_of fun p hp => h p (List.mem_cons_of_mem _ hp)
/-- joined lists -/
theorem jl_cons (S p : List Nat) (r : List (List Nat)) (h : r ≠ []) : TL.joinL S (p :: r) = p ++ (S ++ TL.joinL S r) := by
  cases r with
  | nil => exact absurd rfl h
  | cons q r => rfl
theorem jl_snoc (S q : List Nat) : ∀ (ps : List (List Nat)), ps ≠ [] → TL.joinL S (ps ++ [q]) = TL.joinL S ps ++ (S ++ q)
  | [], h => absurd rfl h
  | [p], _ => rfl
  | p :: z :: r, _ => by
    have ih := jl_snoc S q (z :: r) (by simp)
    rw [List.cons_append, jl_cons _ _ _ (by simp), ih, jl_cons _ _ (z :: r) (by simp)]
    simp only [List.append_assoc]
theorem tl_joinT (ps : List Str) : TL.tl (Txt.join "/" ps) = TL.joinL [47] (ps.map TL.tl) := by rw [TL.join_eq, TL.tl_join, tl_slash]
/-- the components that the shortest text has -/
def backOf (xs : List Str) (ab fo : Bool) : List Str := if xs = [] then (if ab then [("" : Str), ""] else [("." : Str)]) else
  (if ab then [("" : Str)] else []) ++ xs ++ (if fo && endsName xs then [("" : Str)] else [])
theorem short_join (xs : List Str) (ab fo : Bool) : shortP xs ab fo = Txt.join "/" (backOf xs ab fo) := by
  unfold shortP backOf
  by_cases h : xs = []
  · rw [if_pos h, if_pos h]
    cases ab <;> (apply TL.ext_tl; decide +kernel)
  · rw [if_neg h, if_neg h]
    apply TL.ext_tl
    rw [tl_joinT, TL.tl_append, TL.tl_append, tl_joinT]
    have hm : xs.map TL.tl ≠ [] := fun q => h (List.map_eq_nil_iff.mp q)
    have e1 : ∀ zs : List (List Nat), zs ≠ [] → TL.joinL [47] ((if ab then [("" : Str)] else []).map TL.tl ++ zs) = TL.tl (if ab then ("/" : Str) else ("" : Str)) ++ TL.joinL [47] zs := fun zs hz => by
      cases ab with
      | true =>
        show TL.joinL [47] (TL.tl "" :: zs) = TL.tl ("/" : Str) ++ _
        rw [jl_cons _ _ _ hz, tl_empty, tl_slash]
        rfl
      | false =>
        show TL.joinL [47] zs = TL.tl ("" : Str) ++ _
        rw [tl_empty]
        rfl
    cases fo && endsName xs with
    | true =>
      have m : ((if ab then [("" : Str)] else []) ++ xs ++ [("" : Str)]).map TL.tl = (if ab then [("" : Str)] else []).map TL.tl ++ (xs.map TL.tl ++ [[]]) := by
        rw [List.map_append, List.map_append, List.append_assoc, List.map_cons, List.map_nil, tl_empty]
      show _ = TL.joinL [47] (((if ab then [("" : Str)] else []) ++ xs ++ [("" : Str)]).map TL.tl)
      rw [m, e1 _ (by simp), jl_snoc _ _ _ hm]
      show _ ++ TL.tl ("/" : Str) = _
      rw [tl_slash, List.append_assoc]
      rfl
    | false =>
      have m : ((if ab then [("" : Str)] else []) ++ xs ++ []).map TL.tl = (if ab then [("" : Str)] else []).map TL.tl ++ xs.map TL.tl := by
        rw [List.append_nil, List.map_append]
      show _ = TL.joinL [47] (((if ab then [("" : Str)] else []) ++ xs ++ []).map TL.tl)
      rw [m, e1 _ hm]
      show _ ++ TL.tl ("" : Str) = _
      rw [tl_empty, List.append_nil]
theorem stepZ_ne {z : Str} (h : stepZ z = true) : plain z = false := by
  unfold stepZ nameZ at h
  unfold plain
  by_cases h0 : z = ("" : Str)
  · subst h0
    exact absurd h (by decide +kernel)
  · by_cases h1 : z = ("." : Str)
    · subst h1
      exact absurd h (by decide +kernel)
    · simp [h0, h1]
/-- what is read back -/
structure Back (xs : List Str) (ab fo : Bool) : Prop where
  ne : backOf xs ab fo ≠ []
  cb : ∀ p ∈ backOf xs ab fo, compB p = true
  bad : ∀ p ∈ backOf xs ab fo, badPart p = false
  st : stepsOf (backOf xs ab fo) = xs
  ab' : absOf (backOf xs ab fo) = ab
  fo' : folOf (backOf xs ab fo) = fo
  nz : Txt.join "/" (backOf xs ab fo) ≠ ("" : Str)
theorem back {xs : List Str} {ab fo : Bool} (hc : ∀ p ∈ xs, compB p = true) (ok : okPath xs fo = true) : Back xs ab fo := by
  unfold okPath at ok
  rw [Bool.and_eq_true] at ok
  obtain ⟨hs, hf⟩ := ok
  rw [List.all_eq_true] at hs
  have pe : plain ("" : Str) = true := by decide +kernel
  have pd : plain ("." : Str) = true := by decide +kernel
  have ce : compB ("" : Str) = true := by decide +kernel
  have cd : compB ("." : Str) = true := by decide +kernel
  have be : badPart ("" : Str) = false := by unfold badPart; rw [pe]; rfl
  have bd : badPart ("." : Str) = false := by unfold badPart; rw [pd]; rfl
  by_cases h : xs = []
  · subst h
    have hfo : fo = true := by
      have : endsName [] = false := rfl
      rw [this, Bool.or_false] at hf
      exact hf
    subst hfo
    cases ab with
    | true =>
      have e : backOf [] true true = [("" : Str), ""] := rfl
      refine ⟨by rw [e]; simp, fun p hp => ?_, fun p hp => ?_, ?_, ?_, ?_, ?_⟩
      · rw [e] at hp; simp at hp; rw [hp]; exact ce
      · rw [e] at hp; simp at hp; rw [hp]; exact be
      · rw [e]; unfold stepsOf; simp [pe]
      · rw [e]; decide +kernel
      · rw [e]; decide +kernel
      · rw [e]; decide +kernel
    | false =>
      have e : backOf [] false true = [("." : Str)] := rfl
      refine ⟨by rw [e]; simp, fun p hp => ?_, fun p hp => ?_, ?_, ?_, ?_, ?_⟩
      · rw [e] at hp; simp at hp; rw [hp]; exact cd
      · rw [e] at hp; simp at hp; rw [hp]; exact bd
      · rw [e]; unfold stepsOf; simp [pd]
      · rw [e]; decide +kernel
      · rw [e]; decide +kernel
      · rw [e]; decide +kernel
  · have e : backOf xs ab fo = (if ab then [("" : Str)] else []) ++ xs ++ (if fo && endsName xs then [("" : Str)] else []) := by unfold backOf; rw [if_neg h]
    have mem : ∀ p ∈ backOf xs ab fo, p = ("" : Str) ∨ p ∈ xs := fun p hp => by
      rw [e] at hp
      rcases List.mem_append.mp hp with hp | hp
      · rcases List.mem_append.mp hp with hp | hp
        · left; cases ab <;> simp at hp; exact hp
        · exact .inr hp
      · left; cases hq : fo && endsName xs <;> rw [hq] at hp <;> simp at hp; exact hp
    obtain ⟨x0, r0, e0⟩ : ∃ x0 r0, xs = x0 :: r0 := by
      cases xs with
      | nil => exact absurd rfl h
      | cons a b => exact ⟨a, b, rfl⟩
    obtain ⟨ys, ql, el⟩ : ∃ ys ql, xs = ys ++ [ql] := by
      rcases List.eq_nil_or_concat xs with q | ⟨ys, q, e⟩
      · exact absurd q h
      · exact ⟨ys, q, by rw [e, List.concat_eq_append]⟩
    have pl : ∀ p ∈ xs, plain p = false := fun p hp => stepZ_ne (hs p hp)
    have px0 : plain x0 = false := pl x0 (by rw [e0]; exact List.mem_cons_self)
    have nx0 : x0 ≠ ("" : Str) := fun q => by rw [q, pe] at px0; cases px0
    refine ⟨fun q => ?_, fun p hp => ?_, fun p hp => ?_, ?_, ?_, ?_, ?_⟩
    · rw [e] at q
      have := congrArg List.length q
      rw [e0] at this
      simp at this
    · rcases mem p hp with rfl | hp
      · exact ce
      · exact hc p hp
    · rcases mem p hp with rfl | hp
      · exact be
      · unfold badPart
        rw [hs p hp]
        simp
    · rw [e]
      unfold stepsOf
      rw [List.filter_append, List.filter_append]
      have f1 : (if ab then [("" : Str)] else []).filter (fun p => !plain p) = [] := by cases ab <;> simp [pe]
      have f2 : (if fo && endsName xs then [("" : Str)] else []).filter (fun p => !plain p) = [] := by cases fo && endsName xs <;> simp [pe]
      have f3 : xs.filter (fun p => !plain p) = xs := List.filter_eq_self.mpr fun p hp => by rw [pl p hp]; rfl
      rw [f1, f2, f3, List.nil_append, List.append_nil]
    · rw [e]
      cases ab with
      | true =>
        show decide (("" : Str) = ("" : Str)) = true
        exact decide_eq_true rfl
      | false =>
        rw [e0]
        show decide (x0 = ("" : Str)) = false
        exact decide_eq_false nx0
    · rw [e]
      cases hq : fo && endsName xs with
      | true =>
        have hfo : fo = true := (Bool.and_eq_true_iff.mp hq).1
        rw [if_pos rfl, hfo]
        unfold folOf
        rw [List.getLast?_append]
        show fol3 ("" : Str) = true
        decide +kernel
      | false =>
        rw [if_neg (show ¬ (false = true) by decide), List.append_nil]
        have eg : ∀ pre : List Str, folOf (pre ++ xs) = fol3 ql := fun pre => by
          rw [el, ← List.append_assoc]
          unfold folOf
          rw [List.getLast?_append]
          rfl
        rw [eg]
        have en : endsName xs = !decide (ql = (".." : Str)) := by
          rw [el]
          unfold endsName
          rw [List.getLast?_append]
          rfl
        have pq : plain ql = false := pl ql (by rw [el]; simp)
        have f3 : fol3 ql = decide (ql = (".." : Str)) := by
          unfold plain at pq
          rw [Bool.or_eq_false_iff] at pq
          unfold fol3
          rw [pq.1, pq.2, Bool.false_or, Bool.false_or]
          by_cases hh : ql = (".." : Str)
          · simp [hh]
          · simp [hh]
        rw [f3]
        rw [en] at hq hf
        cases fo with
        | true =>
          rw [Bool.true_and] at hq
          simpa using hq
        | false =>
          rw [Bool.false_or] at hf
          simpa using hf
    · intro q
      have q1 := congrArg TL.tl q
      rw [tl_joinT, tl_empty, e] at q1
      have x1 : TL.tl x0 ≠ [] := fun z => nx0 (TL.ext_tl (by rw [z, tl_empty]))
      have key : ∀ (a b : List (List Nat)), TL.joinL [47] (a ++ TL.tl x0 :: b) ≠ [] := fun a b => by
        induction a with
        | nil =>
          cases b with
          | nil => exact x1
          | cons c d =>
            rw [List.nil_append, jl_cons _ _ _ (by simp)]
            intro z
            exact x1 (List.append_eq_nil_iff.mp z).1
        | cons c d ih =>
          rw [List.cons_append, jl_cons _ _ _ (by simp)]
          intro z
          have := (List.append_eq_nil_iff.mp (List.append_eq_nil_iff.mp z).2).1
          cases this
      rw [e0] at q1
      rw [List.map_append, List.map_append, List.map_cons, List.append_assoc, List.cons_append] at q1
      exact key _ _ q1
theorem text_short {xs : List Str} {ab fo : Bool} (ok : okPath xs fo = true) : textP xs ab fo = shortP xs ab fo := by
  have hs : ∀ z ∈ xs, stepZ z = true := by
    unfold okPath at ok
    rw [Bool.and_eq_true] at ok
    exact List.all_eq_true.mp ok.1
  unfold textP shortP
  by_cases h : xs = []
  · subst h
    rw [if_pos rfl]
    have : endsName [] = false := rfl
    rw [this, Bool.and_false]
    cases ab <;> decide +kernel
  · rw [if_neg h]
    have e1 : (if ab then ("/" : Str) ++ Txt.join "/" xs else Txt.join "/" xs) = (if ab then ("/" : Str) else ("" : Str)) ++ Txt.join "/" xs := by
      cases ab with
      | true => rfl
      | false => apply TL.ext_tl; rw [TL.tl_append]; show _ = TL.tl ("" : Str) ++ _; rw [tl_empty]; rfl
    rw [e1]
    dsimp only
    have e2 : ∀ t : Str, (if fo && endsName xs then t ++ ("/" : Str) else t) = t ++ (if fo && endsName xs then ("/" : Str) else ("" : Str)) := fun t => by
      cases fo && endsName xs with
      | true => rfl
      | false => apply TL.ext_tl; rw [TL.tl_append]; show _ = _ ++ TL.tl ("" : Str); rw [tl_empty, List.append_nil]; rfl
    rw [e2]
    rw [if_neg]
    intro q
    have q1 := congrArg TL.tl q
    rw [TL.tl_append, TL.tl_append, tl_joinT, tl_empty] at q1
    have q2 := (List.append_eq_nil_iff.mp (List.append_eq_nil_iff.mp q1).1).2
    cases xs with
    | nil => exact h rfl
    | cons x r =>
      have nx : plain x = false := stepZ_ne (hs x List.mem_cons_self)
      have x1 : TL.tl x ≠ [] := fun z => by
        have : x = ("" : Str) := TL.ext_tl (by rw [z, tl_empty])
        rw [this] at nx
        exact absurd nx (by decide +kernel)
      cases r with
      | nil => exact x1 q2
      | cons y s =>
        rw [List.map_cons, jl_cons _ _ _ (by simp)] at q2
        exact x1 (List.append_eq_nil_iff.mp q2).1
theorem cut_abs {ps : List Str} (hp : ∀ p ∈ ps, compB p = true) (hz : Txt.join "/" ps ≠ ("" : Str)) : decide (cutS (Txt.join "/" ps) none (some 1) = ("/" : Str)) = absOf ps := by
  have e : TL.tl (cutS (Txt.join "/" ps) none (some 1)) = (TL.tl (Txt.join "/" ps)).take (HT.sIx (Txt.join "/" ps).length (Txt.join "/" ps).length (some 1) - 0) := rfl
  have hl : 1 ≤ (Txt.join "/" ps).length := by
    rcases Nat.eq_zero_or_pos (Txt.join "/" ps).length with h | h
    · exact absurd (len_zero h) hz
    · exact h
  have hi : HT.sIx (Txt.join "/" ps).length (Txt.join "/" ps).length (some 1) = 1 := by
    exact (HT.sIx_nat _ _ 1).trans (Nat.min_eq_left hl)
  rw [hi] at e
  have iff : cutS (Txt.join "/" ps) none (some 1) = ("/" : Str) ↔ (TL.tl (Txt.join "/" ps)).take 1 = [47] := by
    constructor
    · intro h
      have := congrArg TL.tl h
      rw [e, tl_slash] at this
      exact this
    · intro h
      apply TL.ext_tl
      rw [e, tl_slash]
      exact h
  cases ps with
  | nil => exact absurd (by decide +kernel) hz
  | cons x r =>
    show _ = decide (x = ("" : Str))
    have hx := compB_sl (hp x List.mem_cons_self)
    have : cutS (Txt.join "/" (x :: r)) none (some 1) = ("/" : Str) ↔ x = ("" : Str) := by
      rw [iff, tl_joinT, List.map_cons]
      cases hx1 : TL.tl x with
      | nil =>
        have ex : x = ("" : Str) := TL.ext_tl (by rw [hx1, tl_empty])
        constructor
        · intro _; exact ex
        · intro _
          cases r with
          | nil =>
            refine absurd ?_ hz
            rw [ex]
            decide +kernel
          | cons y s =>
            rw [jl_cons _ _ _ (by simp)]
            rfl
      | cons c t =>
        have hc : c ≠ 47 := fun q => hx (by
          have : c ∈ TL.tl x := by rw [hx1]; exact List.mem_cons_self
          rw [q] at this
          exact this)
        have nx : x ≠ ("" : Str) := fun q => by rw [q, tl_empty] at hx1; cases hx1
        constructor
        · intro h
          cases r with
          | nil =>
            have : [c] = [47] := h
            exact absurd (List.cons.inj this).1 hc
          | cons y s =>
            rw [jl_cons _ _ _ (by simp)] at h
            have : [c] = [47] := h
            exact absurd (List.cons.inj this).1 hc
        · intro h; exact absurd h nx
    by_cases h : x = ("" : Str)
    · rw [decide_eq_true h, decide_eq_true (this.mpr h)]
    · rw [decide_eq_false h, decide_eq_false fun q => h (this.mp q)]
end NW

set_option maxRecDepth 100000
set_option maxHeartbeats 8000000
namespace NW
open PySem L2 NG
abbrev sSaid : Stmt := top 20
abbrev sLaw : Stmt := top 21
def spEqX (K : PySem.W.Frag) (C : Addr) : Sp := fun vs H Q E => spEqP K C vs H Q E ∨ spEqO K C vs H Q E
theorem let_ok : ∀ c ∈ letters.cps.toList, (decide (c < 128) && decide (c ≠ 47)) = true := by decide +kernel
theorem step_comp {z : Str} (h : stepZ z = true) : compB z = true := by
  unfold stepZ at h
  rw [Bool.or_eq_true] at h
  rcases h with h | h
  · unfold nameZ at h
    rw [Bool.and_eq_true, Bool.and_eq_true, Bool.and_eq_true] at h
    obtain ⟨⟨⟨_, h2⟩, _⟩, h4⟩ := h
    unfold compB
    rw [Bool.and_eq_true]
    refine ⟨decide_eq_true (Nat.le_trans (of_decide_eq_true h2) (by decide)), ?_⟩
    rw [List.all_eq_true] at h4 ⊢
    exact fun c hc => let_ok c (of_decide_eq_true (h4 c hc))
  · rw [of_decide_eq_true h]
    decide +kernel
theorem comp_of {xs : List Str} {fo : Bool} (h : okPath xs fo = true) : ∀ z ∈ xs, compB z = true := fun z hz => by
  unfold okPath at h
  rw [Bool.and_eq_true, List.all_eq_true] at h
  exact step_comp (h.1 z hz)
def spSaid (K : PySem.W.Frag) : Sp := fun vs H Q _ => ∃ (a : Addr) (ws : List V) (ab fo : Bool), vs = [.ref a, .bl ab, .bl fo] ∧ SqLT K H a ws ∧ (∀ v ∈ ws, ItV H v) ∧ ws.length ≤ 10 ∧
  (∀ xs, ws = xs.map V.str → okPath xs fo = true → ∀ t u H', Same H H' → H' t = some (.tup [.ref u, .bl ab, .bl fo, .bl true]) → SqT K H' u (xs.map V.str) → Q (.ref t) H') ∧
  ((∀ xs, ws = xs.map V.str → okPath xs fo = false) → ∀ H', Same H H' → Q (.str "nopath") H')
theorem back_len {xs : List Str} {ab fo : Bool} (h : xs.length ≤ 10) : (backOf xs ab fo).length ≤ 20 := by
  unfold backOf
  split
  · cases ab <;> simp
  · have : ((if ab then [("" : Str)] else []).length ≤ 1) := by cases ab <;> simp
    have : ((if fo && endsName xs then [("" : Str)] else []).length ≤ 1) := by cases fo && endsName xs <;> simp
    simp only [List.length_append]
    omega
structure TxtV (K : PySem.W.Frag) (mg : Str → Option Value) (CN fRead fText : Addr) : Prop where
  te : PySem.W.exmOne K (.ref CN) (.ref CN) = some true
  g_read : mg "read_path" = some (.ref fRead)
  kp_read : PySem.W.keepIn K (.ref fRead) = true
  g_text : mg "path_text" = some (.ref fText)
  kp_text : PySem.W.keepIn K (.ref fText) = true
section
variable {P : Program} {w : World} {K : PySem.W.Frag} {mg : Str → Option Value} {base : Heap} {fName fStep fEnds C CN CB fI fE fRead fText fSaid : Addr}
theorem scSaid : FnScope ["_law_steps", "_law_absolute", "_law_folder", "_law_found", "_law_path"] ["_law_steps", "_law_absolute", "_law_folder"] (defScope sSaid) := ⟨rfl, rfl, rfl, by decide +kernel, rfl, by decide +kernel, by decide +kernel⟩
theorem ok_said {fd fdR fdT fdI fdE : FuncData} (F : Fun K "_law_said" "_law_said" sSaid fSaid fd) (T : TxtP K mg C CN) (TC : TyC K C) (TE : EqC K C fE) (TV : TxtV K mg CN fRead fText)
    (G_read : FnOk P w K mg base (L2.CX P w) 6 fRead fdR ["text"] (spRead K C CB)) (b_read : Binds K fdR ["text"] [])
    (G_text : FnOk P w K mg base CX0 2 fText fdT ["path"] (spText K C)) (b_text : Binds K fdT ["path"] [])
    (M_Path : Mk K C fI) (G_Path : FnOk P w K mg base (L2.CX P w) 4 fI fdI ["self", "steps", "absolute", "folder"] (spPathX K C CN)) (b_Path : Binds K fdI ["self", "steps", "absolute", "folder"] [])
    (G_eq : FnOk P w K mg base CX0 1 fE fdE ["self", "other"] (spEqX K C)) (b_eq : Binds K fdE ["self", "other"] []) :
    FnOk P w K mg base CX0 7 fSaid fd ["_law_steps", "_law_absolute", "_law_folder"] (spSaid K) := by
  have nd := scSaid.nd
  refine F.ok scSaid (fun vs H Q E h => ?_) (fun cdv A outer s H vs Q E hr h => ?_)
  · obtain ⟨a, ws, ab, fo, rfl, _⟩ := h
    rfl
  · obtain ⟨a, ws, ab, fo, rfl, hS, hi, hl, kO, kE⟩ := h
    have hr1 : Room 1 _ := hr.mono (by decide)
    have hr2 : Room 2 _ := hr.mono (by decide)
    have hr5 : Room 5 _ := hr.mono (by decide)
    have hr6 : Room 6 _ := hr
    have hs : sizeLine = 16777216 := sizeLine_eq
    refine ⟨_, pss_cons (ps_set (i := 3) nd rfl (Or.inl rfl) pe_str) (pss_cons (ps_try_only rfl rfl ⟨rfl, by decide, .inl T.gP⟩ takes0
      (fun W pn xe tk _ => pss_cons (ps_set (i := 4) nd rfl (Or.inl rfl) (pe_makeS M_Path G_Path hr5 (by rfl) T.g_Path b_Path (fun σ => passAt tk σ) (pa_cons (pv 0) (pa_cons (pv 1) (pa_cons (pv 2) pa_nil)))))
        (pss_one (ps_set (i := 3) nd rfl (Or.inl rfl) (pe_tup (pa_cons (pe_fldK K rfl (pv 4) rfl) (pa_cons (pe_fldK K rfl (pv 4) rfl) (pa_cons (pe_fldK K rfl (pv 4) rfl) (pa_cons (pe_cmpR (op_eqOwnK K rfl G_eq hr1 TE.e1 TE.e2 b_eq pass0) (pe_callS G_read hr6 (by rfl) TV.g_read TV.kp_read b_read (fun σ => passAt tk σ) (pa_cons (pe_call G_text hr2 (by rfl) TV.g_text TV.kp_text b_text .nil pass0 (pa_cons (pv 4) pa_nil)) pa_nil)) (pv 4) (nomark _)) pa_nil))))))))
      (fun a oe cls d pn _ _ => pss_one (ps_set (i := 3) nd rfl (Or.inl rfl) pe_str))) (pss_one (ps_ret (pv 3)))), ?_⟩
    refine ⟨_, rfl, _, rfl, _, rfl, fun x dx hx hdx hne => ?_⟩
    have sx : ∀ H', But x (upd (upd H dx (.own x)) x (.ins C dx [])) H' → Same H H' := fun H' b c o e => b c o (by rw [upd_ne (ne_of_none e hx), upd_ne (ne_of_none e hdx)]; exact e) (ne_of_none e hx)
    have s0 : Same H (upd (upd H dx (.own x)) x (.ins C dx [])) := sx _ (But.refl _ _)
    refine ⟨x, dx, a, ws, ab, fo, rfl, upd_same, hS.imp (fun h => s0.seq h) (fun h => Same.sqT s0 h), fun v hv => ((hi v hv).mono s0), by omega, fun xs ex ok H1 b1 PX => ⟨rfl, ?_⟩, fun hb H1 b1 => ?_⟩
    · subst ex
      have s1 := sx _ b1
      have xc := comp_of ok
      have xl : xs.length ≤ 10 := by rw [List.length_map] at hl; exact hl
      have xk : ∀ q ∈ xs, okS q := fun q hq => compB_ok (xc q hq)
      have xsum := sum_len xc
      have BK := back (ab := ab) xc ok
      have PB : PartsAre (shortP xs ab fo) (backOf xs ab fo) := by rw [short_join]; exact parts_are BK.ne BK.cb (back_len xl)
      have nb : badP (shortP xs ab fo) = none := by
        unfold badP
        rw [if_neg (by rw [short_join]; exact BK.nz), PB.sp]
        exact goBad_of BK.bad
      obtain ⟨dx1, t1, p1, q1⟩ := id PX
      refine ⟨_, rfl, x, C, dx1, _, _, rfl, p1, T.cl, T.nS, pfl_steps _ _ _, _, rfl, x, C, dx1, _, _, rfl, p1, T.cl, T.nA, pfl_abs _ _ _, _, rfl, x, C, dx1, _, _, rfl, p1, T.cl, T.nF, pfl_fo _ _ _, ?_⟩
      refine ⟨_, rfl, x, xs, ab, fo, rfl, PX, (by omega), ?_⟩
      rw [text_short ok]
      refine .inr ⟨shortP xs ab fo, backOf xs ab fo, rfl, PB, fun m em => (by rw [nb] at em; cases em), fun _ x2 H2 s2 hx2 PZ => ?_⟩
      rw [BK.st, BK.ab', BK.fo'] at PZ
      obtain ⟨dz, tz, pz, qz⟩ := id PZ
      have p2 := s2 _ _ p1
      have PX2 : PathAt K C H2 x xs ab fo := ⟨⟨dx1, t1, p2, Same.sqT s2 q1⟩⟩
      have eqs : eqPath xs ab fo xs ab fo = true := by unfold eqPath; simp
      refine ⟨_, rfl, x2, dz, _, .ref C, rfl, pz, .base (.ins p2 T.cl TC.c1 TC.c2 TC.c3 TC.c4), nf_self, .inl ⟨x2, x, xs, xs, ab, fo, ab, fo, rfl, PZ, PX2, xk, xk, _, rfl, ?_⟩⟩
      rw [eqs]
      refine ⟨(by show 4 ≤ sizeLine; decide), fun t ht => ⟨_, rfl, ?_⟩⟩
      have s3 : Same H2 (upd H2 t (.tup [.ref t1, .bl ab, .bl fo, .bl true])) := NG.Same.upd ht
      exact kO xs rfl ok t t1 _ (s1.trans (s2.trans s3)) upd_same (Same.sqT s3 (Same.sqT s2 q1))
    · exact ⟨true, TV.te, fun _ a ha => ⟨_, rfl, kE hb _ (sx _ b1)⟩, fun q => nomatch q⟩
end
end NW

set_option maxRecDepth 100000
set_option maxHeartbeats 8000000
namespace NW
open PySem L2 NG
def spLaw (K : PySem.W.Frag) : Sp := fun vs H Q _ => ∃ (a : Addr) (ns : List Int), vs = [.ref a] ∧ SqL K H a (ns.map V.int) ∧ ns.length ≤ 63 ∧ ∀ H', Q (.bl true) H'
structure TxtW (K : PySem.W.Frag) (mg : Str → Option Value) (fState fDigit fSaid : Addr) : Prop where
  m_range : mg "range" = none
  g_digit : mg "_law_digit" = some (.ref fDigit)
  kp_digit : PySem.W.keepIn K (.ref fDigit) = true
  g_state : mg "_law_state" = some (.ref fState)
  kp_state : PySem.W.keepIn K (.ref fState) = true
  g_said : mg "_law_said" = some (.ref fSaid)
  kp_said : PySem.W.keepIn K (.ref fSaid) = true
/-- what == of a path and what is none asks -/
structure TxtX (K : PySem.W.Frag) (C : Addr) : Prop where
  ct : PySem.W.subIn K (.ref C) (.type "tuple") = some false
  cs : PySem.W.subIn K (.ref C) (.type "str") = some false
  kt : PySem.W.kitOne K (.type "tuple") (.ref C) = some false
  ks : PySem.W.kitOne K (.type "str") (.ref C) = some false
theorem kit_own {K : PySem.W.Frag} {C : Addr} {t : Value} (hh : PySem.W.hasDictIn K C = true) (ht : PySem.W.typeIn K (.ref C) = some (.type "type")) (hs : PySem.W.subIn K t (.ref C) = some false) (hn : (t == .ref C) = false) : PySem.W.kitOne K t (.ref C) = some false := by
  have hc : (PySem.W.clsIn K C).isSome = true := by
    obtain ⟨cd, hc, _⟩ := PySem.W.any_some hh
    rw [hc]
    rfl
  unfold PySem.W.kitOne
  rw [hn]
  show (if ((PySem.W.clsIn K C).isSome && PySem.W.typeIn K (.ref C) == some (.type "type")) = true then PySem.W.subIn K t (.ref C) else none) = some false
  rw [hc, ht, hs]
  rfl
/-! ### in [..] -/
def RP (K : PySem.W.Frag) (C : Addr) : V → V → Hp → Prop := fun x y H => ∃ (p q : Addr) (xs ys : List Str) (ab fo ab' fo' : Bool), x = .ref p ∧ y = .ref q ∧ PathAt K C H p xs ab fo ∧ PathAt K C H q ys ab' fo' ∧ (∀ z ∈ xs, okS z) ∧ (∀ z ∈ ys, okS z) ∧ eqPath xs ab fo ys ab' fo' = false
def RO (C : Addr) : V → V → Hp → Prop := fun x y H => ∃ (p dx : Addr) (fs : List (Str × V)), x = .ref p ∧ H p = some (.ins C dx fs) ∧ ((∃ a xs, y = .ref a ∧ H a = some (.tup xs)) ∨ ∃ z, y = .str z)
def DP (K : PySem.W.Frag) (C : Addr) : Eqv := fun x y H => DInsF K C (RP K C) x y H ∨ DOthF K C (RO C) x y H
theorem PathAt.ext {K : PySem.W.Frag} {C p : Addr} {H H' : Hp} {xs : List Str} {ab fo : Bool} (h : PathAt K C H p xs ab fo) (e : Same H H') : PathAt K C H' p xs ab fo :=
  let ⟨⟨dx, t, a, b⟩⟩ := h
  ⟨⟨dx, t, e _ _ a, Same.sqT e b⟩⟩
theorem mon_P {K : PySem.W.Frag} {C : Addr} : Mon (DP K C) := by
  intro x y H H' e d
  rcases d with ⟨a, b, dx, dy, fs, gs, h1, h2, h3, h4, h5, p, q, xs, ys, ab, fo, ab', fo', g1, g2, g3, g4, g5⟩ | ⟨b, dy, gs, h1, h2, h3, p, dx, fs, g1, g2, g3⟩
  · exact .inl ⟨a, b, dx, dy, fs, gs, h1, h2, h3, e _ _ h4, e _ _ h5, p, q, xs, ys, ab, fo, ab', fo', g1, g2, g3.ext e, g4.ext e, g5⟩
  · refine .inr ⟨b, dy, gs, h1, e _ _ h2, ?_, p, dx, fs, g1, e _ _ g2, ?_⟩
    · rcases h3 with ⟨a, xs, k1, k2, k3⟩ | k
      · exact .inl ⟨a, xs, k1, k2, Same.sqT e k3⟩
      · exact .inr k
    · rcases g3 with ⟨a, xs, k1, k2⟩ | k
      · exact .inl ⟨a, xs, k1, e _ _ k2⟩
      · exact .inr k
theorem eqF_P {X : Cx} {C fE : Addr} {fd : FuncData} (G : FnOk X.prog X.w X.K X.mg X.base CX0 1 fE fd ["self", "other"] (spEqX X.K C)) (TE : EqC X.K C fE) (T : TxtX X.K C) (b : Binds X.K fd ["self", "other"] []) : EqF X 1 (DP X.K C) := by
  refine EqF.or (eqF_ins G TE.e1 TE.e2 b pass0 ?_) (eqF_oth G TE.e1 TE.e2 b pass0 T.ct T.cs ?_)
  · rintro x y H ⟨p, q, xs, ys, ab, fo, ab', fo', rfl, rfl, h1, h2, h3, h4, h5⟩
    exact .inl ⟨p, q, xs, ys, ab, fo, ab', fo', rfl, h1, h2, h3, h4, _, rfl, h5, Ext.rfl'⟩
  · rintro x y H ⟨p, dx, fs, rfl, h, h1⟩
    rcases h1 with ⟨a, xs, rfl, e⟩ | ⟨z, rfl⟩
    · exact .inr ⟨p, dx, fs, _, _, rfl, h, .base (.tup e), T.kt, _, rfl, rfl, Ext.rfl'⟩
    · exact .inr ⟨p, dx, fs, _, _, rfl, h, .base (.str z), T.ks, _, rfl, rfl, Ext.rfl'⟩
/-! ### the law's steps -/
def someL : List Str := ["a", "b.c", "...", "..", "..", "-", "zz"]
theorem some_ok : ∀ z ∈ someL, stepZ z = true := by decide +kernel
def badL (t : Addr) : List V := [.str ".", .str "", .str "A", .str "a/b", .str (Txt.mul "a" 13), .non, .int 5, .ref t]
theorem bad_ok {H : Hp} {t : Addr} (e : H t = some (.tup [.str "a"])) : ∀ v ∈ badL t, ItV H v ∧ stepV v = false := by
  have s : ∀ z : Str, (decide (z.length ≤ sizeLine) && z.cps.all (· < 0x110000)) && !stepZ z = true → ItV H (.str z) ∧ stepV (.str z) = false := fun z h => by
    rw [Bool.and_eq_true, Bool.and_eq_true] at h
    exact ⟨.inl ⟨z, rfl, of_decide_eq_true h.1.1, h.1.2⟩, by show stepZ z = false; simpa using h.2⟩
  intro v hv
  simp only [badL, List.mem_cons, List.not_mem_nil, or_false] at hv
  rcases hv with rfl | rfl | rfl | rfl | rfl | rfl | rfl | rfl
  · exact s _ (by decide +kernel)
  · exact s _ (by decide +kernel)
  · exact s _ (by decide +kernel)
  · exact s _ (by decide +kernel)
  · exact s _ (by decide +kernel)
  · exact ⟨.inr (.inl rfl), rfl⟩
  · exact ⟨.inr (.inr (.inl ⟨5, rfl⟩)), rfl⟩
  · exact ⟨.inr (.inr (.inr ⟨t, rfl, e⟩)), rfl⟩
theorem ixN_nat {n : Nat} {i : Int} (h0 : 0 ≤ i) (h1 : i < n) : ixN n i = some i.toNat := by unfold ixN; rw [if_pos h0, if_pos h1]
theorem eqv_path (xs ys : List Str) (ab fo b ab' fo' b' : Bool) : PyData.eqv (.tuple [.tuple (xs.map PyData.str), .bool ab, .bool fo, .bool b]) (.tuple [.tuple (ys.map PyData.str), .bool ab', .bool fo', .bool b']) = (decide (xs = ys) && ((ab == ab') && ((fo == fo') && (b == b')))) := by
  simp only [PyData.eqv, PyData.eqvAll]
  rw [eqvAll_strs]
  cases ab <;> cases ab' <;> cases fo <;> cases fo' <;> cases b <;> cases b' <;> simp [PyData.eqv]
theorem shaped_path {xs : List Str} {ab fo b : Bool} (h : ∀ z ∈ xs, okS z) : SeqAt.shaped (.tuple [.tuple (xs.map PyData.str), .bool ab, .bool fo, .bool b]) = true := by
  unfold SeqAt.shaped
  have d := depth_strs xs
  simp [PyData.canLay0, PyData.depth, PyData.canLayAll0, PyData.depthAll, lay_strs h, d]
theorem make_ok {K : PySem.W.Frag} {C CN a : Addr} {xs : List Str} {ab fo : Bool} {H : Hp} {Q : Addr → Hp → Prop} {E : XK} (hS : SqLT K H a (xs.map V.str)) (ok : okPath xs fo = true) (hl : xs.length ≤ 10)
    (k : ∀ x H', Same H H' → H x = none → PathAt K C H' x xs ab fo → Q x H') :
    ∀ x dx, H x = none → H dx = none → dx ≠ x → spPathX K C CN (.ref x :: ([.ref a, .bl ab, .bl fo] ++ [])) (upd (upd H dx (.own x)) x (.ins C dx [])) (fun v H2 => v = .non ∧ Q x H2) E := fun x dx hx hdx hne => by
  have sx : ∀ H', But x (upd (upd H dx (.own x)) x (.ins C dx [])) H' → Same H H' := fun H' b c o e => b c o (by rw [upd_ne (ne_of_none e hx), upd_ne (ne_of_none e hdx)]; exact e) (ne_of_none e hx)
  have s0 : Same H (upd (upd H dx (.own x)) x (.ins C dx [])) := sx _ (But.refl _ _)
  have hs : sizeLine = 16777216 := sizeLine_eq
  refine ⟨x, dx, a, xs.map V.str, ab, fo, rfl, upd_same, hS.imp (fun h => s0.seq h) (fun h => Same.sqT s0 h), fun v hv => ?_, by rw [List.length_map]; omega, fun ys ey ok' H1 b1 PX => ⟨rfl, ?_⟩, fun hb => ?_⟩
  · obtain ⟨z, hz, rfl⟩ := List.mem_map.mp hv
    exact .inl ⟨z, rfl, compB_ok (comp_of ok z hz)⟩
  · rw [← str_inj ey] at PX
    exact k x H1 (sx _ b1) hx PX
  · have := hb xs rfl
    rw [ok] at this
    cases this
def dueV (nop : Bool) (t : Addr) : V := match nop with
  | true => .str "nopath"
  | false => .ref t
theorem dr_set {p D : Addr} {H H' : Hp} {o : HO} (d : Dr p H H') (hD : H D = none) (n : D ≠ p) : Dr p H (upd H' D o) :=
  ⟨fun b x e nb => by rw [upd_ne (ne_of_none e hD)]; exact d.but b x e nb, let ⟨x, e, q⟩ := d.st; ⟨x, by rw [upd_ne n.symm]; exact e, q⟩⟩
theorem ends_app (xs : List Str) (z : Str) (h : z ≠ ("..":Str)) : endsName (xs ++ [z]) = true := by
  unfold endsName
  rw [List.getLast?_append]
  show (!decide (z = ("..":Str))) = true
  rw [decide_eq_false h]
  rfl
theorem ends_cons (z : Str) (xs : List Str) (h : endsName xs = true) : endsName (z :: xs) = true := by
  cases xs with
  | nil => cases h
  | cons y r => exact h
abbrev lawN : List Str := ["_law_script", "_law_cell", "_law_s", "_law_some", "_law_bad", "_law_turn", "_law_steps", "_law_is_bad", "_law_absolute", "_law_folder", "_law_due", "_law_path", "_law_others", "_law_k"]
theorem scLaw : FnScope lawN ["_law_script"] (defScope sLaw) := ⟨rfl, rfl, rfl, by decide +kernel, rfl, by decide +kernel, by decide +kernel⟩
section
variable {P : Program} {w : World} {K : PySem.W.Frag} {mg : Str → Option Value} {base : Heap} {fName fStep fEnds fDigit fState fSaid fRead fText C CN fI fE fLaw : Addr}
theorem ok_law {fd fdD fdSt fdS fdT fdI fdE : FuncData} (F : Fun K "law" "law" sLaw fLaw fd) (T : TxtN K mg fName fStep fEnds) (TU : TxtW K mg fState fDigit fSaid) (TV : TxtV K mg CN fRead fText) (TP : TxtP K mg C CN) (TC : TyC K C) (TE : EqC K C fE) (XE : TxtX K C)
    (G_digit : FnOk P w K mg base CX0 1 fDigit fdD ["_law_state_here", "_law_base"] spDigit) (b_digit : Binds K fdD ["_law_state_here", "_law_base"] [])
    (G_state : FnOk P w K mg base CX0 1 fState fdSt ["_law_source"] spState) (b_state : Binds K fdSt ["_law_source"] [])
    (G_said : FnOk P w K mg base CX0 7 fSaid fdS ["_law_steps", "_law_absolute", "_law_folder"] (spSaid K)) (b_said : Binds K fdS ["_law_steps", "_law_absolute", "_law_folder"] [])
    (G_text : FnOk P w K mg base CX0 2 fText fdT ["path"] (spText K C)) (b_text : Binds K fdT ["path"] [])
    (M_Path : Mk K C fI) (G_Path : FnOk P w K mg base (L2.CX P w) 4 fI fdI ["self", "steps", "absolute", "folder"] (spPathX K C CN)) (b_Path : Binds K fdI ["self", "steps", "absolute", "folder"] [])
    (G_eq : FnOk P w K mg base CX0 1 fE fdE ["self", "other"] (spEqX K C)) (b_eq : Binds K fdE ["self", "other"] []) :
    FnOk P w K mg base CX0 8 fLaw fd ["_law_script"] (spLaw K) := by
  have nd := scLaw.nd
  refine F.ok scLaw (fun vs H Q E h => ?_) (fun cdv A outer s H vs Q E hr h => ?_)
  · obtain ⟨a, ns, rfl, _⟩ := h
    rfl
  · obtain ⟨a, ns, rfl, hS, hlen, k⟩ := h
    have hr1 : Room 1 _ := hr.mono (by decide)
    have hr2 : Room 2 _ := hr.mono (by decide)
    have hr5 : Room 5 _ := hr.mono (by decide)
    have hr7 : Room 7 _ := hr
    have hs : sizeLine = 16777216 := sizeLine_eq
    refine ⟨_, (pss_cons (ps_for PassesOwn.never rfl (pi_list (pe_slice sl_list (pe_op op_catS (pv 0) (pe_lst (pa_cons pe_int pa_nil))) po_none (po_some pe_int))) (pg_name (i := 1) nd rfl (Or.inl rfl))
  (pss_cons (ps_set (i := 2) nd rfl (Or.inr rfl) (pe_call G_state hr1 (by rfl) TU.g_state TU.kp_state b_state .nil pass0 (pa_cons (pv 1) pa_nil)))
  (pss_cons (ps_set (i := 3) nd rfl (Or.inr rfl) (pe_lst (pa_cons pe_str (pa_cons pe_str (pa_cons pe_str (pa_cons pe_str (pa_cons pe_str (pa_cons pe_str (pa_cons pe_str pa_nil)))))))))
  (pss_cons (ps_set (i := 4) nd rfl (Or.inl rfl) (pe_lst (pa_cons pe_str (pa_cons pe_str (pa_cons pe_str (pa_cons pe_str (pa_cons (pe_op op_mulStr pe_str pe_int) (pa_cons pe_non (pa_cons pe_int (pa_cons (pe_tup (pa_cons pe_str pa_nil)) pa_nil))))))))))
  (pss_one (ps_for PassesOwn.never rfl (pi_range1 (by rfl) TU.m_range (pa_cons pe_int pa_nil)) (pg_name (i := 5) nd rfl (Or.inl rfl))
  (pss_cons (ps_setLc (i := 6) (own := [("_law_k", 13)]) (te := tOp (rIxL K) (tVar 3) (tCall spDigit [] E0 (tCons (tVar 2) (tCons (tCB (fun xs H Q => ∃ p ys, xs = [V.ref p] ∧ (SqL K H p ys ∨ SqT K H p ys) ∧ Q (V.int ys.length) H) (tCons (tVar 3) tNil)) tNil)))) rfl nd rfl rfl (sw_true rfl rfl rfl (by decide +kernel)) (pi_range1 (by rfl) TU.m_range (pa_cons (pe_call G_digit hr1 (by rfl) TU.g_digit TU.kp_digit b_digit .nil pass0 (pa_cons (pv 2) (pa_cons pe_int pa_nil))) pa_nil)) (blkOk_by (N := ["_law_script", "_law_cell", "_law_s", "_law_some", "_law_bad", "_law_turn", "_law_steps", "_law_is_bad", "_law_absolute", "_law_folder", "_law_due", "_law_path", "_law_others", "_law_k"]) (sc := defScope sLaw) (by decide +kernel)) (fun _ _ _ _ _ => (pg_name (i := 13) nd rfl (Or.inl rfl))) (fun _ _ _ _ _ => pts_nil) (fun _ _ _ _ _ => (pe_ix ix_list (pv 3) (pe_call G_digit hr1 (by rfl) TU.g_digit TU.kp_digit b_digit .nil pass0 (pa_cons (pv 2) (pa_cons (pe_callB call_len_seq (by rfl) T.m_len (by decide +kernel) (pa_cons (pv 3) pa_nil)) pa_nil))) (fun _ _ => rfl))))
  (C8.pss_cut (ps_set (i := 7) nd rfl (Or.inl rfl) (pe_and (pe_cmpR op_eq (pe_call G_digit hr1 (by rfl) TU.g_digit TU.kp_digit b_digit .nil pass0 (pa_cons (pv 2) (pa_cons pe_int pa_nil))) pe_int (nomark _)) (pe_one (pe_cmpR (op_neD hr.units) (pv 6) (pe_lst pa_nil) (nomark _)))))
  (C8.pss_cut (ps_if (pt_val (pv 7)) (pss_one (ps_asg (pe_ix ix_list (pv 4) (pe_call G_digit hr1 (by rfl) TU.g_digit TU.kp_digit b_digit .nil pass0 (pa_cons (pv 2) (pa_cons (pe_callB call_len_seq (by rfl) T.m_len (by decide +kernel) (pa_cons (pv 4) pa_nil)) pa_nil))) (fun _ _ => rfl)) (pg_sub (pv 6) (pe_call G_digit hr1 (by rfl) TU.g_digit TU.kp_digit b_digit .nil pass0 (pa_cons (pv 2) (pa_cons (pe_callB call_len_seq (by rfl) T.m_len (by decide +kernel) (pa_cons (pv 6) pa_nil)) pa_nil))) set_list))) pss_nil)
  (pss_cons (ps_par (i := 8) (j := 9) (by rfl) nd rfl rfl (by decide) rfl rfl (pa_cons (pe_cmpR op_eq (pe_call G_digit hr1 (by rfl) TU.g_digit TU.kp_digit b_digit .nil pass0 (pa_cons (pv 2) (pa_cons pe_int pa_nil))) pe_int (nomark _)) (pa_cons (pe_cmpR op_eq (pe_call G_digit hr1 (by rfl) TU.g_digit TU.kp_digit b_digit .nil pass0 (pa_cons (pv 2) (pa_cons pe_int pa_nil))) pe_int (nomark _)) pa_nil)) (by rfl))
  (pss_cons (ps_set (i := 10) nd rfl (Or.inl rfl) (pe_tup (pa_cons (pe_callTy call_tuple_of (by rfl) TP.m_tuple (by decide +kernel) (pa_cons (pv 6) pa_nil)) (pa_cons (pv 8) (pa_cons (pv 9) (pa_cons pe_bl pa_nil))))))
  (C8.pss_cut (ps_if (PW.pt (pw_or (pt_val (pv 7)) (pw_or1 (PW.pt (pw_and (pt_not (pt_val (pv 9))) (pw_and1 (PW.pt (pw_or (pt_cmpR (op_eqD hr.units) (pv 6) (pe_lst pa_nil) (nomark _)) (pw_or1 (pt_cmpR op_eq (pe_ix ix_list (pv 6) (pe_un un_neg pe_int) (fun _ _ => rfl)) pe_str (nomark _))))))))))) (pss_one (ps_set (i := 10) nd rfl (Or.inl rfl) pe_str)) pss_nil)
  (pss_cons (ps_if (PW.pt (pw_or (pt_cmpR (op_neD hr.units) (pe_call G_said hr7 (by rfl) TU.g_said TU.kp_said b_said .nil pass0 (pa_cons (pv 6) (pa_cons (pv 8) (pa_cons (pv 9) pa_nil)))) (pv 10) (nomark _)) (pw_or1 (pt_cmpR (op_neD hr.units) (pe_call G_said hr7 (by rfl) TU.g_said TU.kp_said b_said .nil pass0 (pa_cons (pe_callTy call_tuple_of (by rfl) TP.m_tuple (by decide +kernel) (pa_cons (pv 6) pa_nil)) (pa_cons (pv 8) (pa_cons (pv 9) pa_nil)))) (pv 10) (nomark _))))) (pss_one (ps_ret pe_bl)) pss_nil)
  (pss_one (ps_if (pt_cmpR (op_neD hr.units) (pv 10) pe_str (nomark _)) (pss_cons (ps_set (i := 11) nd rfl (Or.inl rfl) (pe_make M_Path G_Path hr5 (by rfl) TP.g_Path b_Path .nil (passes_call takes0 (fun _ _ _ _ h => h)) (pa_cons (pv 6) (pa_cons (pv 8) (pa_cons (pv 9) pa_nil)))))
  (pss_cons (ps_set (i := 12) nd rfl (Or.inl rfl) (pe_lst (pa_cons (pe_make M_Path G_Path hr5 (by rfl) TP.g_Path b_Path .nil (passes_call takes0 (fun _ _ _ _ h => h)) (pa_cons (pe_op op_catS (pv 6) (pe_lst (pa_cons pe_str pa_nil))) (pa_cons (pv 8) (pa_cons (pv 9) pa_nil)))) (pa_cons (pe_make M_Path G_Path hr5 (by rfl) TP.g_Path b_Path .nil (passes_call takes0 (fun _ _ _ _ h => h)) (pa_cons (pe_op op_catS (pe_lst (pa_cons pe_str pa_nil)) (pv 6)) (pa_cons (pv 8) (pa_cons (pv 9) pa_nil)))) pa_nil))))
  (pss_cons (ps_set (i := 12) nd rfl (Or.inl rfl) (pe_op op_catS (pv 12) (pe_lst (pa_cons (pe_make M_Path G_Path hr5 (by rfl) TP.g_Path b_Path .nil (passes_call takes0 (fun _ _ _ _ h => h)) (pa_cons (pv 6) (pa_cons (pe_not (pv 8)) (pa_cons (pv 9) pa_nil)))) (pa_cons (pv 10) (pa_cons (pe_call G_text hr2 (by rfl) TV.g_text TV.kp_text b_text .nil pass0 (pa_cons (pv 11) pa_nil)) pa_nil))))))
  (pss_cons (ps_if (PW.pt (pw_or (pt_cmpR (op_neOwn G_eq hr2 TE.e1 TE.e2 TE.e3 TE.e4 b_eq pass0) (pv 11) (pe_make M_Path G_Path hr5 (by rfl) TP.g_Path b_Path .nil (passes_call takes0 (fun _ _ _ _ h => h)) (pa_cons (pe_callTy call_tuple_of (by rfl) TP.m_tuple (by decide +kernel) (pa_cons (pv 6) pa_nil)) (pa_cons (pv 8) (pa_cons (pv 9) pa_nil)))) (nomark _)) (pw_or1 (pt_cmpR (op_inOwnF mon_P (eqF_P G_eq TE XE b_eq) hr2) (pv 11) (pv 12) (by rfl))))) (pss_one (ps_ret pe_bl)) pss_nil)
  (pss_cons (ps_expr (pe_bm PySem.F.plainAttrs_list PySem.F.slot_list_append PySem.F.type_list_append mt_append (pv 6) (pa_cons pe_str pa_nil)))
  (pss_one (ps_if (PW.pt (pw_or (pt_cmpR (op_neD hr.units) (pe_fld (pv 11) rfl) (pe_ix ix_tup (pv 10) pe_int (fun _ _ => rfl)) (nomark _)) (pw_or1 (pt_not (pt_cmpR (op_eqOwn G_eq hr1 TE.e1 TE.e2 b_eq pass0) (pv 11) (pe_make M_Path G_Path hr5 (by rfl) TP.g_Path b_Path .nil (passes_call takes0 (fun _ _ _ _ h => h)) (pa_cons (pe_ix ix_tup (pv 10) pe_int (fun _ _ => rfl)) (pa_cons (pv 8) (pa_cons (pv 9) pa_nil)))) (nomark _)))))) (pss_one (ps_ret pe_bl)) pss_nil))))))) pss_nil)))))))))))))))
  (pss_one (ps_ret pe_bl))), ?_⟩
    -- (script + [0])[:4]
    refine ⟨_, rfl, (by show 1 ≤ sizeLine; decide), fun q hq => ⟨a, q, ns.map V.int, [.int 0], rfl, rfl, (NG.Same.upd hq).seq hS, SqL.of upd_same, (by rw [List.length_map]; show ns.length + 1 ≤ _; omega), fun r hr' => ?_⟩⟩
    have sa : Same H (upd (upd H q (.lst [.int 0])) r (.lst (ns.map V.int ++ [.int 0]))) := (NG.Same.upd hq).trans (NG.Same.upd hr')
    have er : (upd (upd H q (.lst [.int 0])) r (.lst (ns.map V.int ++ [.int 0]))) r = some (.lst (ns.map V.int ++ [.int 0])) := upd_same
    generalize upd (upd H q (.lst [.int 0])) r (.lst (ns.map V.int ++ [.int 0])) = Ha at sa er
    refine ⟨_, rfl, r, _, rfl, SqL.of er, fun c hc => ?_⟩
    have sb : Same H (upd Ha c (.lst (cutV (ns.map V.int ++ [.int 0]) none (some 4)))) := sa.trans (NG.Same.upd hc)
    have ec : (upd Ha c (.lst (cutV (ns.map V.int ++ [.int 0]) none (some 4)))) c = some (.lst (cutV (ns.map V.int ++ [.int 0]) none (some 4))) := upd_same
    have hints : ∀ x ∈ cutV (ns.map V.int ++ [.int 0]) none (some 4), ∃ n, x = V.int n := fun x hx => by
      have h1 : x ∈ ns.map V.int ++ [.int 0] := List.mem_of_mem_drop (List.mem_of_mem_take hx)
      rcases List.mem_append.mp h1 with h | h
      · obtain ⟨n, _, e⟩ := List.mem_map.mp h
        exact ⟨n, e.symm⟩
      · exact ⟨0, List.mem_singleton.mp h⟩
    generalize cutV (ns.map V.int ++ [.int 0]) none (some 4) = cells at sb ec hints
    generalize upd Ha c (.lst cells) = Hb at sb ec
    refine ⟨c, rfl, ⟨_, SqL.of ec⟩, for_list (K := K) (a := c) (xs := cells) (fun i σ H' => (∃ v1 v2 v3 v4 v5 v6 v7 v8 v9 v10 v11 v12 v13 : Option V, σ = [some (.ref a), v1, v2, v3, v4, v5, v6, v7, v8, v9, v10, v11, v12, v13]) ∧ Same Hb H')
      ⟨⟨none, none, none, none, none, none, none, none, none, none, none, none, none, rfl⟩, Same.refl _⟩ (fun i σ H' _ h => SqL.of (h.2 _ _ ec)) ?_ ?_⟩
    · rintro i y σ H1 hi ⟨⟨v1, v2, v3, v4, v5, v6, v7, v8, v9, v10, v11, v12, v13, rfl⟩, s1⟩
      obtain ⟨n, rfl⟩ := hints y (List.mem_of_getElem? hi)
      refine ⟨_, rfl, n, rfl, fun p o hp ho => ?_⟩
      have sp1 : Same H1 (upd H1 p o) := NG.Same.upd hp
      have ep1 : (upd H1 p o) p = some o := upd_same
      generalize upd H1 p o = H2 at sp1 ep1
      -- some, bad
      refine ⟨(by show 7 ≤ sizeLine; decide), fun sA hsA => ?_⟩
      have sp2 : Same H2 (upd H2 sA (.lst [V.str "a", V.str "b.c", V.str "...", V.str "..", V.str "..", V.str "-", V.str "zz"])) := NG.Same.upd hsA
      have es2 : (upd H2 sA (.lst [V.str "a", V.str "b.c", V.str "...", V.str "..", V.str "..", V.str "-", V.str "zz"])) sA = some (.lst (someL.map V.str)) := upd_same
      refine ⟨_, _, rfl, rfl, (by unfold MulOk; decide +kernel), (by show 1 ≤ sizeLine; decide), fun tA htA => ⟨(by show 8 ≤ sizeLine; decide), fun bA hbA => ?_⟩⟩
      have sp3 := NG.Same.upd (o := (HO.tup [V.str "a"])) htA
      have sp4 := NG.Same.upd (o := HO.lst [V.str ".", V.str "", V.str "A", V.str "a/b", V.str (Txt.mul "a" 13), V.non, V.int 5, V.ref tA]) hbA
      have npS : sA ≠ p := (ne_of_none ep1 hsA).symm
      have npT : tA ≠ p := (ne_of_none (sp2 _ _ ep1) htA).symm
      have npB : bA ≠ p := (ne_of_none (sp3 _ _ (sp2 _ _ ep1)) hbA).symm
      have es5 := sp4 _ _ (sp3 _ _ es2)
      have et5 := sp4 _ _ (upd_same (H := upd H2 sA (.lst [V.str "a", V.str "b.c", V.str "...", V.str "..", V.str "..", V.str "-", V.str "zz"])) (a := tA) (o := (HO.tup [V.str "a"])))
      have eb5 : (upd (upd (upd H2 sA (.lst [V.str "a", V.str "b.c", V.str "...", V.str "..", V.str "..", V.str "-", V.str "zz"])) tA (HO.tup [V.str "a"])) bA (.lst [V.str ".", V.str "", V.str "A", V.str "a/b", V.str (Txt.mul "a" 13), V.non, V.int 5, V.ref tA])) bA = some (.lst (badL tA)) := upd_same
      have sp5 := sp2.trans (sp3.trans sp4)
      clear sp2 es2 sp3 sp4
      generalize upd (upd (upd H2 sA (.lst [V.str "a", V.str "b.c", V.str "...", V.str "..", V.str "..", V.str "-", V.str "zz"])) tA (HO.tup [V.str "a"])) bA (.lst [V.str ".", V.str "", V.str "A", V.str "a/b", V.str (Txt.mul "a" 13), V.non, V.int 5, V.ref tA]) = H5 at es5 et5 eb5 sp5
      have ep5 : H5 p = some o := sp5 _ _ ep1
      have s15 : Same H1 H5 := sp1.trans sp5
      have fin : ∀ {A B : Prop}, B → if (!true) = true then A else B := fun h => iteF h
      refine ⟨8, rfl, by decide, by decide, for_range (n := 8) (fun i σ H' => (∃ v5 v6 v7 v8 v9 v10 v11 v12 v13 : Option V, σ = [some (.ref a), some (.int n), some (.ref p), some (.ref sA), some (.ref bA), v5, v6, v7, v8, v9, v10, v11, v12, v13]) ∧ Dr p H5 H')
        ⟨⟨v5, v6, v7, v8, v9, v10, v11, v12, v13, rfl⟩, Dr.refl ep5 ho⟩ ?_ ?_⟩
      · rintro j σ H6 hj ⟨⟨v5, v6, v7, v8, v9, v10, v11, v12, v13, rfl⟩, dr6⟩
        obtain ⟨o6, hp6, ho6⟩ := dr6.st
        refine ⟨_, rfl, p, 5, o6, rfl, by decide, by decide, hp6, ho6, fun e o7 e0 e1 ho7 => ?_⟩
        have dr7 : Dr p H6 (upd H6 p o7) := (Dr.refl hp6 ho6).next ho7
        have hp7 : (upd H6 p o7) p = some o7 := upd_same
        generalize upd H6 p o7 = H7 at dr7 hp7
        have d57 := dr6.trans dr7
        refine ⟨_, rfl, by omega, by omega, fun D hD => ?_⟩
        have nDp : D ≠ p := (ne_of_none hp7 hD).symm
        have hD5 : H5 D = none := by
          cases e : H5 D with
          | none => rfl
          | some x =>
            have := d57.but _ _ e nDp
            rw [hD] at this
            cases this
        refine lc_draw (n := e.toNat) (p := p) (fun x _ => ∃ z, x = V.str z ∧ stepZ z = true) (small1000 (by omega)) hD (Dr.refl hp7 ho7) (fun _ _ _ _ h => h) (fun _ _ _ _ h => h) (fun i H8 R hi8 dr8 hR => ?_) (fun H8 xs dr8 e8 el hx => ?_)
        · have d58 := d57.trans dr8
          obtain ⟨o8, hp8, ho8⟩ := d58.st
          have es8 := d58.but _ _ es5 npS
          refine ⟨_, rfl, _, rfl, _, rfl, sA, _, rfl, .inl (SqL.of es8), p, 7, o8, rfl, by decide, by decide, hp8, ho8, fun g o9 g0 g1 ho9 => ?_⟩
          have dr9 : Dr p H8 (upd H8 p o9) := (Dr.refl hp8 ho8).next ho9
          have es9 := dr9.but _ _ es8 npS
          obtain ⟨v, hv, ev⟩ := pick (xs := someL.map V.str) g0 g1
          obtain ⟨z, hz, rfl⟩ := List.mem_map.mp hv
          exact ⟨sA, _, g, _, rfl, rfl, SqL.of es9, ev, hR _ _ ⟨z, rfl, some_ok z hz⟩ dr9⟩
        obtain ⟨ys, rfl, hy⟩ := strs_of hx
        have d58 := d57.trans dr8
        rw [List.length_map] at el
        have yk : ∀ z ∈ ys, okS z := fun z hz => compB_ok (step_comp (hy z hz))
        -- is_bad
        refine ⟨fun σ H' => ∃ b : Bool, σ = [some (.ref a), some (.int n), some (.ref p), some (.ref sA), some (.ref bA), some (.int (0 + (j : Int))), some (.ref D), some (.bl b), v8, v9, v10, v11, v12, v13] ∧ Dr p H5 H' ∧ H' D = some (.lst (ys.map V.str)) ∧ (b = true → ys ≠ []), ?_, ?_⟩
        · obtain ⟨o8, hp8, ho8⟩ := d58.st
          refine ⟨_, rfl, p, 4, o8, rfl, by decide, by decide, hp8, ho8, fun f o9 f0 f1 ho9 => ⟨rfl, ?_⟩⟩
          have d59 : Dr p H5 (upd H8 p o9) := d58.next ho9
          have e9 : (upd H8 p o9) D = some (.lst (ys.map V.str)) := by rw [upd_ne nDp]; exact e8
          generalize upd H8 p o9 = H9 at d59 e9
          refine ⟨_, rfl, ?_⟩
          refine ite2 (fun _ => ?_) (fun _ => ⟨_, rfl, d59, e9, fun h => (by cases h)⟩)
          · refine ⟨_, rfl, Nat.zero_le _, fun q hq => ⟨_, _, dp_lst (SqL.of ((NG.Same.upd hq) _ _ e9)), dp_lst (xs := []) (SqL.of upd_same), shaped_lst yk, shaped_lst (xs := []) (by simp), ?_⟩⟩
            rw [eqv_lst]
            exact ⟨_, rfl, d59.same (NG.Same.upd hq), (NG.Same.upd hq) _ _ e9, fun h => by simpa using h⟩
        rintro σ H9 ⟨b, rfl, d59, e9, hb⟩
        -- if is_bad
        refine ⟨fun σ H' => ∃ ws : List V, σ = [some (.ref a), some (.int n), some (.ref p), some (.ref sA), some (.ref bA), some (.int (0 + (j : Int))), some (.ref D), some (.bl b), v8, v9, v10, v11, v12, v13] ∧ Dr p H5 H' ∧ H' D = some (.lst ws) ∧ ws.length ≤ 4 ∧ (∀ v ∈ ws, ItV H' v) ∧
          (b = true → ∃ v ∈ ws, stepV v = false) ∧ (b = false → ∃ xs : List Str, ws = xs.map V.str ∧ ∀ z ∈ xs, stepZ z = true), ?_, ?_⟩
        · refine ⟨_, rfl, _, rfl, ?_⟩
          cases b with
          | false =>
            refine iteF ⟨_, rfl, d59, e9, by rw [List.length_map]; omega, fun v hv => ?_, fun h => (by cases h), fun _ => ⟨ys, rfl, hy⟩⟩
            obtain ⟨z, hz, rfl⟩ := List.mem_map.mp hv
            exact .inl ⟨z, rfl, yk z hz⟩
          | true =>
            have yne := hb rfl
            have ylen : 0 < ys.length := List.length_pos_iff.mpr yne
            obtain ⟨o9, hp9, ho9⟩ := d59.st
            have eb9 := d59.but _ _ eb5 npB
            refine iteT ⟨_, rfl, _, rfl, _, rfl, bA, _, rfl, .inl (SqL.of eb9), p, 8, o9, rfl, by decide, by decide, hp9, ho9, fun g o10 g0 g1 ho10 => ?_⟩
            have d10 : Dr p H5 (upd H9 p o10) := d59.next ho10
            have hp10 : (upd H9 p o10) p = some o10 := upd_same
            have e10 : (upd H9 p o10) D = some (.lst (ys.map V.str)) := by rw [upd_ne nDp]; exact e9
            generalize upd H9 p o10 = H10 at d10 hp10 e10
            have eb10 := d10.but _ _ eb5 npB
            obtain ⟨v, hv, ev⟩ := pick (xs := badL tA) g0 g1
            refine ⟨bA, _, g, v, rfl, rfl, SqL.of eb10, ev, ?_⟩
            refine ⟨_, rfl, _, rfl, _, rfl, D, _, rfl, .inl (SqL.of e10), p, _, o10, rfl, by rw [List.length_map]; omega, by rw [List.length_map]; omega, hp10, ho10, fun i o11 i0 i1 ho11 => ?_⟩
            have d11 : Dr p H5 (upd H10 p o11) := d10.next ho11
            have e11 : (upd H10 p o11) D = some (.lst (ys.map V.str)) := by rw [upd_ne nDp]; exact e10
            generalize upd H10 p o11 = H11 at d11 e11
            refine ⟨D, _, i, i.toNat, rfl, rfl, e11, ixN_nat i0 i1, ?_⟩
            have d12 : Dr p H5 (upd H11 D (.lst ((ys.map V.str).set i.toNat v))) := dr_set d11 hD5 nDp
            have et12 := d12.but _ _ et5 npT
            have hbv := bad_ok et12 v hv
            refine ⟨_, rfl, d12, upd_same, by rw [List.length_set, List.length_map]; omega, fun x hx => ?_, fun _ => ⟨v, List.mem_set (by omega) v, hbv.2⟩, fun h => (by cases h)⟩
            rcases List.mem_or_eq_of_mem_set hx with hx | rfl
            · obtain ⟨z, hz, rfl⟩ := List.mem_map.mp hx
              exact .inl ⟨z, rfl, yk z hz⟩
            · exact hbv.1
        rintro σ H12 ⟨ws, rfl, d12, e12, wl, wi, wb, wg⟩
        obtain ⟨o12, hp12, ho12⟩ := d12.st
        -- absolute, folder
        refine ⟨_, rfl, p, 2, o12, rfl, by decide, by decide, hp12, ho12, fun f o13 f0 f1 ho13 => ⟨rfl, _, rfl, p, 2, o13, rfl, by decide, by decide, upd_same, ho13, fun g o14 g0 g1 ho14 => ⟨rfl, _, _, rfl, ?_⟩⟩⟩
        have hod : ∀ {x : V} {o : HO}, ItV H12 x → ItV (upd H12 p o) x := fun {x o} h => h.but hp12 (by obtain ⟨a1, m1, c1, q1, _⟩ := ho12; intro _ q; rw [q1] at q; cases q) ((But.refl p H12).upd)
        have hod2 : ∀ {x : V}, ItV H12 x → ItV (upd (upd H12 p o13) p o14) x := fun {x} h => h.but hp12 (by obtain ⟨a1, m1, c1, q1, _⟩ := ho12; intro _ q; rw [q1] at q; cases q) (((But.refl p H12).upd).upd)
        have d14 : Dr p H5 (upd (upd H12 p o13) p o14) := (d12.next ho13).next ho14
        have e14 : (upd (upd H12 p o13) p o14) D = some (.lst ws) := by rw [upd_ne nDp, upd_ne nDp]; exact e12
        have wi14 : ∀ v ∈ ws, ItV (upd (upd H12 p o13) p o14) v := fun v hv => hod2 (wi v hv)
        generalize upd (upd H12 p o13) p o14 = H14 at d14 e14 wi14
        generalize decide (V.int f = V.int 0) = ab
        generalize decide (V.int g = V.int 0) = fo
        -- due
        refine ⟨_, rfl, D, ws, rfl, .inl ⟨SqL.of e14, fun u hu => ⟨_, rfl, _, rfl, (by show 4 ≤ sizeLine; decide), fun t ht => ?_⟩⟩⟩
        have s15' : Same H14 (upd (upd H14 u (.tup ws)) t (.tup [.ref u, .bl ab, .bl fo, .bl true])) := (NG.Same.upd hu).trans (NG.Same.upd ht)
        have eu15 : (upd (upd H14 u (.tup ws)) t (.tup [.ref u, .bl ab, .bl fo, .bl true])) u = some (.tup ws) := (NG.Same.upd ht) _ _ upd_same
        have et15 : (upd (upd H14 u (.tup ws)) t (.tup [.ref u, .bl ab, .bl fo, .bl true])) t = some (.tup [.ref u, .bl ab, .bl fo, .bl true]) := upd_same
        generalize upd (upd H14 u (.tup ws)) t (.tup [.ref u, .bl ab, .bl fo, .bl true]) = H15 at s15' eu15 et15
        have e15 := s15' _ _ e14
        have d15 := d14.same s15'
        have wi15 : ∀ v ∈ ws, ItV H15 v := fun v hv => (wi14 v hv).mono s15'
        refine ⟨fun σ H' => ∃ nop : Bool, σ = [some (.ref a), some (.int n), some (.ref p), some (.ref sA), some (.ref bA), some (.int (0 + (j : Int))), some (.ref D), some (.bl b), some (.bl ab), some (.bl fo), some (dueV nop t), v11, v12, v13] ∧ Same H15 H' ∧
          (nop = true → ∀ xs, ws = xs.map V.str → okPath xs fo = false) ∧ (nop = false → ∃ xs, ws = xs.map V.str ∧ okPath xs fo = true), ?_, ?_⟩
        · refine ⟨_, rfl, _, rfl, ?_⟩
          cases b with
          | true =>
            refine iteT (iteT ⟨true, rfl, Same.refl _, fun _ xs ex => ?_, fun h => (by cases h)⟩)
            obtain ⟨v, hv, sv⟩ := wb rfl
            rw [ex] at hv
            obtain ⟨z, hz, rfl⟩ := List.mem_map.mp hv
            unfold okPath
            have : xs.all stepZ = false := by
              rw [Bool.eq_false_iff]
              intro q
              rw [List.all_eq_true] at q
              have q1 : stepZ z = false := sv
              rw [q z hz] at q1
              cases q1
            rw [this]
            rfl
          | false =>
            obtain ⟨xs, rfl, hx⟩ := wg rfl
            have xk : ∀ z ∈ xs, okS z := fun z hz => compB_ok (step_comp (hx z hz))
            have hall : xs.all stepZ = true := by rw [List.all_eq_true]; exact hx
            refine iteF ⟨_, rfl, _, rfl, ?_⟩
            cases fo with
            | true =>
              refine iteF (iteF ⟨false, rfl, Same.refl _, fun h => (by cases h), fun _ => ⟨xs, rfl, ?_⟩⟩)
              unfold okPath; rw [hall]; rfl
            | false =>
              refine iteT ⟨_, rfl, Nat.zero_le _, fun q hq => ⟨_, _, dp_lst (SqL.of ((NG.Same.upd hq) _ _ e15)), dp_lst (xs := []) (SqL.of upd_same), shaped_lst xk, shaped_lst (xs := []) (by simp), _, rfl, ?_⟩⟩
              rw [eqv_lst]
              have sq := NG.Same.upd (o := HO.lst []) hq
              rcases List.eq_nil_or_concat xs with rfl | ⟨r, z, ez⟩
              · refine iteT (iteT ⟨true, rfl, sq, fun _ xs ex => ?_, fun h => (by cases h)⟩)
                rw [← str_inj (xs := []) ex]
                rfl
              · rw [List.concat_eq_append] at ez
                subst ez
                rw [decide_eq_false (by simp)]
                refine iteF ⟨_, rfl, _, rfl, D, _, _, .str z, rfl, rfl, SqL.of (sq _ _ e15), (by rw [List.map_append]; exact atI_last _ _), rfl, _, rfl, ?_⟩
                by_cases h2 : z = ("..":Str)
                · subst h2
                  refine ite2 (fun _ => ?_) (fun hc => absurd (decide_eq_true rfl) hc)
                  refine ⟨true, rfl, sq, fun _ ys ey => ?_, fun h => (by cases h)⟩
                  rw [← str_inj ey]
                  unfold okPath endsName
                  rw [List.getLast?_append]
                  show ((r ++ [("..":Str)]).all stepZ && (false || !decide (("..":Str) = ("..":Str)))) = false
                  simp
                · rw [decide_eq_false (fun q => h2 (V.str.inj q))]
                  refine iteF ⟨false, rfl, sq, fun h => (by cases h), fun _ => ⟨r ++ [z], rfl, ?_⟩⟩
                  unfold okPath
                  rw [hall, ends_app r z h2]
                  rfl
        rintro σ H16 ⟨nop, rfl, s16, n1, n2⟩
        have d16 := d15.same s16
        have e16 := s16 _ _ e15
        have wi16 : ∀ v ∈ ws, ItV H16 v := fun v hv => (wi15 v hv).mono s16
        have sN : SeqAt.shaped (.str "nopath") = true := by decide +kernel
        have eN : PyData.eqv (.str "nopath") (.str "nopath") = true := by decide +kernel
        cases nop with
        | true =>
          have bad := n1 rfl
          have no : ∀ {q : Prop} (xs : List Str), ws = xs.map V.str → okPath xs fo = true → q := fun xs ex ok => by
            rw [bad xs ex] at ok
            cases ok
          refine ⟨_, rfl, _, rfl, _, rfl, D, ws, ab, fo, rfl, .inl (SqL.of e16), wi16, by omega, fun xs ex ok => no xs ex ok, fun _ H17 s17 => ?_⟩
          refine ⟨_, rfl, .str "nopath", .str "nopath", .str _, .str _, sN, sN, _, rfl, ?_⟩
          rw [eN]
          refine fin ?_
          refine ⟨_, rfl, D, ws, rfl, .inl ⟨SqL.of (s17 _ _ e16), fun u2 hu2 => ⟨_, rfl, _, rfl, u2, ws, ab, fo, rfl, .inr (SqT.of upd_same), fun v hv => ((wi16 v hv).mono s17).mono (NG.Same.upd hu2), by omega, fun xs ex ok => no xs ex ok, fun _ H18 s18 => ?_⟩⟩⟩
          refine ⟨_, rfl, .str "nopath", .str "nopath", .str _, .str _, sN, sN, _, rfl, ?_⟩
          rw [eN]
          refine fin ?_
          refine ⟨_, rfl, .str "nopath", .str "nopath", .str _, .str _, sN, sN, _, rfl, ?_⟩
          rw [eN]
          refine fin ?_
          exact ⟨⟨_, _, _, _, _, _, _, _, _, rfl⟩, ((d16.same s17).same (NG.Same.upd hu2)).same s18⟩
        | false =>
          obtain ⟨xs, rfl, ok⟩ := n2 rfl
          rw [List.length_map] at wl
          have xc := comp_of ok
          have xk : ∀ z ∈ xs, okS z := fun z hz => compB_ok (xc z hz)
          have sp : SeqAt.shaped (.tuple [.tuple (xs.map PyData.str), .bool ab, .bool fo, .bool true]) = true := shaped_path xk
          have ep : PyData.eqv (.tuple [.tuple (xs.map PyData.str), .bool ab, .bool fo, .bool true]) (.tuple [.tuple (xs.map PyData.str), .bool ab, .bool fo, .bool true]) = true := by rw [eqv_path]; simp
          have no : ∀ {q : Prop}, (∀ ys, xs.map V.str = ys.map V.str → okPath ys fo = false) → q := fun h => by
            have := h xs rfl
            rw [ok] at this
            cases this
          have dp : ∀ {H' : Hp} {t u : Addr}, H' t = some (.tup [.ref u, .bl ab, .bl fo, .bl true]) → SqT K H' u (xs.map V.str) → Dp K H' (.ref t) (.tuple [.tuple (xs.map PyData.str), .bool ab, .bool fo, .bool true]) := fun h1 h2 =>
            .tup (SqT.of h1) (.cons (dp_tup h2) (.cons (.bl ab) (.cons (.bl fo) (.cons (.bl true) .nil))))
          have eu16 := s16 _ _ eu15
          have et16 := s16 _ _ et15
          refine ⟨_, rfl, _, rfl, _, rfl, D, xs.map V.str, ab, fo, rfl, .inl (SqL.of e16), wi16, by rw [List.length_map]; omega, fun ys ey _ t2 u2 H17 s17 ht2 hu2 => ?_, fun h => no h⟩
          rw [← str_inj ey] at hu2
          refine ⟨_, rfl, _, _, dp ht2 hu2, dp (s17 _ _ et16) (SqT.of (s17 _ _ eu16)), sp, sp, _, rfl, ?_⟩
          rw [ep]
          refine fin ?_
          refine ⟨_, rfl, D, _, rfl, .inl ⟨SqL.of (s17 _ _ e16), fun u3 hu3 => ⟨_, rfl, _, rfl, u3, xs.map V.str, ab, fo, rfl, .inr (SqT.of upd_same), fun v hv => ((wi16 v hv).mono s17).mono (NG.Same.upd hu3), by rw [List.length_map]; omega, fun ys ey _ t4 u4 H18 s18 ht4 hu4 => ?_, fun h => no h⟩⟩⟩
          rw [← str_inj ey] at hu4
          have s68 : Same H16 H18 := s17.trans ((NG.Same.upd hu3).trans s18)
          have et18 := s68 _ _ et16
          have eu18 := s68 _ _ eu16
          refine ⟨_, rfl, _, _, dp ht4 hu4, dp et18 (SqT.of eu18), sp, sp, _, rfl, ?_⟩
          rw [ep]
          refine fin ?_
          have e18 := s68 _ _ e16
          have d18 := d16.same s68
          -- due != "nopath"
          refine ⟨_, rfl, _, .str "nopath", dp et18 (SqT.of eu18), .str _, sp, sN, _, rfl, ?_⟩
          have en : PyData.eqv (.tuple [.tuple (xs.map PyData.str), .bool ab, .bool fo, .bool true]) (.str "nopath") = false := by simp [PyData.eqv]
          rw [en]
          refine iteT ?_
          have ok' := ok
          unfold okPath at ok'
          rw [Bool.and_eq_true] at ok'
          have aS : stepZ ("a" : Str) = true := by decide +kernel
          have aN : ("a" : Str) ≠ ".." := by decide +kernel
          have ok1 : okPath (xs ++ [("a" : Str)]) fo = true := by
            unfold okPath
            rw [ends_app xs "a" aN, Bool.or_true, Bool.and_true, List.all_append, ok'.1]
            simp [aS]
          have ok2 : okPath (("a" : Str) :: xs) fo = true := by
            unfold okPath
            rw [List.all_cons, aS, ok'.1]
            cases fo with
            | true => rfl
            | false => rw [ends_cons "a" xs (by simpa using ok'.2)]; rfl
          have xk1 : ∀ z ∈ xs ++ [("a" : Str)], okS z := fun z hz => compB_ok (comp_of ok1 z hz)
          have xk2 : ∀ z ∈ ("a" : Str) :: xs, okS z := fun z hz => compB_ok (comp_of ok2 z hz)
          have eqs : eqPath xs ab fo xs ab fo = true := by unfold eqPath; simp
          have xsum := sum_len xc
          -- path
          refine ⟨_, rfl, _, rfl, _, rfl, make_ok (.inl (SqL.of e18)) ok (by omega) (fun x H19 s19 hx PX => ?_)⟩
          have e19 := s19 _ _ e18
          obtain ⟨⟨dx, tx, px, qx⟩⟩ := id PX
          -- others
          refine ⟨_, rfl, (by show 1 ≤ sizeLine; decide), fun q1 hq1 => ⟨D, q1, xs.map V.str, [.str "a"], rfl, rfl, SqL.of ((NG.Same.upd hq1) _ _ e19), SqL.of upd_same, (by rw [List.length_map]; show xs.length + 1 ≤ _; omega), fun r1 hr1 => ⟨_, rfl, _, rfl, ?_⟩⟩⟩
          have t20 := (NG.Same.upd (o := HO.lst [V.str "a"]) hq1).trans (NG.Same.upd (o := HO.lst (xs.map V.str ++ [V.str "a"])) hr1)
          have m1 : xs.map V.str ++ [V.str "a"] = (xs ++ [("a" : Str)]).map V.str := by simp
          have er1 : (upd (upd H19 q1 (HO.lst [V.str "a"])) r1 (HO.lst (xs.map V.str ++ [V.str "a"]))) r1 = some (.lst ((xs ++ [("a" : Str)]).map V.str)) := by rw [upd_same, m1]
          refine make_ok (.inl (SqL.of er1)) ok1 (by simp; omega) (fun y1 H20 s20 hy1 PY1 => ?_)
          have s90 := t20.trans s20
          have ny1 : y1 ≠ x := (ne_of_none (t20 _ _ px) hy1).symm
          refine ⟨(by show 1 ≤ sizeLine; decide), fun q2 hq2 => ⟨_, rfl, q2, D, [.str "a"], xs.map V.str, rfl, rfl, SqL.of upd_same, SqL.of ((NG.Same.upd hq2) _ _ (s90 _ _ e19)), (by rw [List.length_map]; show 1 + xs.length ≤ _; omega), fun r2 hr2 => ⟨_, rfl, _, rfl, ?_⟩⟩⟩
          have t21 := (NG.Same.upd (o := HO.lst [V.str "a"]) hq2).trans (NG.Same.upd (o := HO.lst ([V.str "a"] ++ xs.map V.str)) hr2)
          have er2 : (upd (upd H20 q2 (HO.lst [V.str "a"])) r2 (HO.lst ([V.str "a"] ++ xs.map V.str))) r2 = some (.lst ((("a" : Str) :: xs).map V.str)) := upd_same
          refine make_ok (.inl (SqL.of er2)) ok2 (by simp; omega) (fun y2 H21 s21 hy2 PY2 => ?_)
          have s01 := t21.trans s21
          have s91 := s90.trans s01
          have ny2 : y2 ≠ x := (ne_of_none (t21 _ _ (s90 _ _ px)) hy2).symm
          refine ⟨(by show 2 ≤ sizeLine; decide), fun L1 hL1 => ?_⟩
          have s12 := NG.Same.upd (o := HO.lst [V.ref y1, V.ref y2]) hL1
          have eL1 : (upd H21 L1 (HO.lst [V.ref y1, V.ref y2])) L1 = some (.lst [V.ref y1, V.ref y2]) := upd_same
          generalize upd H21 L1 (HO.lst [V.ref y1, V.ref y2]) = H22 at s12 eL1
          have s92 := s91.trans s12
          -- others + [..]
          refine ⟨_, rfl, _, rfl, _, rfl, _, rfl, _, rfl, make_ok (.inl (SqL.of (s92 _ _ e19))) ok (by omega) (fun y3 H23 s23 hy3 PY3 => ?_)⟩
          have ny3 : y3 ≠ x := (ne_of_none (s92 _ _ px) hy3).symm
          have s93 := s92.trans s23
          refine ⟨_, rfl, _, rfl, x, xs, ab, fo, rfl, PX.ext s93, (by omega), (by show 3 ≤ sizeLine; decide), fun L2 hL2 => ⟨L1, L2, _, _, rfl, rfl, SqL.of ((NG.Same.upd hL2) _ _ (s23 _ _ eL1)), SqL.of upd_same, (by show 2 + 3 ≤ sizeLine; decide), fun L3 hL3 => ?_⟩⟩
          have s34 := (NG.Same.upd (o := HO.lst [V.ref y3, dueV false t, V.str (textP xs ab fo)]) hL2).trans (NG.Same.upd (o := HO.lst ([V.ref y1, V.ref y2] ++ [V.ref y3, dueV false t, V.str (textP xs ab fo)])) hL3)
          have eL3 : (upd (upd H23 L2 (HO.lst [V.ref y3, dueV false t, V.str (textP xs ab fo)])) L3 (HO.lst ([V.ref y1, V.ref y2] ++ [V.ref y3, dueV false t, V.str (textP xs ab fo)]))) L3 = some (.lst [V.ref y1, V.ref y2, V.ref y3, V.ref t, V.str (textP xs ab fo)]) := upd_same
          generalize upd (upd H23 L2 (HO.lst [V.ref y3, dueV false t, V.str (textP xs ab fo)])) L3 (HO.lst ([V.ref y1, V.ref y2] ++ [V.ref y3, dueV false t, V.str (textP xs ab fo)])) = H25 at s34 eL3
          have s95 := s93.trans s34
          have PY1' : PathAt K C H25 y1 (xs ++ [("a" : Str)]) ab fo := PY1.ext (s01.trans (s12.trans (s23.trans s34)))
          have PY2' : PathAt K C H25 y2 (("a" : Str) :: xs) ab fo := PY2.ext (s12.trans (s23.trans s34))
          have PY3' : PathAt K C H25 y3 xs (!ab) fo := PY3.ext s34
          have s85 := s19.trans s95
          -- path != Path(tuple(steps), ..)
          refine ⟨_, rfl, _, rfl, D, _, rfl, .inl ⟨SqL.of (s95 _ _ e19), fun u5 hu5 => ⟨_, rfl, _, rfl, ?_⟩⟩⟩
          have s5u := NG.Same.upd (o := HO.tup (xs.map V.str)) hu5
          refine make_ok (.inr (SqT.of (upd_same (H := H25) (a := u5) (o := HO.tup (xs.map V.str))))) ok (by omega) (fun y4 H26 s26 hy4 PY4 => ?_)
          have s56 := s5u.trans s26
          have s96 := s95.trans s56
          obtain ⟨⟨d4, t4, p4, q4⟩⟩ := id PY4
          have PX26 : PathAt K C H26 x xs ab fo := PX.ext s96
          refine ⟨x, dx, _, .ref C, rfl, s96 _ _ px, .base (.ins p4 TP.cl TC.c1 TC.c2 TC.c3 TC.c4), nf_self, .inl ⟨x, y4, xs, xs, ab, fo, ab, fo, rfl, PX26, PY4, xk, xk, _, rfl, _, rfl, ?_⟩⟩
          rw [eqs]
          refine fin ?_
          -- path in others
          have eL26 := s56 _ _ eL3
          have et26 := s96 _ _ (s19 _ _ et18)
          have PY1'' := PY1'.ext s56
          have PY2'' := PY2'.ext s56
          have PY3'' := PY3'.ext s56
          obtain ⟨⟨g1, w1, z1, _⟩⟩ := id PY1''
          obtain ⟨⟨g2, w2, z2, _⟩⟩ := id PY2''
          obtain ⟨⟨g3, w3, z3, _⟩⟩ := id PY3''
          have px26 := s96 _ _ px
          refine ⟨_, rfl, _, rfl, L3, _, rfl, eL26, fun z hz => ?_, fun H27 s27 => ⟨_, rfl, iteF ?_⟩⟩
          · simp only [List.mem_cons, List.not_mem_nil, or_false] at hz
            rcases hz with rfl | rfl | rfl | rfl | rfl
            · refine .inl ⟨y1, x, g1, dx, _, _, rfl, rfl, ny1, z1, px26, y1, x, _, xs, ab, fo, ab, fo, rfl, rfl, PY1'', PX26, xk1, xk, ?_⟩
              unfold eqPath
              rw [decide_eq_false (fun q => by have := congrArg List.length q; simp at this)]
              rfl
            · refine .inl ⟨y2, x, g2, dx, _, _, rfl, rfl, ny2, z2, px26, y2, x, _, xs, ab, fo, ab, fo, rfl, rfl, PY2'', PX26, xk2, xk, ?_⟩
              unfold eqPath
              rw [decide_eq_false (fun q => by have := congrArg List.length q; simp at this)]
              rfl
            · refine .inl ⟨y3, x, g3, dx, _, _, rfl, rfl, ny3, z3, px26, y3, x, xs, xs, _, fo, ab, fo, rfl, rfl, PY3'', PX26, xk, xk, ?_⟩
              unfold eqPath
              cases ab <;> simp
            · refine .inr ⟨x, dx, _, rfl, px26, .inl ⟨t, _, rfl, ne_of et26 px26 (by intro q; cases q), SqT.of et26⟩, x, dx, _, rfl, px26, .inl ⟨t, _, rfl, et26⟩⟩
            · refine .inr ⟨x, dx, _, rfl, px26, .inr ⟨_, rfl⟩, x, dx, _, rfl, px26, .inr ⟨_, rfl⟩⟩
          -- steps.append("a")
          have s97 := s96.trans s27
          have e27 := s97 _ _ e19
          refine ⟨_, rfl, .inl ⟨rfl, _, SqL.of e27⟩, D, _, _, rfl, rfl, e27, by rw [List.length_map]; omega, ?_⟩
          have px27 := s97 _ _ px
          have qx27 : SqT K H27 tx (xs.map V.str) := Same.sqT s97 qx
          have nxD : x ≠ D := ne_of px27 e27 (by intro q; cases q)
          have px28 : (upd H27 D (.lst (xs.map V.str ++ [.str "a"]))) x = some (.ins C dx (pfl tx ab fo)) := by rw [upd_ne nxD]; exact px27
          have qx28 : SqT K (upd H27 D (.lst (xs.map V.str ++ [.str "a"]))) tx (xs.map V.str) := by
            rcases qx27 with (h | ⟨o, h⟩) | h
            · exact .inl (.inl (by rw [upd_ne (ne_of h e27 (by intro q; cases q))]; exact h))
            · exact .inl (.inr ⟨o, by rw [upd_ne (ne_of h e27 (by intro q; cases q))]; exact h⟩)
            · exact .inr h
          have et27 := s97 _ _ (s19 _ _ et18)
          have eu27 := s97 _ _ (s19 _ _ eu18)
          have et28 : (upd H27 D (.lst (xs.map V.str ++ [.str "a"]))) t = some (.tup [.ref u, .bl ab, .bl fo, .bl true]) := by rw [upd_ne (ne_of et27 e27 (by intro q; cases q))]; exact et27
          have eu28 : (upd H27 D (.lst (xs.map V.str ++ [.str "a"]))) u = some (.tup (xs.map V.str)) := by rw [upd_ne (ne_of eu27 e27 (by intro q; cases q))]; exact eu27
          have d27 := (d18.same s19).same s97
          have d28 : Dr p H5 (upd H27 D (.lst (xs.map V.str ++ [.str "a"]))) := dr_set d27 hD5 nDp
          generalize upd H27 D (.lst (xs.map V.str ++ [.str "a"])) = H28 at px28 qx28 et28 eu28 d28
          have PX28 : PathAt K C H28 x xs ab fo := ⟨⟨dx, tx, px28, qx28⟩⟩
          -- path.steps != due[0]
          refine ⟨_, rfl, x, C, dx, _, _, rfl, px28, TP.cl, TP.nS, pfl_steps _ _ _, _, rfl, t, _, _, _, rfl, rfl, SqT.of et28, rfl, ?_⟩
          refine ⟨_, _, dp_tup qx28, dp_tup (SqT.of eu28), shaped_tup xk, shaped_tup xk, _, rfl, ?_⟩
          rw [eqv_tup, decide_eq_true rfl]
          refine fin ?_
          -- not path == Path(due[0], ..)
          refine ⟨_, rfl, _, rfl, t, _, _, _, rfl, rfl, SqT.of et28, rfl, _, rfl, _, rfl, make_ok (.inr (SqT.of eu28)) ok (by omega) (fun y5 H29 s29 hy5 PY5 => ?_)⟩
          obtain ⟨⟨d5, t5, p5, q5⟩⟩ := id PY5
          refine ⟨x, dx, _, .ref C, rfl, s29 _ _ px28, .base (.ins p5 TP.cl TC.c1 TC.c2 TC.c3 TC.c4), nf_self, .inl ⟨x, y5, xs, xs, ab, fo, ab, fo, rfl, PX28.ext s29, PY5, xk, xk, _, rfl, _, rfl, ?_⟩⟩
          rw [eqs]
          refine fin ?_
          exact ⟨⟨_, _, _, _, _, _, _, _, _, rfl⟩, d28.same s29⟩
      · rintro σ H3 ⟨⟨v5, v6, v7, v8, v9, v10, v11, v12, v13, rfl⟩, dr⟩
        refine ⟨⟨_, _, _, _, _, _, _, _, _, _, _, _, _, rfl⟩, s1.trans fun b x e => dr.but b x (s15 _ _ e) (ne_of_none e hp)⟩
    · rintro σ H1 ⟨⟨v1, v2, v3, v4, v5, v6, v7, v8, v9, v10, v11, v12, v13, rfl⟩, s1⟩
      exact k _
end
end NW

set_option maxRecDepth 100000
set_option maxHeartbeats 8000000
namespace NW
open PySem L2 NG
/-! ### the end: what the top has written, and the head -/
theorem all_mk {l : PySem.W.OpenLaw} {w : World} {K : PySem.W.Frag} {h : Heap} {mg : Str → Option Value} {fa C CN CB fName fStep fEnds fI fE fBI fBad fRead fText fState fDigit fSaid fLaw : Addr} (X : K.In h) (G : h.Ns mainGlobals mg) (hfa : mg "law" = some (.ref fa)) {nmB qB : Str} {NB : Addr} {bsB bmB subB : List Value} {snB : List Str} {abB : Bool} {colB : Option Bool} {ddB od_fName an_fName od_fStep an_fStep od_fEnds an_fEnds od_fI an_fI od_fE an_fE od_fBI an_fBI od_fBad an_fBad od_fRead an_fRead od_fText an_fText od_fState an_fState od_fDigit an_fDigit od_fSaid an_fSaid od_fLaw an_fLaw : Option Addr} {m0 m1 m2 m3 m5 : Option Value} {tLN tLL : Tok} {sl_fName sl_fStep sl_fEnds sl_fI sl_fE sl_fBI sl_fBad sl_fRead sl_fText sl_fState sl_fDigit sl_fSaid sl_fLaw : Array (Option Value)} {oc_fName kV_fName dc_fName pm_fName cd_fName ct_fName oc_fStep kV_fStep dc_fStep pm_fStep cd_fStep ct_fStep oc_fEnds kV_fEnds dc_fEnds pm_fEnds cd_fEnds ct_fEnds oc_fI kV_fI dc_fI pm_fI cd_fI ct_fI oc_fE kV_fE dc_fE pm_fE cd_fE ct_fE oc_fBI kV_fBI dc_fBI pm_fBI cd_fBI ct_fBI oc_fBad kV_fBad dc_fBad pm_fBad cd_fBad ct_fBad oc_fRead kV_fRead dc_fRead pm_fRead cd_fRead ct_fRead oc_fText kV_fText dc_fText pm_fText cd_fText ct_fText oc_fState kV_fState dc_fState pm_fState cd_fState ct_fState oc_fDigit kV_fDigit dc_fDigit pm_fDigit cd_fDigit ct_fDigit oc_fSaid kV_fSaid dc_fSaid pm_fSaid cd_fSaid ct_fSaid oc_fLaw kV_fLaw dc_fLaw pm_fLaw cd_fLaw ct_fLaw : Value}
    (a_C : PySem.W.nsIn K mainGlobals "Path" = some (some (.ref C)))
    (k_C : PySem.W.keepIn K (.ref C) = true)
    (a_CN : PySem.W.nsIn K mainGlobals "NoPath" = some (some (.ref CN)))
    (k_CN : PySem.W.keepIn K (.ref CN) = true)
    (a_CB : PySem.W.nsIn K mainGlobals "BadText" = some (some (.ref CB)))
    (k_CB : PySem.W.keepIn K (.ref CB) = true)
    (pg_C : PySem.W.plainGet K C Str.empty = true)
    (hd_C : PySem.W.hasDictIn K C = true)
    (po_C : PySem.W.plainOver K C = true)
    (sa_C : PySem.W.findIn K (.ref C) "__setattr__" = some (some (.builtin "object.__setattr__")))
    (mk_C : PySem.W.makesIn K C = true)
    (na_C_steps : PySem.W.findIn K (.ref C) "steps" = some none)
    (na_C_absolute : PySem.W.findIn K (.ref C) "absolute" = some none)
    (na_C_folder : PySem.W.findIn K (.ref C) "folder" = some none)
    (c1 : PySem.W.findIn K (.ref C) "__class__" = some (some (.builtin "object.__class__")))
    (c2 : PySem.W.specialIn K (.builtin "object.__class__") "__get__" = some (some (.builtin "getset_descriptor.__get__")))
    (c3 : PySem.W.takesIn K (.builtin "object.__class__") = some true)
    (c4 : PySem.W.mroIn K C (.type "object") = some true)
    (e3 : PySem.W.subIn K (.ref C) (.type "object") = some true)
    (e4 : PySem.W.findIn K (.ref C) "__ne__" = some (some (.builtin "object.__ne__")))
    (xP : PySem.W.excIn K CN [.type "ValueError", .type "Exception", .type "BaseException", .type "object"] "ValueError.__new__" = true)
    (bP : PySem.W.subIn K (.ref CN) (.type "BaseException") = some true)
    (tP : PySem.W.typeIn K (.ref CN) = some (.type "type"))
    (xL : K.lookup CB = some (excClassObj nmB qB CB NB bsB bmB true snB subB abB colB ddB m0 m1 m2 m3 m5 "ValueError.__new__"))
    (xR : HandSPX.refsVE bmB = true)
    (saB : PySem.W.findIn K (.ref CB) "__setattr__" = some (some (.builtin "object.__setattr__")))
    (exB : PySem.W.subIn K (.ref CB) (.type "BaseException") = some true)
    (tyB : PySem.W.typeIn K (.ref CB) = some (.type "type"))
    (na_CB_place : PySem.W.findIn K (.ref CB) "place" = some none)
    (teN : PySem.W.exmOne K (.ref CN) (.ref CN) = some true)
    (xct : PySem.W.subIn K (.ref C) (.type "tuple") = some false)
    (xcs : PySem.W.subIn K (.ref C) (.type "str") = some false)
    (xkt : PySem.W.subIn K (.type "tuple") (.ref C) = some false)
    (xks : PySem.W.subIn K (.type "str") (.ref C) = some false)
    (xty : PySem.W.typeIn K (.ref C) = some (.type "type"))
    (gLN : PySem.W.nsIn K mainGlobals "LONGEST_NAME" = some (some (.int 12 tLN)))
    (gLL : PySem.W.nsIn K mainGlobals "NAME_LETTERS" = some (some (.str letters tLL)))
    (z_isinstance : PySem.W.nsIn K mainGlobals "isinstance" = some none)
    (z_str : PySem.W.nsIn K mainGlobals "str" = some none)
    (z_len : PySem.W.nsIn K mainGlobals "len" = some none)
    (z_all : PySem.W.nsIn K mainGlobals "all" = some none)
    (z_int : PySem.W.nsIn K mainGlobals "int" = some none)
    (z_abs : PySem.W.nsIn K mainGlobals "abs" = some none)
    (z_tuple : PySem.W.nsIn K mainGlobals "tuple" = some none)
    (z_range : PySem.W.nsIn K mainGlobals "range" = some none)
    (a_fName : PySem.W.nsIn K mainGlobals "is_name" = some (some (.ref fName)))
    (l_fName : K.lookup fName = some ⟨oc_fName, od_fName, .func (PySem.W.fnOf "is_name" "is_name" (defArgs sName) (defBody sName) (defScope sName) .none kV_fName dc_fName pm_fName an_fName cd_fName ct_fName), sl_fName⟩)
    (c_fName : PySem.W.codeIn K cd_fName "is_name" = true)
    (k_fName : PySem.W.keepIn K (.ref fName) = true)
    (a_fStep : PySem.W.nsIn K mainGlobals "is_step" = some (some (.ref fStep)))
    (l_fStep : K.lookup fStep = some ⟨oc_fStep, od_fStep, .func (PySem.W.fnOf "is_step" "is_step" (defArgs sStep) (defBody sStep) (defScope sStep) .none kV_fStep dc_fStep pm_fStep an_fStep cd_fStep ct_fStep), sl_fStep⟩)
    (c_fStep : PySem.W.codeIn K cd_fStep "is_step" = true)
    (k_fStep : PySem.W.keepIn K (.ref fStep) = true)
    (a_fEnds : PySem.W.nsIn K mainGlobals "ends_with_name" = some (some (.ref fEnds)))
    (l_fEnds : K.lookup fEnds = some ⟨oc_fEnds, od_fEnds, .func (PySem.W.fnOf "ends_with_name" "ends_with_name" (defArgs sEnds) (defBody sEnds) (defScope sEnds) .none kV_fEnds dc_fEnds pm_fEnds an_fEnds cd_fEnds ct_fEnds), sl_fEnds⟩)
    (c_fEnds : PySem.W.codeIn K cd_fEnds "ends_with_name" = true)
    (k_fEnds : PySem.W.keepIn K (.ref fEnds) = true)
    (a_fI : PySem.W.findIn K (.ref C) "__init__" = some (some (.ref fI)))
    (i_fI : PySem.W.isFn K (.ref fI) = true)
    (l_fI : K.lookup fI = some ⟨oc_fI, od_fI, .func (PySem.W.fnOf "__init__" "Path.__init__" (defArgs sInit) (defBody sInit) (defScope sInit) .none kV_fI dc_fI pm_fI an_fI cd_fI ct_fI), sl_fI⟩)
    (c_fI : PySem.W.codeIn K cd_fI "Path.__init__" = true)
    (k_fI : PySem.W.keepIn K (.ref fI) = true)
    (a_fE : PySem.W.findIn K (.ref C) "__eq__" = some (some (.ref fE)))
    (i_fE : PySem.W.isFn K (.ref fE) = true)
    (l_fE : K.lookup fE = some ⟨oc_fE, od_fE, .func (PySem.W.fnOf "__eq__" "Path.__eq__" (defArgs sEq) (defBody sEq) (defScope sEq) .none kV_fE dc_fE pm_fE an_fE cd_fE ct_fE), sl_fE⟩)
    (c_fE : PySem.W.codeIn K cd_fE "Path.__eq__" = true)
    (k_fE : PySem.W.keepIn K (.ref fE) = true)
    (a_fBI : PySem.W.findIn K (.ref CB) "__init__" = some (some (.ref fBI)))
    (i_fBI : PySem.W.isFn K (.ref fBI) = true)
    (l_fBI : K.lookup fBI = some ⟨oc_fBI, od_fBI, .func (PySem.W.fnOf "__init__" "BadText.__init__" (defArgs sBTI) (defBody sBTI) (defScope sBTI) .none kV_fBI dc_fBI pm_fBI an_fBI cd_fBI ct_fBI), sl_fBI⟩)
    (c_fBI : PySem.W.codeIn K cd_fBI "BadText.__init__" = true)
    (k_fBI : PySem.W.keepIn K (.ref fBI) = true)
    (tI : PySem.W.typeIn K (.ref fBI) = some (.type "function"))
    (a_fBad : PySem.W.nsIn K mainGlobals "bad_place" = some (some (.ref fBad)))
    (l_fBad : K.lookup fBad = some ⟨oc_fBad, od_fBad, .func (PySem.W.fnOf "bad_place" "bad_place" (defArgs sBad) (defBody sBad) (defScope sBad) .none kV_fBad dc_fBad pm_fBad an_fBad cd_fBad ct_fBad), sl_fBad⟩)
    (c_fBad : PySem.W.codeIn K cd_fBad "bad_place" = true)
    (k_fBad : PySem.W.keepIn K (.ref fBad) = true)
    (a_fRead : PySem.W.nsIn K mainGlobals "read_path" = some (some (.ref fRead)))
    (l_fRead : K.lookup fRead = some ⟨oc_fRead, od_fRead, .func (PySem.W.fnOf "read_path" "read_path" (defArgs sRead) (defBody sRead) (defScope sRead) .none kV_fRead dc_fRead pm_fRead an_fRead cd_fRead ct_fRead), sl_fRead⟩)
    (c_fRead : PySem.W.codeIn K cd_fRead "read_path" = true)
    (k_fRead : PySem.W.keepIn K (.ref fRead) = true)
    (a_fText : PySem.W.nsIn K mainGlobals "path_text" = some (some (.ref fText)))
    (l_fText : K.lookup fText = some ⟨oc_fText, od_fText, .func (PySem.W.fnOf "path_text" "path_text" (defArgs sText) (defBody sText) (defScope sText) .none kV_fText dc_fText pm_fText an_fText cd_fText ct_fText), sl_fText⟩)
    (c_fText : PySem.W.codeIn K cd_fText "path_text" = true)
    (k_fText : PySem.W.keepIn K (.ref fText) = true)
    (a_fState : PySem.W.nsIn K mainGlobals "_law_state" = some (some (.ref fState)))
    (l_fState : K.lookup fState = some ⟨oc_fState, od_fState, .func (PySem.W.fnOf "_law_state" "_law_state" (defArgs sState) (defBody sState) (defScope sState) .none kV_fState dc_fState pm_fState an_fState cd_fState ct_fState), sl_fState⟩)
    (c_fState : PySem.W.codeIn K cd_fState "_law_state" = true)
    (k_fState : PySem.W.keepIn K (.ref fState) = true)
    (a_fDigit : PySem.W.nsIn K mainGlobals "_law_digit" = some (some (.ref fDigit)))
    (l_fDigit : K.lookup fDigit = some ⟨oc_fDigit, od_fDigit, .func (PySem.W.fnOf "_law_digit" "_law_digit" (defArgs sDigit) (defBody sDigit) (defScope sDigit) .none kV_fDigit dc_fDigit pm_fDigit an_fDigit cd_fDigit ct_fDigit), sl_fDigit⟩)
    (c_fDigit : PySem.W.codeIn K cd_fDigit "_law_digit" = true)
    (k_fDigit : PySem.W.keepIn K (.ref fDigit) = true)
    (a_fSaid : PySem.W.nsIn K mainGlobals "_law_said" = some (some (.ref fSaid)))
    (l_fSaid : K.lookup fSaid = some ⟨oc_fSaid, od_fSaid, .func (PySem.W.fnOf "_law_said" "_law_said" (defArgs sSaid) (defBody sSaid) (defScope sSaid) .none kV_fSaid dc_fSaid pm_fSaid an_fSaid cd_fSaid ct_fSaid), sl_fSaid⟩)
    (c_fSaid : PySem.W.codeIn K cd_fSaid "_law_said" = true)
    (k_fSaid : PySem.W.keepIn K (.ref fSaid) = true)
    (a_fLaw : PySem.W.nsIn K mainGlobals "law" = some (some (.ref fLaw)))
    (l_fLaw : K.lookup fLaw = some ⟨oc_fLaw, od_fLaw, .func (PySem.W.fnOf "law" "law" (defArgs sLaw) (defBody sLaw) (defScope sLaw) .none kV_fLaw dc_fLaw pm_fLaw an_fLaw cd_fLaw ct_fLaw), sl_fLaw⟩)
    (c_fLaw : PySem.W.codeIn K cd_fLaw "law" = true)
    (k_fLaw : PySem.W.keepIn K (.ref fLaw) = true) :
    ∃ fd : FuncData, (∀ (s : Shared) (v : Value), BindsTo s fd ⟨[v], []⟩ [("_law_script", v)]) ∧ ∀ base : Heap, K.In base → base.Ns mainGlobals mg → FnOk l.prog w K mg base CX0 8 fa fd ["_law_script"] (spLaw K) := by
  have e := hfa.symm.trans (PySem.W.mg_of X G a_fLaw)
  cases e
  have F_fName := fun_mk (st := sName) l_fName c_fName k_fName
  have b_fName := F_fName.binds (ps := ["value"]) fun _ _ _ _ _ _ us hl => match us, hl with | [_], _ => rfl
  have F_fStep := fun_mk (st := sStep) l_fStep c_fStep k_fStep
  have b_fStep := F_fStep.binds (ps := ["value"]) fun _ _ _ _ _ _ us hl => match us, hl with | [_], _ => rfl
  have F_fEnds := fun_mk (st := sEnds) l_fEnds c_fEnds k_fEnds
  have b_fEnds := F_fEnds.binds (ps := ["steps"]) fun _ _ _ _ _ _ us hl => match us, hl with | [_], _ => rfl
  have F_fI := fun_mk (st := sInit) l_fI c_fI k_fI
  have b_fI := F_fI.binds (ps := ["self", "steps", "absolute", "folder"]) fun _ _ _ _ _ _ us hl => match us, hl with | [_, _, _, _], _ => rfl
  have F_fE := fun_mk (st := sEq) l_fE c_fE k_fE
  have b_fE := F_fE.binds (ps := ["self", "other"]) fun _ _ _ _ _ _ us hl => match us, hl with | [_, _], _ => rfl
  have F_fBI := fun_mk (st := sBTI) l_fBI c_fBI k_fBI
  have b_fBI := F_fBI.binds (ps := ["self", "place"]) fun _ _ _ _ _ _ us hl => match us, hl with | [_, _], _ => rfl
  have F_fBad := fun_mk (st := sBad) l_fBad c_fBad k_fBad
  have b_fBad := F_fBad.binds (ps := ["text"]) fun _ _ _ _ _ _ us hl => match us, hl with | [_], _ => rfl
  have F_fRead := fun_mk (st := sRead) l_fRead c_fRead k_fRead
  have b_fRead := F_fRead.binds (ps := ["text"]) fun _ _ _ _ _ _ us hl => match us, hl with | [_], _ => rfl
  have F_fText := fun_mk (st := sText) l_fText c_fText k_fText
  have b_fText := F_fText.binds (ps := ["path"]) fun _ _ _ _ _ _ us hl => match us, hl with | [_], _ => rfl
  have F_fState := fun_mk (st := sState) l_fState c_fState k_fState
  have b_fState := F_fState.binds (ps := ["_law_source"]) fun _ _ _ _ _ _ us hl => match us, hl with | [_], _ => rfl
  have F_fDigit := fun_mk (st := sDigit) l_fDigit c_fDigit k_fDigit
  have b_fDigit := F_fDigit.binds (ps := ["_law_state_here", "_law_base"]) fun _ _ _ _ _ _ us hl => match us, hl with | [_, _], _ => rfl
  have F_fSaid := fun_mk (st := sSaid) l_fSaid c_fSaid k_fSaid
  have b_fSaid := F_fSaid.binds (ps := ["_law_steps", "_law_absolute", "_law_folder"]) fun _ _ _ _ _ _ us hl => match us, hl with | [_, _, _], _ => rfl
  have F_fLaw := fun_mk (st := sLaw) l_fLaw c_fLaw k_fLaw
  have b_fLaw := F_fLaw.binds (ps := ["_law_script"]) fun _ _ _ _ _ _ us hl => match us, hl with | [_], _ => rfl
  have TA : TxtA mg := ⟨PySem.W.mg_none_of X G z_int, PySem.W.mg_none_of X G z_abs⟩
  have TN : TxtN K mg fName fStep fEnds := ⟨PySem.W.mg_none_of X G z_isinstance, PySem.W.mg_none_of X G z_str, PySem.W.mg_none_of X G z_len, PySem.W.mg_none_of X G z_all, ⟨_, PySem.W.mg_of X G gLN⟩, ⟨_, PySem.W.mg_of X G gLL⟩, PySem.W.mg_of X G a_fName, k_fName, PySem.W.mg_of X G a_fStep, k_fStep, PySem.W.mg_of X G a_fEnds, k_fEnds⟩
  have TP : TxtP K mg C CN := ⟨PySem.W.mg_none_of X G z_tuple, PySem.W.mg_of X G a_C, ⟨pg_C, hd_C, po_C, sa_C⟩, na_C_steps, na_C_absolute, na_C_folder, xP, PySem.W.mg_of X G a_CN, k_CN, bP, tP⟩
  have TC : TyC K C := ⟨c1, c2, c3, c4⟩
  have TE : EqC K C fE := ⟨a_fE, i_fE, e3, e4⟩
  have TB : TxtB K mg CB fBI fBad := ⟨⟨⟨nmB, qB, NB, bsB, bmB, snB, subB, abB, colB, ddB, m0, m1, m2, m3, m5, xL, xR⟩, saB, exB, tyB, k_CB⟩, na_CB_place, a_fBI, tI, PySem.W.mg_of X G a_CB, PySem.W.mg_of X G a_fBad, k_fBad⟩
  have TV : TxtV K mg CN fRead fText := ⟨teN, PySem.W.mg_of X G a_fRead, k_fRead, PySem.W.mg_of X G a_fText, k_fText⟩
  have TU : TxtW K mg fState fDigit fSaid := ⟨PySem.W.mg_none_of X G z_range, PySem.W.mg_of X G a_fDigit, k_fDigit, PySem.W.mg_of X G a_fState, k_fState, PySem.W.mg_of X G a_fSaid, k_fSaid⟩
  have XE : TxtX K C := ⟨xct, xcs, kit_own hd_C xty xkt rfl, kit_own hd_C xty xks rfl⟩
  have MP : Mk K C fI := ⟨mk_C, a_fI, i_fI, k_C⟩
  refine ⟨PySem.W.fnOf "law" "law" (defArgs sLaw) (defBody sLaw) (defScope sLaw) .none kV_fLaw dc_fLaw pm_fLaw an_fLaw cd_fLaw ct_fLaw, fun s u => .of_eq rfl, fun base _ _ => ?_⟩
  have g_name := ok_name (P := l.prog) (w := w) (base := base) F_fName TN
  have g_step := ok_step F_fStep TN g_name b_fName
  have g_ends := ok_ends (P := l.prog) (w := w) (base := base) F_fEnds TN
  have g_pinit := ok_pinit F_fI TN TP g_step b_fStep g_ends b_fEnds
  have g_peq := ok_peq (P := l.prog) (w := w) (base := base) F_fE TN TP TC
  have g_bti := ok_bti (P := l.prog) (w := w) (base := base) F_fBI TB
  have g_bad := ok_bad F_fBad TN g_step b_fStep
  have g_read := ok_read F_fRead TP TB g_bad b_fBad g_bti b_fBI MP g_pinit b_fI
  have g_text := ok_text F_fText TN TP g_ends b_fEnds
  have g_state := ok_state (P := l.prog) (w := w) (base := base) F_fState TA
  have g_digit := ok_digit (P := l.prog) (w := w) (base := base) F_fDigit TA
  have g_nameO := ok_nameO (P := l.prog) (w := w) (base := base) F_fName TN
  have g_stepO := ok_stepO F_fStep TN g_nameO b_fName
  have g_stepX : FnOk l.prog w K mg base CX0 2 fStep _ ["value"] spStepX := fnOk_or g_step g_stepO
  have g_pinitX := ok_pinitX F_fI TN TP g_stepX b_fStep g_ends b_fEnds
  have g_peqO := ok_peqO (P := l.prog) (w := w) (base := base) F_fE TN TP
  have g_peqX : FnOk l.prog w K mg base CX0 1 fE _ ["self", "other"] (spEqX K C) := fnOk_or g_peq g_peqO
  have g_said := ok_said F_fSaid TP TC TE TV g_read b_fRead g_text b_fText MP g_pinitX b_fI g_peqX b_fE
  exact ok_law F_fLaw TN TU TV TP TC TE XE g_digit b_fDigit g_state b_fState g_said b_fSaid g_text b_fText MP g_pinitX b_fI g_peqX b_fE
theorem walk {l : PySem.W.OpenLaw} {q : Program} {loose : List Str} {XP : (Str → Option Value) → Heap → Prop} {YP : World → Heap → Prop} {d : DefRec} {K : Params → PySem.W.Frag} (hn : l.most = some 63) (hdf : d.params.defaults = [])
    (hY : ∀ (w : World) (h : Heap), YP w h → (K w.params).In h)
    (F : ∀ (w : World) (mg : Str → Option Value) (fa : Addr) (h : Heap), (K w.params).In h → h.Ns mainGlobals mg → mg d.name = some (.ref fa) →
      ∃ fd : FuncData, (∀ (s : Shared) (u : Value), BindsTo s fd ⟨[u], []⟩ [("_law_script", u)]) ∧ ∀ base : Heap, (K w.params).In base → base.Ns mainGlobals mg → FnOk l.prog w (K w.params) mg base CX0 8 fa fd ["_law_script"] (spLaw (K w.params))) :
    PySem.W.WalkO q loose XP YP l.row.toRowW d [] (fun f vs => PySem.call f vs) :=
  L2.walk_of (n := 63) (k := 8) (x := "_law_script") (CX := fun _ => CX0) (sp := fun w => spLaw (K w.params)) hn (by decide) hdf ⟨rfl, by decide, by decide⟩ hY F (fun _ _ a ns hl _ hS => ⟨a, ns, rfl, hS, hl, fun _ => rfl⟩) fun _ _ _ _ _ z => z
end NW

open PySem PySem.W PyProof.Rows
set_option maxRecDepth 100000 in
set_option maxHeartbeats 0 in
theorem PySem.Challenge.cw_namewalk_k03_paths_as_things_holds : PySem.Challenge.rw_namewalk_k03_paths_as_things.Holds := by
  w_on; o_law; k_head; (case hw => w_witness2)
  k_fill
  refine NW.walk (l := PySem.Challenge.rw_namewalk_k03_paths_as_things) rfl rfl (fun w h Y => PySem.W.kIn_of Y) ?F
  case F =>
    intro w mg fa h KX G hmg
    refine' NW.all_mk KX G hmg ?a_C ?k_C ?a_CN ?k_CN ?a_CB ?k_CB ?pg_C ?hd_C ?po_C ?sa_C ?mk_C ?na_C_steps ?na_C_absolute ?na_C_folder ?c1 ?c2 ?c3 ?c4 ?e3 ?e4 ?xP ?bP ?tP ?xL ?xR ?saB ?exB ?tyB ?na_CB_place ?teN ?xct ?xcs ?xkt ?xks ?xty ?gLN ?gLL ?z_isinstance ?z_str ?z_len ?z_all ?z_int ?z_abs ?z_tuple ?z_range ?a_fName ?l_fName ?c_fName ?k_fName ?a_fStep ?l_fStep ?c_fStep ?k_fStep ?a_fEnds ?l_fEnds ?c_fEnds ?k_fEnds ?a_fI ?i_fI ?l_fI ?c_fI ?k_fI ?a_fE ?i_fE ?l_fE ?c_fE ?k_fE ?a_fBI ?i_fBI ?l_fBI ?c_fBI ?k_fBI ?tI ?a_fBad ?l_fBad ?c_fBad ?k_fBad ?a_fRead ?l_fRead ?c_fRead ?k_fRead ?a_fText ?l_fText ?c_fText ?k_fText ?a_fState ?l_fState ?c_fState ?k_fState ?a_fDigit ?l_fDigit ?c_fDigit ?k_fDigit ?a_fSaid ?l_fSaid ?c_fSaid ?k_fSaid ?a_fLaw ?l_fLaw ?c_fLaw ?k_fLaw
    (case a_C => k_is)
    (case k_C => k_is)
    (case a_CN => k_is)
    (case k_CN => k_is)
    (case a_CB => k_is)
    (case k_CB => k_is)
    (case pg_C => k_is)
    (case hd_C => k_is)
    (case po_C => k_is)
    (case sa_C => k_is)
    (case mk_C => k_is)
    (case na_C_steps => k_is)
    (case na_C_absolute => k_is)
    (case na_C_folder => k_is)
    (case c1 => k_is)
    (case c2 => k_is)
    (case c3 => k_is)
    (case c4 => k_is)
    (case e3 => k_is)
    (case e4 => k_is)
    (case xP => first | k_exc | k_is)
    (case bP => k_is)
    (case tP => k_is)
    (case xL => k_is)
    (case xR => first | decide +kernel | rfl | k_is)
    (case saB => k_is)
    (case exB => k_is)
    (case tyB => k_is)
    (case na_CB_place => k_is)
    (case teN => first | k_is | rfl | decide +kernel)
    (case xct => k_is)
    (case xcs => k_is)
    (case xkt => k_is)
    (case xks => k_is)
    (case xty => k_is)
    (case gLN => k_is)
    (case gLL => k_is)
    (case z_isinstance => k_is)
    (case z_str => k_is)
    (case z_len => k_is)
    (case z_all => k_is)
    (case z_int => k_is)
    (case z_abs => k_is)
    (case z_tuple => k_is)
    (case z_range => k_is)
    (case a_fName => k_is)
    (case l_fName => k_is)
    (case c_fName => k_is)
    (case k_fName => k_is)
    (case a_fStep => k_is)
    (case l_fStep => k_is)
    (case c_fStep => k_is)
    (case k_fStep => k_is)
    (case a_fEnds => k_is)
    (case l_fEnds => k_is)
    (case c_fEnds => k_is)
    (case k_fEnds => k_is)
    (case a_fI => k_is)
    (case i_fI => k_is)
    (case l_fI => k_is)
    (case c_fI => k_is)
    (case k_fI => k_is)
    (case a_fE => k_is)
    (case i_fE => k_is)
    (case l_fE => k_is)
    (case c_fE => k_is)
    (case k_fE => k_is)
    (case a_fBI => k_is)
    (case i_fBI => k_is)
    (case l_fBI => k_is)
    (case c_fBI => k_is)
    (case k_fBI => k_is)
    (case tI => k_is)
    (case a_fBad => k_is)
    (case l_fBad => k_is)
    (case c_fBad => k_is)
    (case k_fBad => k_is)
    (case a_fRead => k_is)
    (case l_fRead => k_is)
    (case c_fRead => k_is)
    (case k_fRead => k_is)
    (case a_fText => k_is)
    (case l_fText => k_is)
    (case c_fText => k_is)
    (case k_fText => k_is)
    (case a_fState => k_is)
    (case l_fState => k_is)
    (case c_fState => k_is)
    (case k_fState => k_is)
    (case a_fDigit => k_is)
    (case l_fDigit => k_is)
    (case c_fDigit => k_is)
    (case k_fDigit => k_is)
    (case a_fSaid => k_is)
    (case l_fSaid => k_is)
    (case c_fSaid => k_is)
    (case k_fSaid => k_is)
    (case a_fLaw => k_is)
    (case l_fLaw => k_is)
    (case c_fLaw => k_is)
    (case k_fLaw => k_is)
