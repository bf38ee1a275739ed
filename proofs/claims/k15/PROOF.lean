import PyProof.Rows.All
import Wide.All
import OpenK.AllK
import Wide.FinOn
import HandS.ForMost
import HandS.Rev
import HandS.TupAny
import HandS.IsInst
import HandS.Flow
import KE.GoesMore
import KE.GoesEnum
import HandS.SortInts
import HandS.Style
import HandS.TupLe
import HandS.TupMul
import PyProof.AutoSeq1
import HandS.Zip
import HandS.Base
import HandS.Call
import HandS.List
import HandS.Comp
import HandS.Dict
import HandS.Iter
import HandS.More
import PyProof.ZipIter
import PyProof.CallType
import PyProof.Walk
import PyProof.WalkLemmas
import PyProof.TupleOfSeq
import HandS.Walk
import HandS.Star
import HandS.Small
import HandS.NoneIn
import PySem.Challenge.RW_sortes_k15_scripts_at_their_bounds
set_option Elab.async false
set_option linter.all false
set_option maxRecDepth 100000
set_option maxHeartbeats 4000000
namespace Z
open PySem PySem.Spec PyProof.Rows L2
/-! xs[k] op= e: the item of a list read -/
theorem get_list {X : Cx} : PGet X (fun o i H Q => ∃ p xs k v, o = .ref p ∧ i = .int k ∧ SqL X.K H p xs ∧ 0 ≤ k ∧ xs[k.toNat]? = some v ∧ Q v H) := by
  intro pins s σ H o i ov iv Q I r1 r2 h
  obtain ⟨p, xs, k, v, rfl, rfl, hq, h0, hx, q⟩ := h
  cases r1
  obtain ⟨t, rfl⟩ := r2
  obtain ⟨its, r, pl, hz⟩ := I.list hq
  obtain ⟨u, eu, ru⟩ := r.get hx
  have hl := r.length
  have hn := line63
  have hlt : k.toNat < xs.length := by
    have := List.getElem?_eq_some_iff.mp hx
    exact this.1
  exact wpAny_getItem_list pl.isList h0 (by omega) (by simpa using eu) ⟨v, H, I, ru, q⟩
/-! enumerate of a tuple -/
theorem meets_enum_new1 {v : Value} {o : Obj} {F : Heap → Prop} (B : Begins v o F) :
    Meets (Builtin.«enumerate.__new__» ⟨[.type "enumerate", v], []⟩) (fun _ R s => F s.heap ∧
      R (.ok (.ret (.ref (s.heap.push o).objs.size))) { s with heap := (s.heap.push o).push { cls := .type "enumerate", data := .fields #[.none, .bool false, .ref s.heap.objs.size, rawInt 0, .none, .none] } }) :=
  .of_wp fun prog w A R s h => by
    obtain ⟨hp, g, d, tk, os⟩ := s
    obtain ⟨h1, h⟩ := h
    have hsub := sub_enumerate
    have q1 : ∀ {A' : Around} {E Q : Value → Shared → Prop}, Q (.ref hp.objs.size) ⟨hp.push o, g, d, tk, os⟩ → wpAny (model prog w) A' (pyIter v) Q E ⟨hp, g, d, tk, os⟩ :=
      fun q => B.iter prog w _ _ ⟨hp, g, d, tk, os⟩ _ h1 q
    wp_walk using q1
    refine wpAny_stack_any fun st => wpAny_pure ?_
    split
    · rename_i c _ _ _ _ _
      cases (c == Value.type "enumerate") <;> (wp_walk using q1; exact ⟨_, rfl, h⟩)
    · (wp_walk using q1; exact ⟨_, rfl, h⟩)
theorem enum_new1 {prog : Program} {w : World} {A : Around} {E : Value → Shared → Prop} {s : Shared} {v : Value} {o : Obj} {G : Heap → Prop} {Q : Value → Shared → Prop} (B : Begins v o G) (h1 : G s.heap)
    (h : ∀ h', IsEnum h' (s.heap.objs.size + 1) s.heap.objs.size 0 .none → h'.get? s.heap.objs.size = some o →
      (∀ b o, s.heap.get? b = some o → h'.get? b = some o) → Q (.ref (s.heap.objs.size + 1)) { s with heap := h' }) :
    wpAny (model prog w) A (call (.type "enumerate") [v]) Q E s := by
  refine callType_new F.called_enumerate (by decide) (F.typeCall_enumerate_1 _) (F.newCall_enumerate_1 _) (fun obj => F.args_object_init_2 obj _) F.entry_enumerate_new
    (meets_enum_new1 B) ⟨h1, ?_⟩
  have hz : (s.heap.push o).objs.size = s.heap.objs.size + 1 := Heap.size_push ..
  show _ ∧ _
  rw [hz]
  have he : IsEnum ((s.heap.push o).push { cls := .type "enumerate", data := .fields #[.none, .bool false, .ref s.heap.objs.size, rawInt 0, .none, .none] }) (s.heap.objs.size + 1) s.heap.objs.size 0 .none := by
    have e1 := Heap.get?_push_size (s.heap.push o) (o := { cls := .type "enumerate", data := .fields #[.none, .bool false, .ref s.heap.objs.size, rawInt 0, .none, .none] }) rfl
    rw [hz] at e1
    exact e1
  exact ⟨⟨_, he, rfl⟩, h _ he (Heap.get?_push_of_some _ (Heap.get?_push_size _ B.free)) fun b o x => Heap.get?_push_of_some _ (Heap.get?_push_of_some _ x)⟩
/-- the tuple at a, each item in a new pair -/
def IteT (K : PySem.W.Frag) (a : Addr) : It :=
  ⟨fun i H => ∃ (xs : List V) (x : V), SqT K H a xs ∧ xs[i]? = some x, fun i H v H' => ∃ T x, v = .ref T ∧ H T = none ∧ H' = upd H T (.tup [.int (i : Nat), x]) ∧ ∀ xs, SqT K H a xs → xs[i]? = some x, fun i H => ∃ xs : List V, SqT K H a xs ∧ xs.length ≤ i⟩
theorem enumT_end {prog : Program} {w : World} {A : Around} {E : Value → Shared → Prop} {s : Shared} {e it t : Addr} {i : Nat} {items : Array Value} {old : Value} {Q : Option Value → Shared → Prop} (hh : A.handled = none)
    (he : IsEnum s.heap e it i old) (hit : s.heap.IsTupleIter it t i) (ht : s.heap.IsTuple t items) (hx : items[i]? = none)
    (hQ : ∀ h', Heap.ExtBut it s.heap h' → Q none { s with heap := h' }) : wpAny (model prog w) A (pyNext (.ref e)) Q E s := by
  have hT : s.TypeIs (.ref e) "enumerate" := ⟨_, he, rfl⟩
  unfold pyNext
  refine wpAny_bind (wpAny_attempt (wpAny_callSpecial?_slot (name := Str.ofString "__next__") hT F.slot_enumerate_next
    (wpAny_call_entry F.slot_enumerate_next hT F.entry_enumerate_next ?_ (F.args_enumerate_next_1 _))))
  show wpAny _ _ (field (.ref e) 2 >>= _) _ _ _
  refine wpAny_bind (wpAny_field he rfl (x := .ref it) rfl ?_)
  refine wpAny_bind (wpAny_nextOf_tuple_end hh hit ht hx fun h' x he' hx' => ?_)
  obtain ⟨o, ho, hc⟩ := hx'
  refine wpAny_bind (wpAny_isInstance (T := "StopIteration") (b := true) ⟨o, ho, hc⟩ isSubtype_stop ?_)
  exact wpAny_pure (hQ _ he')
theorem turn_enumT {P : Program} {w : World} {K : PySem.W.Frag} {elts : List Expr} {kk : Nat} {tpos : Pos} (a e it : Addr) :
    Turn P w K (.Tuple elts kk tpos) (IteT K a) [e, it] e (fun i h => (∃ old, IsEnum h e it ((i : Nat) : Int) old) ∧ h.IsTupleIter it a i ∧ e ≠ it ∧ a ≠ it ∧ e ≠ a) where
  mem := by simp
  obj := fun i h st b hb => by
    obtain ⟨⟨old, he⟩, ⟨o, ho, hc, hd⟩, _⟩ := st
    have e' : b = e ∨ b = it := by simpa using hb
    rcases e' with z | z
    · rw [z]
      exact ⟨_, he, fun v q => nomatch q⟩
    · rw [z]
      exact ⟨o, ho, fun v q => by rw [hd] at q; cases q⟩
  keep := fun i h h' st k => by
    obtain ⟨⟨old, he⟩, hi, hne⟩ := st
    exact ⟨⟨old, k e (by simp) _ he⟩, hi.at fun o q => k it (by simp) o q, hne⟩
  item := by
    intro X hP hw hK hc i pins s σ H E I hf st hg
    subst hP hw hK
    obtain ⟨⟨old, he⟩, hit, hne, hai, hea⟩ := st
    obtain ⟨xs, x, hq, hx⟩ := hg
    obtain ⟨its, rv, p, hz⟩ := I.tuple hq
    obtain ⟨u, hu, ru⟩ := rv.get hx
    have hel : e < s.heap.objs.size := Heap.lt_size he
    have hil : it < s.heap.objs.size := by
      obtain ⟨_, q, _⟩ := hit
      exact Heap.lt_size q
    have hlt : i < its.toArray.size := by
      obtain ⟨h1, _⟩ := List.getElem?_eq_some_iff.mp hu
      simpa using h1
    have D := Draws.tuple (prog := X.prog) (w := X.w) (A := X.A.in1) (show X.A.in1.handled = none from I.ok.hd hc) it a hai its.toArray
    refine wpAny_pyNext_enum_itemD D he ⟨hit, p⟩ hlt hne (by simp [hne, hea]) fun u' h' tk hP ho hst' hT hsz hk => ?_
    have eu : u' = u := by
      have h2 : its.toArray[i]? = some u' := hP
      have h3 : its.toArray[i]? = some u := by simpa using hu
      rw [h2] at h3
      exact Option.some.inj h3
    subst eu
    refine ⟨_, rfl, wpAny_letOwnedTupleGo_enum (s := { s with heap := h', toks := tk + 1 }) ho fun h'' he' sb => ?_⟩
    have hT2 : h''.get? s.heap.objs.size = some { cls := .type "tuple", data := .seq #[.int i tk, u'] } := (sb.2 _ (Nat.ne_of_gt hel)).trans hT
    have new : ObjOk X.prog X.w (upd H s.heap.objs.size (.tup [.int (i : Nat), x])) h'' s.heap.objs.size (.tup [.int (i : Nat), x]) :=
      ⟨by show 2 ≤ sizeLine; decide, [.int i tk, u'], .cons ⟨_, rfl⟩ (.cons ru .nil), ⟨_, hT2, rfl, _, rfl⟩⟩
    have I1 : Inv X pins σ (upd H s.heap.objs.size (.tup [.int (i : Nat), x])) { s with heap := h'', toks := tk + 1 } :=
      I.turnedNew (ch := [e, it]) (fun b ob hb q => (sb.2 b (fun z => hb (by simp [z]))).trans (hk b ob (fun z => hb (by simp [z])) (fun z => hb (by simp [z])) q)) hf (Nat.le_refl _) new
    refine ⟨.ref s.heap.objs.size, _, I1, rfl, ⟨_, x, rfl, I.hok.fresh (Nat.le_refl _), rfl, fun ys hy => by rw [I.tuple_inj hy hq]; exact hx⟩, ⟨⟨u', ?_⟩, hst'.1.at fun o q => (sb.2 it (Ne.symm hne)).trans q, hne, hai, hea⟩, fun b hb => ?_⟩
    · have e1 : ((i + 1 : Nat) : Int) = (i : Int) + 1 := by omega
      rw [e1]
      exact he'
    · have hb' : b < s.heap.objs.size := by
        have e' : b = e ∨ b = it := by simpa using hb
        rcases e' with z | z
        · rw [z]; exact hel
        · rw [z]; exact hil
      rw [upd_ne (Nat.ne_of_lt hb')]
      exact (hf b hb).1
  done := by
    intro X hP hw hK hc i pins s σ H E I hf st hg
    subst hP hw hK
    obtain ⟨⟨old, he⟩, hit, hne, hai, hea⟩ := st
    obtain ⟨xs, hq, hx⟩ := hg
    obtain ⟨its, rv, p, hz⟩ := I.tuple hq
    obtain ⟨f0, f1, f2, f3, f4, f5⟩ := hf it (by simp)
    have hl := rv.length
    exact enumT_end (I.ok.hd hc) he hit p (by simp; omega) fun h' eb => ⟨rfl, I.turned (t' := s.toks) (fun b o hb q => eb b o hb q) f0 f1 f3 f4 f5⟩
  self := fun A i s Q E st h => by
    obtain ⟨⟨_, he⟩, _⟩ := st
    exact wpAny_pyIter_enum he h
def iEnumA (K : PySem.W.Frag) (ta : TA) : TI := fun σ H R => ta σ H fun vs H1 => ∃ a xs, vs = [.ref a] ∧ ((SqL K H1 a xs ∧ R (Ite K a) H1) ∨ (SqT K H1 a xs ∧ R (IteT K a) H1))
theorem pi_enumA {X : Cx} {e : Expr} {ta : TA} {p pos tpos : Pos} {elts : List Expr} {kk : Nat} (hg : Gl X "enumerate") (hm : X.mg "enumerate" = none) (ha : PA X [e] ta) (hs : starEach [e] X.env = [(false, eval e X.env)] := by rfl) :
    PI X (.Tuple elts kk tpos) (.Call (.Name "enumerate" p) [e] [] pos) (iEnumA X.K ta) := by
  refine ⟨fun pins s σ H R I h => ?_⟩
  refine Call_ (ld_blt I hg hm boot_enumerate (PyProof.Rows.callWith_type1 (thn (ha.run pos pins s σ H _ I h) fun us s1 ⟨vs, H1, I1, r1, q1⟩ => ?_) hs rfl))
  obtain ⟨a, xs, ex, q⟩ := q1
  subst ex
  cases r1 with
  | cons r rr =>
    cases rr
    cases r
    have fp : ∀ (H' : Hp) (b : Addr), b ∈ [s1.heap.objs.size + 1, s1.heap.objs.size] → FpOk X pins H1 b := fun _ b hb => by
      have e' : b = s1.heap.objs.size + 1 ∨ b = s1.heap.objs.size := by simpa using hb
      have hle : s1.heap.objs.size ≤ b := by
        rcases e' with z | z
        · rw [z]; exact Nat.le_add_right _ _
        · rw [z]; exact Nat.le_refl _
      exact I1.fpOk hle (I1.hok.fresh hle)
    rcases q with ⟨hq, q⟩ | ⟨hq, q⟩
    · obtain ⟨its, rv, p', hz⟩ := I1.list hq
      refine call_enumerate_list p'.isList fun h' he hit hsz hk => wpAny_pyIter_enum he ?_
      have I2 : Inv X pins σ H1 { s1 with heap := h' } := I1.kept (t' := s1.toks) hk
      exact ⟨s1.heap.objs.size + 1, [s1.heap.objs.size + 1, s1.heap.objs.size], _, _, H1, rfl, I2, turn_enum a (s1.heap.objs.size + 1) s1.heap.objs.size, ⟨⟨.none, he⟩, hit, Nat.succ_ne_self _⟩, fp H1, q⟩
    · obtain ⟨its, rv, p', hz⟩ := I1.tuple hq
      have ha : a < s1.heap.objs.size := p'.lt
      refine enum_new1 (begins_tuple a its.toArray) p' fun h' he hit hk => wpAny_pyIter_enum he ?_
      have I2 : Inv X pins σ H1 { s1 with heap := h' } := I1.kept (t' := s1.toks) hk
      exact ⟨s1.heap.objs.size + 1, [s1.heap.objs.size + 1, s1.heap.objs.size], _, _, H1, rfl, I2, turn_enumT a (s1.heap.objs.size + 1) s1.heap.objs.size, ⟨⟨.none, he⟩, ⟨_, hit, rfl, rfl⟩, Nat.succ_ne_self _, Nat.ne_of_lt ha, Nat.ne_of_gt (Nat.lt_succ_of_lt ha)⟩, fp H1, q⟩
/-- for i, x in enumerate(a tuple): each turn a new pair -/
theorem for_enumT {K : PySem.W.Frag} {a : Addr} {xs : List V} {g : TG} {tb : TS} {D : Ends} {σ : L2.St} {H : Hp} (Pv : Nat → L2.St → Hp → Prop) (h0 : Pv 0 σ H) (hl : ∀ i σ H, i ≤ xs.length → Pv i σ H → SqT K H a xs)
    (hs : ∀ i x σ H T, xs[i]? = some x → Pv i σ H → H T = none → g (.ref T) σ (upd H T (.tup [.int (i : Nat), x])) fun σ2 H2 => tb { D with nx := Pv (i + 1), ct := Pv (i + 1), bk := D.nx } σ2 H2) (hd : ∀ σ H, Pv xs.length σ H → D.nx σ H) :
    ∃ W : Nat → Nat → L2.St → Hp → Prop, (∃ m, W 0 m σ H) ∧ ∀ i m σ H, W i m σ H →
      ((IteT K a).stop i H ∧ D.nx σ H) ∨ ((IteT K a).go i H ∧ ∃ N : L2.St → Hp → Prop, (∀ σ' H', N σ' H' → ∃ m', m' < m ∧ W (i + 1) m' σ' H') ∧ ∀ x H', (IteT K a).yld i H x H' → g x σ H' fun σ2 H2 => tb { D with nx := N, ct := N, bk := D.nx } σ2 H2) := by
  refine ⟨fun i m σ H => m = xs.length - i ∧ i ≤ xs.length ∧ Pv i σ H, ⟨xs.length, by simp, Nat.zero_le _, h0⟩, ?_⟩
  rintro i m σ H ⟨rfl, hi, p⟩
  have q := hl i σ H hi p
  by_cases hlt : i < xs.length
  · refine .inr ⟨⟨xs, xs[i], q, by simp [hlt]⟩, Pv (i + 1), fun σ' H' p' => ⟨xs.length - (i + 1), by omega, rfl, hlt, p'⟩, fun x H' y => ?_⟩
    obtain ⟨T, y, rfl, nT, rfl, f⟩ := y
    exact hs i y σ H T (f xs q) p nT
  · have e : i = xs.length := by omega
    subst e
    exact .inl ⟨⟨xs, q, Nat.le_refl _⟩, hd σ H p⟩
end Z
namespace Z
open PySem PySem.Spec PyProof.Rows L2
/-! more rules -/
theorem piOr {X : Cx} {tg l : Expr} {w1 w2 : TI} (h1 : PI X tg l w1) (h2 : PI X tg l w2) : PI X tg l (fun σ H R => w1 σ H R ∨ w2 σ H R) :=
  ⟨fun pins s σ H R I h => h.elim (h1.run pins s σ H R I) (h2.run pins s σ H R I)⟩
def iAny (K : PySem.W.Frag) (tl : TE) : TI := fun σ H R => tl σ H fun x H1 => ∃ a, x = .ref a ∧ ((∃ xs, SqL K H1 a xs ∧ R (Itl K a) H1) ∨ (∃ xs, SqT K H1 a xs ∧ R (Itt K a) H1))
theorem pi_any {X : Cx} {tg l : Expr} {tl : TE} (hl : PE X l tl) : PI X tg l (iAny X.K tl) := by
  refine ⟨fun pins s σ H R I h => ?_⟩
  refine thn (hl.run pins s σ H _ I h) fun v s1 ⟨x, H1, I1, r1, q1⟩ => ?_
  obtain ⟨a, e, q⟩ := q1
  subst e
  cases r1
  rcases q with ⟨xs, hq, q⟩ | ⟨xs, hq, q⟩
  · obtain ⟨its, rv, p, hz⟩ := I1.list hq
    refine wpAny_pyIter_list p.isList ?_
    refine ⟨s1.heap.objs.size, [s1.heap.objs.size], _, _, H1, rfl, I1.kept (t' := s1.toks) fun b o e => Heap.get?_push_of_some _ e, turn_list a _, ⟨_, Heap.get?_push_size _ rfl, rfl, rfl⟩, fun b hb => ?_, q⟩
    have e : b = s1.heap.objs.size := by simpa using hb
    subst e
    exact I1.fpOk (Nat.le_refl _) (I1.hok.fresh (Nat.le_refl _))
  · obtain ⟨its, rv, p, hz⟩ := I1.tuple hq
    refine wpAny_pyIter_tuple (show s1.heap.IsTuple a its.toArray from p) ?_
    refine ⟨s1.heap.objs.size, [s1.heap.objs.size], _, _, H1, rfl, I1.kept (t' := s1.toks) fun b o e => Heap.get?_push_of_some _ e, turn_tuple a _, ⟨_, Heap.get?_push_size _ rfl, rfl, rfl⟩, fun b hb => ?_, q⟩
    have e : b = s1.heap.objs.size := by simpa using hb
    subst e
    exact I1.fpOk (Nat.le_refl _) (I1.hok.fresh (Nat.le_refl _))
/-- the rules of built-in calls under names -/
def rLen (K : PySem.W.Frag) : List V → Hp → VK → Prop := fun xs H Q => ∃ p ys, xs = [.ref p] ∧ (SqL K H p ys ∨ SqT K H p ys) ∧ Q (.int ys.length) H
theorem c_len {X : Cx} : CallR X (.builtin "len") (rLen X.K) := call_len_seq
def rMax2 : List V → Hp → VK → Prop := fun xs H Q => ∃ i j, xs = [.int i, .int j] ∧ Q (.int (if j > i then j else i)) H
theorem c_max2 {X : Cx} (hc : X.calm = true) : CallR X (.builtin "max") rMax2 := call_max2 hc
def rInt1 : List V → Hp → VK → Prop := fun xs H Q => (∃ i, xs = [.int i] ∧ Q (.int i) H) ∨ ∃ k, xs = [.bl k] ∧ Q (.int (if k then 1 else 0)) H
theorem c_int1 {X : Cx} : CallR X (.type "int") rInt1 := call_int1
def rTup (K : PySem.W.Frag) : List V → Hp → VK → Prop := fun xs H Q => ∃ p ys, xs = [.ref p] ∧ ((SqL K H p ys ∧ ∀ l, H l = none → Q (.ref l) (upd H l (.tup ys))) ∨ (SqT K H p ys ∧ Q (.ref p) H))
theorem c_tup {X : Cx} : CallR X (.type "tuple") (rTup X.K) := call_tuple_of
def kGetL (K : PySem.W.Frag) : V → V → Hp → VK → Prop := fun o i H Q => ∃ p xs k v, o = .ref p ∧ i = .int k ∧ SqL K H p xs ∧ 0 ≤ k ∧ xs[k.toNat]? = some v ∧ Q v H
theorem g_list {X : Cx} : PGet X (kGetL X.K) := get_list
def tTru (K : PySem.W.Frag) (ta : TE) : TT := fun σ H Q => ta σ H fun x H' => ∃ k, TruV K x H' k ∧ Q k H'
theorem pt_tru {X : Cx} {a : Expr} {ta : TE} (ha : PE X a ta) (he : ∀ whole, isTrue a X.env whole = (do let v ← whole; standAt a.pos; holding [v] (truthy v))) : PT X a (tTru X.K ta) := pt_truth ha he
/-! a def that keeps its promise, by its name -/
structure Good (P : Program) (w : World) (K : PySem.W.Frag) (mg : Str → Option Value) (base : Heap) (k : Nat) (x : Str) (ps : List Str) (sp : Sp) : Prop where
  ex : ∃ (f : Addr) (fd : FuncData), mg x = some (.ref f) ∧ PySem.W.keepIn K (.ref f) = true ∧ Binds K fd ps [] ∧ FnOk P w K mg base CX0 k f fd ps sp
theorem pe_callG {X : Cx} {k : Nat} {x : Str} {ps : List Str} {sp : Sp} {p pos : Pos} {e : Expr} {es : List Expr} {t : TA} (G : Good X.prog X.w X.K X.mg X.base k x ps sp) (hr : Room k X.A) (hg : Gl X x) (ha : PA X (e :: es) t)
    (hdb : (x == ("__debug__" : Str)) = false := by decide) (he : starEach (e :: es) X.env = (false, eval e X.env) :: starEach es X.env := by rfl) (hpl : (backTo pos (starEach es X.env)).any (·.1) = false := by rfl) :
    PE X (.Call (.Name x p) (e :: es) [] pos) (tCall sp [] E0 t) := by
  obtain ⟨f, fd, hm, hk, hb, F⟩ := G.ex
  exact pe_call F hr hg hm hk hb .nil pass0 ha hdb he hpl
theorem pe_callG0 {X : Cx} {k : Nat} {x : Str} {ps : List Str} {sp : Sp} {p pos : Pos} (G : Good X.prog X.w X.K X.mg X.base k x ps sp) (hr : Room k X.A) (hg : Gl X x)
    (hdb : (x == ("__debug__" : Str)) = false := by decide) : PE X (.Call (.Name x p) [] [] pos) (tCall sp [] E0 tNil) := by
  obtain ⟨f, fd, hm, hk, hb, F⟩ := G.ex
  exact pe_call0 F hr hg hm hk hb .nil pass0 hdb
/-- what the top leaves of a def -/
structure Has (K : PySem.W.Frag) (mg : Str → Option Value) (x : Str) (st : Stmt) (ps : List Str) : Prop where
  ex : ∃ (f : Addr) (fd : FuncData), Fun K x x st f fd ∧ mg x = some (.ref f) ∧ Binds K fd ps []
theorem Has.good {P : Program} {w : World} {K : PySem.W.Frag} {mg : Str → Option Value} {base : Heap} {x : Str} {st : Stmt} {N ps : List Str} {k : Nat} {sp : Sp} (h : Has K mg x st ps) (S : FnScope N ps (defScope st)) (len : ∀ vs H Q E, sp vs H Q E → vs.length = ps.length)
    (hbody : ∀ (f : Addr) (cdv : Value) (A : Around) (outer : List Env) (s : Shared) (H : Hp) (vs : List V) (Q : VK) (E : XK), Room k (A.deeper (envOfC x (defScope st) s.heap.objs.size f cdv)) → sp vs H Q E →
      ∃ t, PSs (cxOf CX0 P w K mg base N x (defScope st) f cdv A outer s H E).nox (defBody st) t ∧ t ⟨fun _ H' => Q .non H', Q, fun _ _ => False, fun _ _ => False⟩ (start N vs) H) : Good P w K mg base (k + 1) x ps sp := by
  obtain ⟨f, fd, F, hm, hb⟩ := h.ex
  exact ⟨f, fd, hm, F.kp, hb, F.ok S len (hbody f)⟩
/-! heaps -/
/-- all but the object at c is as it was -/
def But (c : Addr) (H H' : Hp) : Prop := ∀ b o, b ≠ c → H b = some o → H' b = some o
theorem But.of {c : Addr} {H H' : Hp} (h : Same H H') : But c H H' := fun b o _ e => h b o e
theorem But.refl (c : Addr) (H : Hp) : But c H H := fun _ _ _ e => e
theorem But.trans {c : Addr} {H H1 H2 : Hp} (a : But c H H1) (b : But c H1 H2) : But c H H2 := fun x o n e => b x o n (a x o n e)
theorem But.upd {c : Addr} {H : Hp} {o : HO} : But c H (L2.upd H c o) := fun b u n e => by
  rw [upd_ne n]
  exact e
theorem Same.new {H : Hp} {p : Addr} {o : HO} (h : H p = none) : Same H (L2.upd H p o) := fun b u e => by
  rw [upd_ne (ne_of_none e h)]
  exact e
/-- of an object that is new behind H, whatever was done to it -/
theorem But.same {c : Addr} {H H1 H2 : Hp} (b : But c H1 H2) (a : Same H H1) (n : H c = none) : Same H H2 := fun x o e => b x o (ne_of_none e n) (a x o e)
theorem Same.rd {H H' : Hp} {a : Addr} {u : HO} (e : Same H H') (h : Rd H a u) : Rd H' a u := by
  rcases h with h | ⟨o, h⟩
  · exact .inl (e _ _ h)
  · exact .inr ⟨o, e _ _ h⟩
theorem But.rd {c : Addr} {H H' : Hp} {a : Addr} {u : HO} (e : But c H H') (n : a ≠ c) (h : Rd H a u) : Rd H' a u := by
  rcases h with h | ⟨o, h⟩
  · exact .inl (e _ _ n h)
  · exact .inr ⟨o, e _ _ n h⟩
theorem sqt_same {K : PySem.W.Frag} {H H' : Hp} {a : Addr} {xs : List V} (e : Same H H') (h : SqT K H a xs) : SqT K H' a xs := h.elim (fun h => .inl (Same.rd e h)) .inr
theorem sql_same {K : PySem.W.Frag} {H H' : Hp} {a : Addr} {xs : List V} (e : Same H H') (h : SqL K H a xs) : SqL K H' a xs := h.elim (fun h => .inl (Same.rd e h)) .inr
theorem sql_but {K : PySem.W.Frag} {c : Addr} {H H' : Hp} {a : Addr} {xs : List V} (e : But c H H') (n : a ≠ c) (h : SqL K H a xs) : SqL K H' a xs := h.elim (fun h => .inl (But.rd e n h)) .inr
theorem sqt_but {K : PySem.W.Frag} {c : Addr} {H H' : Hp} {a : Addr} {xs ys : List V} (e : But c H H') (hc : H c = some (.lst ys)) (h : SqT K H a xs) : SqT K H' a xs := h.elim (fun h => .inl (But.rd e (fun z => by
  subst z
  rcases h with h | ⟨o, h⟩
  · rw [h] at hc
    cases hc
  · rw [h] at hc
    cases hc) h)) .inr
theorem Same.of_ {H H' : Hp} {a : Addr} {o : HO} (e : Same H H') (h : H a = some o) : H' a = some o := e _ _ h
theorem But.of_ {c : Addr} {H H' : Hp} {a : Addr} {o : HO} (e : But c H H') (n : a ≠ c) (h : H a = some o) : H' a = some o := e _ _ n h
theorem same_tr {H H1 H2 : Hp} (e : Same H1 H2) (h : Same H H1) : Same H H2 := h.trans e
theorem same_but {c : Addr} {H H1 H2 : Hp} (e : But c H1 H2) (h : Same H H1) (n : H c = none) : Same H H2 := But.same e h n
theorem but_tr {c : Addr} {H H1 H2 : Hp} (e : Same H1 H2) (h : But c H H1) : But c H H2 := h.trans (But.of e)
theorem but_trB {c : Addr} {H H1 H2 : Hp} (e : But c H1 H2) (h : But c H H1) : But c H H2 := h.trans e
theorem but_refl {c : Addr} {H : Hp} : But c H H := But.refl c H
theorem same_refl {H : Hp} : Same H H := Same.refl H
/-! what is asked of a value, its wish kept apart -/
def IsBl (x : V) (H : Hp) (F : Bool → Hp → Prop) : Prop := ∃ k, x = .bl k ∧ F k H
def IsTru (K : PySem.W.Frag) (x : V) (H : Hp) (F : Bool → Hp → Prop) : Prop := ∃ k, TruV K x H k ∧ F k H
def IsPart (x : V) (H : Hp) (F : Option Int → Hp → Prop) : Prop := ∃ i, x = .int i ∧ F (some i) H
def NewT (xs : List V) (H : Hp) (Q : VK) : Prop := xs.length ≤ sizeLine ∧ ∀ p, H p = none → Q (.ref p) (upd H p (.tup xs))
def NewL (xs : List V) (H : Hp) (Q : VK) : Prop := xs.length ≤ sizeLine ∧ ∀ p, H p = none → Q (.ref p) (upd H p (.lst xs))
def Rng1 (vs : List V) (H : Hp) (R : It → Hp → Prop) : Prop := ∃ j : Int, vs = [.int j] ∧ -(2 ^ 62) ≤ j ∧ j < 2 ^ 62 ∧ R (Itr 0 j.toNat) H
def Rng2 (vs : List V) (H : Hp) (R : It → Hp → Prop) : Prop := ∃ i j : Int, vs = [.int i, .int j] ∧ (-(2 ^ 62) ≤ i ∧ i < 2 ^ 62 ∧ -(2 ^ 62) ≤ j ∧ j < 2 ^ 62) ∧ R (Itr i (j - i).toNat) H
def Rng3 (vs : List V) (H : Hp) (R : It → Hp → Prop) : Prop := ∃ (i j c : Int) (n : Nat), vs = [.int i, .int j, .int c] ∧ RgC i j c n ∧ R (Itc i c n) H
def WlkL (K : PySem.W.Frag) (x : V) (H : Hp) (R : It → Hp → Prop) : Prop := ∃ a, x = .ref a ∧ (∃ xs, SqL K H a xs) ∧ R (Itl K a) H
def WlkT (K : PySem.W.Frag) (x : V) (H : Hp) (R : It → Hp → Prop) : Prop := ∃ a, x = .ref a ∧ (∃ xs, SqT K H a xs) ∧ R (Itt K a) H
def WlkA (K : PySem.W.Frag) (x : V) (H : Hp) (R : It → Hp → Prop) : Prop := ∃ a, x = .ref a ∧ ((∃ xs, SqL K H a xs ∧ R (Itl K a) H) ∨ (∃ xs, SqT K H a xs ∧ R (Itt K a) H))
def WlkE (K : PySem.W.Frag) (vs : List V) (H : Hp) (R : It → Hp → Prop) : Prop := ∃ a xs, vs = [.ref a] ∧ ((SqL K H a xs ∧ R (Ite K a) H) ∨ (SqT K H a xs ∧ R (IteT K a) H))
def WlkV (K : PySem.W.Frag) (v : V) (H : Hp) (R : It → Hp → Prop) : Prop := ∃ (a : Addr) (xs : List V), v = .ref a ∧ ((SqL K H a xs ∧ R (Itv K a xs.length) H) ∨ (SqT K H a xs ∧ R (RT.ItvT K a xs.length) H))
def ForW (g : TG) (tb : TS) (r : VK) (n : L2.St → Hp → Prop) (J : It) (σ : L2.St) (H : Hp) : Prop := ∃ W : Nat → Nat → L2.St → Hp → Prop, (∃ m, W 0 m σ H) ∧ ∀ i m σ H, W i m σ H →
  (J.stop i H ∧ n σ H) ∨ (J.go i H ∧ ∃ N : L2.St → Hp → Prop, (∀ σ' H', N σ' H' → ∃ m', m' < m ∧ W (i + 1) m' σ' H') ∧ ∀ x H', J.yld i H x H' → g x σ H' fun σ2 H2 => tb ⟨N, r, n, N⟩ σ2 H2)
def LcW (g : TG) (tt : TT) (te : TE) (vs : List Nat) (Q : VK) (σ : L2.St) (J : It) (H : Hp) : Prop := ∀ D, H D = none → ∃ W : Nat → Nat → Hp → Prop, (∃ m, W 0 m (upd H D (.lst []))) ∧ ∀ i m H, W i m H →
  (J.stop i H ∧ Q (.ref D) H) ∨ (J.go i H ∧ ∃ Nx : Hp → Prop, (∀ H', Nx H' → ∃ m', m' < m ∧ W (i + 1) m' H') ∧ ∀ x H', J.yld i H x H' → g x (wipe σ vs) H' fun σ2 H2 => wipe σ2 vs = wipe σ vs ∧ tt σ2 H2 fun b H3 =>
    if b = true then te σ2 H3 fun y H4 => ∃ acc, H4 D = some (.lst acc) ∧ acc.length < sizeLine ∧ Nx (upd H4 D (.lst (acc ++ [y]))) else Nx H3)
/-! branches -/
theorem ifP {p A B : Prop} [Decidable p] (h1 : p → A) (h2 : ¬ p → B) : if decide p = true then A else B := ite2 (fun e => h1 (of_decide_eq_true e)) (fun e => h2 fun z => e (decide_eq_true z))
theorem ifI {x y : Int} {A B : Prop} (h1 : x = y → A) (h2 : x ≠ y → B) : if decide (V.int x = V.int y) = true then A else B := ifP (fun e => h1 (V.int.inj e)) (fun e => h2 fun z => e (by rw [z]))
theorem ifN {x y : Int} {A B : Prop} (h1 : x ≠ y → A) (h2 : x = y → B) : if (!decide (V.int x = V.int y)) = true then A else B := by
  by_cases e : x = y
  · subst e
    rw [decide_eq_true rfl]
    exact iteF (h2 rfl)
  · rw [decide_eq_false (fun z => e (V.int.inj z))]
    exact iteT (h1 e)
theorem ifTrue {k : Bool} {A B : Prop} (e : k = true) (h : A) : if k = true then A else B := by
  rw [if_pos e]
  exact h
theorem ifFalse {k : Bool} {A B : Prop} (e : k = false) (h : B) : if k = true then A else B := by
  subst e
  exact iteF h
theorem item_int {ns : List Int} {i : Nat} {x : V} (e : (ns.map V.int)[i]? = some x) : x = .int (ns.getD i 0) ∧ i < ns.length := by
  rw [List.getElem?_map] at e
  cases h : ns[i]? with
  | none =>
    rw [h] at e
    cases e
  | some y =>
    rw [h] at e
    have e1 : V.int y = x := Option.some.inj e
    refine ⟨?_, (List.getElem?_eq_some_iff.mp h).1⟩
    rw [← e1, List.getD_eq_getElem?_getD, h]
    rfl
theorem at_int {ns : List Int} {i : Nat} (h : i < ns.length) : (ns.map V.int)[i]? = some (.int (ns.getD i 0)) := by
  rw [List.getElem?_map, List.getD_eq_getElem?_getD, List.getElem?_eq_getElem h]
  rfl
theorem range_map {ns : List Int} (f : Int → Int) : ((List.range ns.length).map fun i => V.int (f (ns.getD i 0))) = (ns.map f).map V.int := by
  refine List.ext_getElem? fun i => ?_
  simp only [List.getElem?_map]
  by_cases h : i < ns.length
  · rw [List.getElem?_range h, List.getElem?_eq_getElem h]
    simp [List.getD_eq_getElem?_getD, List.getElem?_eq_getElem h]
  · rw [List.getElem?_eq_none (by simpa using Nat.le_of_not_lt h), List.getElem?_eq_none (by simpa using Nat.le_of_not_lt h)]
    rfl
theorem ixN_nat {m i : Nat} (h : i < m) : ixN m (i : Int) = some i := by
  unfold ixN
  rw [if_pos (by omega), if_pos (by omega), Int.toNat_natCast]
theorem map_set (ns : List Int) (i : Nat) (x : Int) : (ns.map V.int).set i (.int x) = (ns.set i x).map V.int := by rw [List.map_set]
theorem flat_rep (m : Nat) (x : V) : (List.replicate m [x]).flatten = List.replicate m x := by simp
theorem at_nat {ns : List Int} {i : Int} (h0 : 0 ≤ i) (h : i < ns.length) : atI (ns.map V.int) i = some (.int (ns.getD i.toNat 0)) := at_of (j := i.toNat) (by omega) (at_int (by omega))
theorem at_end {ns : List Int} (h : ns ≠ []) : ∃ v : Int, atI (ns.map V.int) (-1) = some (.int v) := by
  refine ⟨ns.getLast h, ?_⟩
  have e : ns.map V.int = ns.dropLast.map V.int ++ [V.int (ns.getLast h)] := by
    rw [show [V.int (ns.getLast h)] = [ns.getLast h].map V.int from rfl, ← List.map_append, List.dropLast_concat_getLast]
  rw [e]
  exact atI_last _ _
theorem cut_to (xs : List V) (m : Nat) : cutV xs none (some (m : Int)) = xs.take m := by
  unfold cutV
  rw [show HT.sIx xs.length xs.length (some (m : Int)) = min m xs.length from HT.sIx_nat _ _ _, HT.sIx_none, List.drop_zero, Nat.sub_zero]
  rw [List.take_eq_take_iff]
  omega
/-- how many items the list at D has -/
def lenAt (H : Hp) (D : Addr) : Nat := match H D with
  | some (.lst xs) => xs.length
  | _ => 0
theorem lenAt_of {H : Hp} {D : Addr} {xs : List V} (h : H D = some (.lst xs)) : lenAt H D = xs.length := by
  unfold lenAt
  rw [h]
theorem snoc_cases {α : Type} (l : List α) : l = [] ∨ ∃ l0 a, l = l0 ++ [a] := by
  cases h : l.reverse with
  | nil => exact .inl (by simpa using h)
  | cons a r => exact .inr ⟨r.reverse, a, by rw [← List.reverse_reverse l, h, List.reverse_cons]⟩
/-! one step of a reading -/
section
variable {K : PySem.W.Frag} {σ : L2.St} {H : Hp} {n b c : L2.St → Hp → Prop} {r : VK} {Q : VK}
theorem s_seq {t u : TS} (h : t ⟨u ⟨n, r, b, c⟩, r, b, c⟩ σ H) : tSeq t u ⟨n, r, b, c⟩ σ H := h
theorem s_next (h : n σ H) : tNext ⟨n, r, b, c⟩ σ H := h
theorem s_break (h : b σ H) : tBreak ⟨n, r, b, c⟩ σ H := h
theorem s_cont (h : c σ H) : tCont ⟨n, r, b, c⟩ σ H := h
theorem s_asg {te : TE} {g : TG} (h : te σ H fun x H1 => g x σ H1 n) : tAsg te g ⟨n, r, b, c⟩ σ H := h
theorem s_aug {i : Nat} {te : TE} {ti : TIp} {x : V} (e : σ[i]? = some (some x)) (h : te σ H fun y H1 => ti x y H1 fun z H2 => n (σ.set i (some z)) H2) : tAug i te ti ⟨n, r, b, c⟩ σ H := ⟨x, e, h⟩
theorem s_augS {to ti te : TE} {tget : V → V → Hp → VK → Prop} {tip : TIp} {tset : TSet} (h : to σ H fun o H1 => ti σ H1 fun i H2 => tget o i H2 fun x H3 => te σ H3 fun y H4 => tip x y H4 fun z H5 => tset o i z H5 fun H6 => n σ H6) : tAugS to ti te tget tip tset ⟨n, r, b, c⟩ σ H := h
theorem s_drop {te : TE} (h : te σ H fun _ H1 => n σ H1) : tDrop te ⟨n, r, b, c⟩ σ H := h
theorem s_ret {te : TE} (h : te σ H r) : tRet te ⟨n, r, b, c⟩ σ H := h
theorem s_retN (h : r .non H) : tRetN ⟨n, r, b, c⟩ σ H := h
theorem s_if {tc : TT} {t u : TS} (h : tc σ H fun k H1 => if k = true then t ⟨n, r, b, c⟩ σ H1 else u ⟨n, r, b, c⟩ σ H1) : tIfS tc t u ⟨n, r, b, c⟩ σ H := h
/-- what is known behind a statement that has several ways -/
theorem s_cut {t : TS} (Pv : L2.St → Hp → Prop) (h1 : ∀ N : L2.St → Hp → Prop, (∀ σ' H', Pv σ' H' → N σ' H') → t ⟨N, r, b, c⟩ σ H) (h2 : ∀ σ' H', Pv σ' H' → n σ' H') : t ⟨n, r, b, c⟩ σ H := h1 n h2
theorem s_gname {i : Nat} {v : V} {F : L2.St → Hp → Prop} (h : F (σ.set i (some v)) H) : gName i v σ H F := h
theorem s_gtup {a : Addr} {xs : List V} {k : Nat} {t : TGs} {F : L2.St → Hp → Prop} (hx : SqT K H a xs) (hl : xs.length = k) (h : t xs σ H F) : gTup K k t (.ref a) σ H F := ⟨a, xs, rfl, hx, hl, h⟩
theorem s_gcons {t : TG} {u : TGs} {v : V} {vs : List V} {F : L2.St → Hp → Prop} (h : t v σ H fun σ' H' => u vs σ' H' F) : gCons t u (v :: vs) σ H F := ⟨v, vs, rfl, h⟩
theorem s_gnil {F : L2.St → Hp → Prop} (h : F σ H) : gNil [] σ H F := ⟨rfl, h⟩
theorem s_gsub {to ti : TE} {t : TSet} {v : V} {F : L2.St → Hp → Prop} (h : to σ H fun o H1 => ti σ H1 fun i H2 => t o i v H2 fun H3 => F σ H3) : gSub to ti t v σ H F := h
/-- expressions -/
theorem s_var {i : Nat} {v : V} (e : σ[i]? = some (some v)) (h : Q v H) : tVar i σ H Q := ⟨v, e, h⟩
theorem s_c {v : V} (h : Q v H) : tC v σ H Q := h
theorem s_op {r2 : R2} {ta tb : TE} (h : ta σ H fun x H1 => tb σ H1 fun y H2 => r2 x y H2 Q) : tOp r2 ta tb σ H Q := h
theorem s_un {f : V → Hp → VK → Prop} {ta : TE} (h : ta σ H fun x H1 => f x H1 Q) : tUn f ta σ H Q := h
theorem s_rI0 {g : Int → Int → V} {i j : Int} (h : Q (g i j) H) : rI0 g (.int i) (.int j) H Q := ⟨i, j, rfl, rfl, h⟩
theorem s_rI {C : Int → Int → Prop} {g : Int → Int → V} {i j : Int} (hc : C i j) (h : Q (g i j) H) : rI C g (.int i) (.int j) H Q := ⟨i, j, rfl, rfl, hc, h⟩
theorem s_rU {g : Int → V} {i : Int} (h : Q (g i) H) : rU g (.int i) H Q := ⟨i, rfl, h⟩
theorem s_rEq {x y : V} (hs : scal x y = true) (h : Q (.bl (decide (x = y))) H) : rEq x y H Q := ⟨hs, h⟩
theorem s_rNe {x y : V} (hs : scal x y = true) (h : Q (.bl (!decide (x = y))) H) : rNe x y H Q := ⟨hs, h⟩
theorem s_ipI {f : Int → Int → Int} {i j : Int} (h : Q (.int (f i j)) H) : ipI f (.int i) (.int j) H Q := ⟨i, j, rfl, rfl, h⟩
theorem s_call {sp : Sp} {E : XK} {t : TA} (h : t σ H fun vs H1 => sp vs H1 Q E) : tCall sp [] E t σ H Q := by
  unfold tCall
  simp only [List.append_nil]
  exact h
theorem s_nil {F : List V → Hp → Prop} (h : F [] H) : tNil σ H F := h
theorem s_cons {ta : TE} {tr : TA} {F : List V → Hp → Prop} (h : ta σ H fun x H1 => tr σ H1 fun xs H2 => F (x :: xs) H2) : tCons ta tr σ H F := h
theorem s_tup {t : TA} (h : t σ H fun xs H1 => NewT xs H1 Q) : tTup t σ H Q := h
theorem s_lst {t : TA} (h : t σ H fun xs H1 => NewL xs H1 Q) : tLst t σ H Q := h
theorem s_new {o : HO} {Q : VK} (h : ∀ p H', H p = none → Same H H' → H' p = some o → Q (.ref p) H') : ∀ p, H p = none → Q (.ref p) (upd H p o) := fun p np => h p _ np (Same.new np) upd_same
theorem s_newT {xs : List V} (hz : xs.length ≤ sizeLine) (h : ∀ p H', H p = none → Same H H' → H' p = some (.tup xs) → Q (.ref p) H') : NewT xs H Q := ⟨hz, s_new h⟩
theorem s_newL {xs : List V} (hz : xs.length ≤ sizeLine) (h : ∀ p H', H p = none → Same H H' → H' p = some (.lst xs) → Q (.ref p) H') : NewL xs H Q := ⟨hz, s_new h⟩
theorem s_cb {f : List V → Hp → VK → Prop} {t : TA} (h : t σ H fun vs H1 => f vs H1 Q) : tCB f t σ H Q := h
theorem s_lenT {p : Addr} {xs : List V} (hx : SqT K H p xs) (h : Q (.int xs.length) H) : rLen K [.ref p] H Q := ⟨p, xs, rfl, .inr hx, h⟩
theorem s_lenL {p : Addr} {xs : List V} (hx : SqL K H p xs) (h : Q (.int xs.length) H) : rLen K [.ref p] H Q := ⟨p, xs, rfl, .inl hx, h⟩
theorem s_max2 {i j : Int} (h : Q (.int (if j > i then j else i)) H) : rMax2 [.int i, .int j] H Q := ⟨i, j, rfl, h⟩
theorem s_int1 {i : Int} (h : Q (.int i) H) : rInt1 [.int i] H Q := .inl ⟨i, rfl, h⟩
theorem s_intB {k : Bool} (h : Q (.int (if k then 1 else 0)) H) : rInt1 [.bl k] H Q := .inr ⟨k, rfl, h⟩
theorem s_tupL {p : Addr} {xs : List V} (hx : SqL K H p xs) (h : ∀ q H', H q = none → Same H H' → H' q = some (.tup xs) → Q (.ref q) H') : rTup K [.ref p] H Q := ⟨p, xs, rfl, .inl ⟨hx, s_new h⟩⟩
theorem s_tupT {p : Addr} {xs : List V} (hx : SqT K H p xs) (h : Q (.ref p) H) : rTup K [.ref p] H Q := ⟨p, xs, rfl, .inr ⟨hx, h⟩⟩
theorem s_ixL {p : Addr} {xs : List V} {i : Int} {v : V} (hx : SqL K H p xs) (e : atI xs i = some v) (h : Q v H) : rIxL K (.ref p) (.int i) H Q := ⟨p, xs, i, v, rfl, rfl, hx, e, h⟩
theorem s_ixT {p : Addr} {xs : List V} {i : Int} {v : V} (hx : SqT K H p xs) (e : atI xs i = some v) (h : Q v H) : rIxT K (.ref p) (.int i) H Q := ⟨p, xs, i, v, rfl, rfl, hx, e, h⟩
theorem s_getL {p : Addr} {xs : List V} {k : Int} {v : V} (hx : SqL K H p xs) (h0 : 0 ≤ k) (e : xs[k.toNat]? = some v) (h : Q v H) : kGetL K (.ref p) (.int k) H Q := ⟨p, xs, k, v, rfl, rfl, hx, h0, e, h⟩
theorem s_setL {p : Addr} {xs : List V} {k : Int} {j : Nat} {v : V} {F : Hp → Prop} (hx : H p = some (.lst xs)) (e : ixN xs.length k = some j) (h : ∀ H', But p H H' → H' p = some (.lst (xs.set j v)) → F H') : rSetL (.ref p) (.int k) v H F := ⟨p, xs, k, j, rfl, rfl, hx, e, h _ But.upd upd_same⟩
theorem s_rep {p : Addr} {xs : List V} {k : Int} (hx : H p = some (.lst xs)) (h0 : -(2 ^ 63) ≤ k) (h1 : k < 2 ^ 63) (hz : xs.length * k.toNat ≤ sizeLine) (h : ∀ q H', H q = none → Same H H' → H' q = some (.lst (List.replicate k.toNat xs).flatten) → Q (.ref q) H') : rRep (.ref p) (.int k) H Q :=
  ⟨p, k, xs, rfl, rfl, hx, h0, h1, hz, s_new h⟩
theorem s_catL {p q : Addr} {xs ys : List V} (hx : H p = some (.lst xs)) (hy : H q = some (.lst ys)) (hz : xs.length + ys.length ≤ sizeLine) (h : ∀ l H', H l = none → Same H H' → H' l = some (.lst (xs ++ ys)) → Q (.ref l) H') : rCat (.ref p) (.ref q) H Q :=
  ⟨p, q, xs, ys, rfl, rfl, hx, hy, hz, s_new h⟩
theorem s_catA {p q : Addr} {xs ys : List V} (hx : SqT K H p xs) (hy : SqT K H q ys) (hz : xs.length + ys.length ≤ sizeLine) (h : ∀ l H', Same H H' → SqT K H' l (xs ++ ys) → Q (.ref l) H') : rCatA K (.ref p) (.ref q) H Q :=
  ⟨p, q, xs, ys, rfl, rfl, hx, hy, hz, fun e => h q H (Same.refl H) (by subst e; exact hy), fun _ e => h p H (Same.refl H) (by subst e; rw [List.append_nil]; exact hx), fun _ _ => s_new fun l H' _ sm e => h l H' sm (SqT.of e)⟩
def TyR (K : PySem.W.Frag) (T : String) (f : V → List V → Hp → VK → Prop) (t : TA) (σ : L2.St) (x : V) (H : Hp) (Q : VK) : Prop := tyV K T x H ∧ t σ H fun xs H2 => f x xs H2 Q
def TyR0 (K : PySem.W.Frag) (T : String) (f : V → List V → Hp → VK → Prop) (x : V) (H : Hp) (Q : VK) : Prop := tyV K T x H ∧ f x [] H Q
theorem s_bm {T : String} {f : V → List V → Hp → VK → Prop} {to : TE} {t : TA} (h : to σ H fun x H1 => TyR K T f t σ x H1 Q) : tBM K T f to t σ H Q := h
theorem s_bm0 {T : String} {f : V → List V → Hp → VK → Prop} {to : TE} (h : to σ H fun x H1 => TyR0 K T f x H1 Q) : tBM0 K T f to σ H Q := h
theorem s_tyL {p : Addr} {xs : List V} {f : V → List V → Hp → VK → Prop} {t : TA} (hx : H p = some (.lst xs)) (h : t σ H fun xs H2 => f (.ref p) xs H2 Q) : TyR K "list" f t σ (.ref p) H Q := ⟨.inl ⟨rfl, _, SqL.of hx⟩, h⟩
theorem s_tyL0 {p : Addr} {xs : List V} {f : V → List V → Hp → VK → Prop} (hx : H p = some (.lst xs)) (h : f (.ref p) [] H Q) : TyR0 K "list" f (.ref p) H Q := ⟨.inl ⟨rfl, _, SqL.of hx⟩, h⟩
theorem s_append {p : Addr} {xs : List V} {y : V} (hx : H p = some (.lst xs)) (hz : xs.length < sizeLine) (h : ∀ H', But p H H' → H' p = some (.lst (xs ++ [y])) → Q .non H') : rAppend (.ref p) [y] H Q := ⟨p, xs, y, rfl, rfl, hx, hz, h _ But.upd upd_same⟩
theorem s_pop {p : Addr} {xs : List V} {y : V} (hx : H p = some (.lst xs)) (e : xs[xs.length - 1]? = some y) (h : ∀ H', But p H H' → H' p = some (.lst xs.dropLast) → Q y H') : rPop (.ref p) [] H Q := ⟨p, xs, y, rfl, rfl, hx, e, h _ But.upd upd_same⟩
theorem s_popAt {p : Addr} {xs : List V} {y : V} {i : Int} (hx : H p = some (.lst xs)) (h0 : 0 ≤ i) (hi : i < 2 ^ 63) (e : xs[i.toNat]? = some y) (h : ∀ H', But p H H' → H' p = some (.lst (xs.eraseIdx i.toNat)) → Q y H') : rPopAt (.ref p) [.int i] H Q := by
  have hl := (List.getElem?_eq_some_iff.mp e).1
  exact ⟨p, xs, i, i.toNat, y, rfl, rfl, hx, by omega, hi, seqIndex_of h0 (by omega), e, h _ But.upd upd_same⟩
/-- tests -/
theorem s_test {te : TE} {F : Bool → Hp → Prop} (h : te σ H fun x H' => IsBl x H' F) : tTest te σ H F := h
theorem s_tB {te : TE} {F : Bool → Hp → Prop} (h : te σ H fun x H' => IsBl x H' F) : tB te σ H F := h
theorem s_bl {k : Bool} {F : Bool → Hp → Prop} (h : F k H) : IsBl (.bl k) H F := ⟨k, rfl, h⟩
theorem s_and {t u : TT} {F : Bool → Hp → Prop} (h : t σ H fun k H1 => if k = true then u σ H1 F else F false H1) : tAnd t u σ H F := h
theorem s_or {t u : TT} {F : Bool → Hp → Prop} (h : t σ H fun k H1 => if k = true then F true H1 else u σ H1 F) : tOr t u σ H F := h
theorem s_not {t : TT} {F : Bool → Hp → Prop} (h : t σ H fun k H1 => F (!k) H1) : tNot t σ H F := h
theorem s_tru {ta : TE} {F : Bool → Hp → Prop} (h : ta σ H fun x H' => IsTru K x H' F) : tTru K ta σ H F := h
theorem s_truL {p : Addr} {xs : List V} {F : Bool → Hp → Prop} (hx : SqL K H p xs) (h : F (!xs.isEmpty) H) : IsTru K (.ref p) H F := ⟨_, .inl ⟨xs, hx, rfl⟩, h⟩
theorem s_truT {p : Addr} {xs : List V} {F : Bool → Hp → Prop} (hx : SqT K H p xs) (h : F (!xs.isEmpty) H) : IsTru K (.ref p) H F := ⟨_, .inr (.inl ⟨xs, hx, rfl⟩), h⟩
/-- loops -/
theorem s_for {wi : TI} {g : TG} {tb : TS} (h : wi σ H fun J H1 => ForW g tb r n J σ H1) : tFor wi g tb ⟨n, r, b, c⟩ σ H := h
theorem s_rng1 {ta : TA} {R : It → Hp → Prop} (h : ta σ H fun vs H1 => Rng1 vs H1 R) : iRng1 ta σ H R := h
theorem s_rng2 {ta : TA} {R : It → Hp → Prop} (h : ta σ H fun vs H1 => Rng2 vs H1 R) : iRng2 ta σ H R := h
theorem s_rng3 {ta : TA} {R : It → Hp → Prop} (h : ta σ H fun vs H1 => Rng3 vs H1 R) : iRng3 ta σ H R := h
theorem s_rng1v {j : Int} {R : It → Hp → Prop} (h0 : -(2 ^ 62) ≤ j) (h1 : j < 2 ^ 62) (h : R (Itr 0 j.toNat) H) : Rng1 [.int j] H R := ⟨j, rfl, h0, h1, h⟩
theorem s_rng2v {i j : Int} {R : It → Hp → Prop} (h0 : -(2 ^ 62) ≤ i) (h1 : i < 2 ^ 62) (h2 : -(2 ^ 62) ≤ j) (h3 : j < 2 ^ 62) (h : R (Itr i (j - i).toNat) H) : Rng2 [.int i, .int j] H R := ⟨i, j, rfl, ⟨h0, h1, h2, h3⟩, h⟩
theorem s_rng3v {i j c : Int} {m : Nat} {R : It → Hp → Prop} (hc : RgC i j c m) (h : R (Itc i c m) H) : Rng3 [.int i, .int j, .int c] H R := ⟨i, j, c, m, rfl, hc, h⟩
theorem s_ilist {tl : TE} {R : It → Hp → Prop} (h : tl σ H fun x H1 => WlkL K x H1 R) : iList K tl σ H R := h
theorem s_ilistv {a : Addr} {xs : List V} {R : It → Hp → Prop} (hx : SqL K H a xs) (h : R (Itl K a) H) : WlkL K (.ref a) H R := ⟨a, rfl, ⟨xs, hx⟩, h⟩
theorem s_itup {tl : TE} {R : It → Hp → Prop} (h : tl σ H fun x H1 => WlkT K x H1 R) : iTup K tl σ H R := h
theorem s_itupv {a : Addr} {xs : List V} {R : It → Hp → Prop} (hx : SqT K H a xs) (h : R (Itt K a) H) : WlkT K (.ref a) H R := ⟨a, rfl, ⟨xs, hx⟩, h⟩
theorem s_iany {tl : TE} {R : It → Hp → Prop} (h : tl σ H fun x H1 => WlkA K x H1 R) : iAny K tl σ H R := h
theorem s_ianyL {a : Addr} {xs : List V} {R : It → Hp → Prop} (hx : SqL K H a xs) (h : R (Itl K a) H) : WlkA K (.ref a) H R := ⟨a, rfl, .inl ⟨xs, hx, h⟩⟩
theorem s_ianyT {a : Addr} {xs : List V} {R : It → Hp → Prop} (hx : SqT K H a xs) (h : R (Itt K a) H) : WlkA K (.ref a) H R := ⟨a, rfl, .inr ⟨xs, hx, h⟩⟩
theorem s_ienum {ta : TA} {R : It → Hp → Prop} (h : ta σ H fun vs H1 => WlkE K vs H1 R) : iEnumA K ta σ H R := h
theorem s_ienumT {a : Addr} {xs : List V} {R : It → Hp → Prop} (hx : SqT K H a xs) (h : R (IteT K a) H) : WlkE K [.ref a] H R := ⟨a, xs, rfl, .inr ⟨hx, h⟩⟩
theorem s_ienumL {a : Addr} {xs : List V} {R : It → Hp → Prop} (hx : SqL K H a xs) (h : R (Ite K a) H) : WlkE K [.ref a] H R := ⟨a, xs, rfl, .inl ⟨hx, h⟩⟩
theorem s_irev {te : TE} {R : It → Hp → Prop} (h : te σ H fun v H1 => WlkV K v H1 R) : RT.iRevA K te σ H R := h
theorem s_irevT {a : Addr} {xs : List V} {R : It → Hp → Prop} (hx : SqT K H a xs) (h : R (RT.ItvT K a xs.length) H) : WlkV K (.ref a) H R := ⟨a, xs, rfl, .inr ⟨hx, h⟩⟩
theorem s_irevL {a : Addr} {xs : List V} {R : It → Hp → Prop} (hx : SqL K H a xs) (h : R (Itv K a xs.length) H) : WlkV K (.ref a) H R := ⟨a, xs, rfl, .inl ⟨hx, h⟩⟩
/-- loops by an invariant over the turn -/
theorem w_list {g : TG} {tb : TS} {a : Addr} {xs : List V} (Pv : Nat → L2.St → Hp → Prop) (h0 : Pv 0 σ H) (hl : ∀ i σ H, i ≤ xs.length → Pv i σ H → SqL K H a xs)
    (hs : ∀ i x σ H, xs[i]? = some x → Pv i σ H → g x σ H fun σ2 H2 => tb ⟨Pv (i + 1), r, n, Pv (i + 1)⟩ σ2 H2) (hd : ∀ σ H, Pv xs.length σ H → n σ H) : ForW g tb r n (Itl K a) σ H :=
  for_list (D := ⟨n, r, fun _ _ => False, fun _ _ => False⟩) Pv h0 hl hs hd
theorem w_tup {g : TG} {tb : TS} {a : Addr} {xs : List V} (Pv : Nat → L2.St → Hp → Prop) (h0 : Pv 0 σ H) (hl : ∀ i σ H, i ≤ xs.length → Pv i σ H → SqT K H a xs)
    (hs : ∀ i x σ H, xs[i]? = some x → Pv i σ H → g x σ H fun σ2 H2 => tb ⟨Pv (i + 1), r, n, Pv (i + 1)⟩ σ2 H2) (hd : ∀ σ H, Pv xs.length σ H → n σ H) : ForW g tb r n (Itt K a) σ H :=
  for_tup (D := ⟨n, r, fun _ _ => False, fun _ _ => False⟩) Pv h0 hl hs hd
theorem w_range {g : TG} {tb : TS} {lo : Int} {m : Nat} (Pv : Nat → L2.St → Hp → Prop) (h0 : Pv 0 σ H)
    (hs : ∀ i σ H, i < m → Pv i σ H → g (.int (lo + i)) σ H fun σ2 H2 => tb ⟨Pv (i + 1), r, n, Pv (i + 1)⟩ σ2 H2) (hd : ∀ σ H, Pv m σ H → n σ H) : ForW g tb r n (Itr lo m) σ H :=
  for_range (D := ⟨n, r, fun _ _ => False, fun _ _ => False⟩) Pv h0 hs hd
theorem w_rangeC {g : TG} {tb : TS} {lo c' : Int} {m : Nat} (Pv : Nat → L2.St → Hp → Prop) (h0 : Pv 0 σ H)
    (hs : ∀ i σ H, i < m → Pv i σ H → g (.int (lo + i * c')) σ H fun σ2 H2 => tb ⟨Pv (i + 1), r, n, Pv (i + 1)⟩ σ2 H2) (hd : ∀ σ H, Pv m σ H → n σ H) : ForW g tb r n (Itc lo c' m) σ H :=
  for_rangeC (D := ⟨n, r, fun _ _ => False, fun _ _ => False⟩) Pv h0 hs hd
theorem w_enumT {g : TG} {tb : TS} {a : Addr} {xs : List V} (Pv : Nat → L2.St → Hp → Prop) (h0 : Pv 0 σ H) (hl : ∀ i σ H, i ≤ xs.length → Pv i σ H → SqT K H a xs)
    (hs : ∀ i x σ H T H', xs[i]? = some x → Pv i σ H → H T = none → Same H H' → H' T = some (.tup [.int (i : Nat), x]) → g (.ref T) σ H' fun σ2 H2 => tb ⟨Pv (i + 1), r, n, Pv (i + 1)⟩ σ2 H2) (hd : ∀ σ H, Pv xs.length σ H → n σ H) : ForW g tb r n (IteT K a) σ H :=
  for_enumT (D := ⟨n, r, fun _ _ => False, fun _ _ => False⟩) Pv h0 hl (fun i x σ H T e p nT => hs i x σ H T _ e p nT (Same.new nT) upd_same) hd
theorem w_revT {g : TG} {tb : TS} {a : Addr} {xs : List V} (Pv : Nat → L2.St → Hp → Prop) (h0 : Pv 0 σ H) (hq : ∀ i σ H, Pv i σ H → SqT K H a xs)
    (hs : ∀ (i : Nat) (x : V) (σ : L2.St) (H : Hp), i < xs.length → xs[xs.length - 1 - i]? = some x → Pv i σ H → g x σ H fun σ2 H2 => tb ⟨Pv (i + 1), r, n, Pv (i + 1)⟩ σ2 H2) (hd : ∀ σ H, Pv xs.length σ H → n σ H) : ForW g tb r n (RT.ItvT K a xs.length) σ H :=
  RT.for_ItvT (D := ⟨n, r, fun _ _ => False, fun _ _ => False⟩) Pv h0 hq hs hd
/-- the int in a slot -/
def ival (σ : L2.St) (i : Nat) : Int := match σ[i]? with
  | some (some (.int k)) => k
  | _ => 0
theorem s_wh {tc : TT} {tb : TS} (Pv : L2.St → Hp → Prop) (μ : L2.St → Hp → Nat) (h0 : Pv σ H) (hs : ∀ σ H, Pv σ H → tc σ H (fun k H1 => if k = true then ∃ N : L2.St → Hp → Prop, (∀ σ' H', N σ' H' → ∃ m', m' < μ σ H ∧ m' = μ σ' H' ∧ Pv σ' H') ∧ tb ⟨N, r, n, N⟩ σ H1 else n σ H1)) :
    tWhile tc tb ⟨n, r, b, c⟩ σ H := by
  refine ⟨fun m σ H => m = μ σ H ∧ Pv σ H, ⟨_, rfl, h0⟩, ?_⟩
  rintro m σ H ⟨rfl, p⟩
  exact hs σ H p
theorem s_wN {tb : TS} {Pv : L2.St → Hp → Prop} {μ : L2.St → Hp → Nat} {m : Nat} (h : tb ⟨fun σ' H' => Pv σ' H' ∧ μ σ' H' < m, r, n, fun σ' H' => Pv σ' H' ∧ μ σ' H' < m⟩ σ H) : ∃ N : L2.St → Hp → Prop, (∀ σ' H', N σ' H' → ∃ m', m' < m ∧ m' = μ σ' H' ∧ Pv σ' H') ∧ tb ⟨N, r, n, N⟩ σ H :=
  ⟨_, fun σ' H' x => ⟨_, x.2, rfl, x.1⟩, h⟩
/-- slices -/
theorem s_sl {f : V → Option Int → Option Int → Hp → VK → Prop} {te : TE} {tl th : TO} (h : te σ H fun x H1 => tl σ H1 fun l H2 => th σ H2 fun u H3 => f x l u H3 Q) : tSl f te tl th σ H Q := h
theorem s_part {t : TE} {F : Option Int → Hp → Prop} (h : t σ H fun x H1 => IsPart x H1 F) : tPart t σ H F := h
theorem s_partv {i : Int} {F : Option Int → Hp → Prop} (h : F (some i) H) : IsPart (.int i) H F := ⟨i, rfl, h⟩
theorem s_noPart {F : Option Int → Hp → Prop} (h : F none H) : tNoPart σ H F := h
theorem s_slL {p : Addr} {xs : List V} {lo hi : Option Int} (hx : SqL K H p xs) (h : ∀ q H', H q = none → Same H H' → H' q = some (.lst (cutV xs lo hi)) → Q (.ref q) H') : rSlL K (.ref p) lo hi H Q := ⟨p, xs, rfl, hx, s_new h⟩
/-- comprehensions -/
theorem s_lc {wi : TI} {g : TG} {tt : TT} {te : TE} {vs : List Nat} (h : wi σ H fun J H1 => LcW g tt te vs Q σ J H1) : tLc wi g tt te vs σ H Q := h
def LcEnd (D : Addr) (Nx : Hp → Prop) (y : V) (H : Hp) : Prop := ∃ acc, H D = some (.lst acc) ∧ acc.length < sizeLine ∧ Nx (upd H D (.lst (acc ++ [y])))
theorem s_lcEnd {D : Addr} {acc : List V} {y : V} {Nx : Hp → Prop} (hD : H D = some (.lst acc)) (hz : acc.length < sizeLine) (h : ∀ H', But D H H' → H' D = some (.lst (acc ++ [y])) → Nx H') : LcEnd D Nx y H := ⟨acc, hD, hz, h _ But.upd upd_same⟩
/-- .. by an invariant over the turn and what the new list at D holds -/
theorem l_range {g : TG} {tt : TT} {te : TE} {vs : List Nat} {lo : Int} {m : Nat} (Pv : Addr → Nat → Hp → Prop) (h0 : ∀ D H', H D = none → Same H H' → H' D = some (.lst []) → Pv D 0 H')
    (hs : ∀ D i H, i < m → Pv D i H → g (.int (lo + i)) (wipe σ vs) H fun σ2 H2 => wipe σ2 vs = wipe σ vs ∧ tt σ2 H2 fun b H3 => if b = true then te σ2 H3 fun y H4 => LcEnd D (Pv D (i + 1)) y H4 else Pv D (i + 1) H3) (hd : ∀ D H, Pv D m H → Q (.ref D) H) : LcW g tt te vs Q σ (Itr lo m) H :=
  fun D nD => lc_range (Pv D) (h0 D _ nD (Same.new nD) upd_same) (hs D) (hd D)
theorem l_list {g : TG} {tt : TT} {te : TE} {vs : List Nat} {a : Addr} {xs : List V} (Pv : Addr → Nat → Hp → Prop) (h0 : ∀ D H', H D = none → Same H H' → H' D = some (.lst []) → Pv D 0 H') (hl : ∀ D i H, i ≤ xs.length → Pv D i H → SqL K H a xs)
    (hs : ∀ D i x H, xs[i]? = some x → Pv D i H → g x (wipe σ vs) H fun σ2 H2 => wipe σ2 vs = wipe σ vs ∧ tt σ2 H2 fun b H3 => if b = true then te σ2 H3 fun y H4 => LcEnd D (Pv D (i + 1)) y H4 else Pv D (i + 1) H3) (hd : ∀ D H, Pv D xs.length H → Q (.ref D) H) : LcW g tt te vs Q σ (Itl K a) H :=
  fun D nD => lc_list (Pv D) (h0 D _ nD (Same.new nD) upd_same) (hl D) (hs D) (hd D)
theorem l_tup {g : TG} {tt : TT} {te : TE} {vs : List Nat} {a : Addr} {xs : List V} (Pv : Addr → Nat → Hp → Prop) (h0 : ∀ D H', H D = none → Same H H' → H' D = some (.lst []) → Pv D 0 H') (hl : ∀ D i H, i ≤ xs.length → Pv D i H → SqT K H a xs)
    (hs : ∀ D i x H, xs[i]? = some x → Pv D i H → g x (wipe σ vs) H fun σ2 H2 => wipe σ2 vs = wipe σ vs ∧ tt σ2 H2 fun b H3 => if b = true then te σ2 H3 fun y H4 => LcEnd D (Pv D (i + 1)) y H4 else Pv D (i + 1) H3) (hd : ∀ D H, Pv D xs.length H → Q (.ref D) H) : LcW g tt te vs Q σ (Itt K a) H :=
  fun D nD => lc_tup (Pv D) (h0 D _ nD (Same.new nD) upd_same) (hl D) (hs D) (hd D)
/-- a list made item by item, nothing else changed: the k-th item is F k -/
theorem map_range_succ (F : Nat → V) (i : Nat) : (List.range (i + 1)).map F = (List.range i).map F ++ [F i] := by
  rw [List.range_succ, List.map_append]
  rfl
theorem l_mapL {g : TG} {tt : TT} {te : TE} {vs : List Nat} {a : Addr} {xs : List V} (F : Nat → V) (hx : SqL K H a xs) (hz : xs.length ≤ 100000)
    (hs : ∀ (D : Addr) (N : Hp → Prop) (i : Nat) (x : V) (H' : Hp), xs[i]? = some x → Same H H' → (∀ H4, Same H' H4 → LcEnd D N (F i) H4) → g x (wipe σ vs) H' fun σ2 H2 => wipe σ2 vs = wipe σ vs ∧ tt σ2 H2 fun b H3 => if b = true then te σ2 H3 fun y H4 => LcEnd D N y H4 else N H3)
    (hd : ∀ D H', H D = none → Same H H' → H' D = some (.lst ((List.range xs.length).map F)) → Q (.ref D) H') : LcW g tt te vs Q σ (Itl K a) H := by
  have line : (100000 : Nat) < sizeLine := by decide
  refine l_list (fun D i H' => H D = none ∧ Same H H' ∧ H' D = some (.lst ((List.range i).map F))) (fun D H' n sm e => ⟨n, sm, e⟩) (fun D i H' _ p => sql_same p.2.1 hx) ?_ fun D H' p => hd D H' p.1 p.2.1 p.2.2
  rintro D i x H' e ⟨n, sm, eD⟩
  have hi := (List.getElem?_eq_some_iff.mp e).1
  refine hs D (fun H' => H D = none ∧ Same H H' ∧ H' D = some (.lst ((List.range (i + 1)).map F))) i x H' e sm fun H4 s4 => ?_
  refine s_lcEnd (s4 _ _ eD) (by rw [List.length_map, List.length_range]; omega) fun H5 b5 e5 => ⟨n, But.same b5 (sm.trans s4) n, ?_⟩
  rw [map_range_succ]
  exact e5
theorem l_mapT {g : TG} {tt : TT} {te : TE} {vs : List Nat} {a : Addr} {xs : List V} (F : Nat → V) (hx : SqT K H a xs) (hz : xs.length ≤ 100000)
    (hs : ∀ (D : Addr) (N : Hp → Prop) (i : Nat) (x : V) (H' : Hp), xs[i]? = some x → Same H H' → (∀ H4, Same H' H4 → LcEnd D N (F i) H4) → g x (wipe σ vs) H' fun σ2 H2 => wipe σ2 vs = wipe σ vs ∧ tt σ2 H2 fun b H3 => if b = true then te σ2 H3 fun y H4 => LcEnd D N y H4 else N H3)
    (hd : ∀ D H', H D = none → Same H H' → H' D = some (.lst ((List.range xs.length).map F)) → Q (.ref D) H') : LcW g tt te vs Q σ (Itt K a) H := by
  have line : (100000 : Nat) < sizeLine := by decide
  refine l_tup (fun D i H' => H D = none ∧ Same H H' ∧ H' D = some (.lst ((List.range i).map F))) (fun D H' n sm e => ⟨n, sm, e⟩) (fun D i H' _ p => sqt_same p.2.1 hx) ?_ fun D H' p => hd D H' p.1 p.2.1 p.2.2
  rintro D i x H' e ⟨n, sm, eD⟩
  have hi := (List.getElem?_eq_some_iff.mp e).1
  refine hs D (fun H' => H D = none ∧ Same H H' ∧ H' D = some (.lst ((List.range (i + 1)).map F))) i x H' e sm fun H4 s4 => ?_
  refine s_lcEnd (s4 _ _ eD) (by rw [List.length_map, List.length_range]; omega) fun H5 b5 e5 => ⟨n, But.same b5 (sm.trans s4) n, ?_⟩
  rw [map_range_succ]
  exact e5
theorem l_map {g : TG} {tt : TT} {te : TE} {vs : List Nat} {a : Addr} {xs : List V} (F : Nat → V) (hx : SqL K H a xs ∨ SqT K H a xs) (hz : xs.length ≤ 100000)
    (hs : ∀ (D : Addr) (N : Hp → Prop) (i : Nat) (x : V) (H' : Hp), xs[i]? = some x → Same H H' → (∀ H4, Same H' H4 → LcEnd D N (F i) H4) → g x (wipe σ vs) H' fun σ2 H2 => wipe σ2 vs = wipe σ vs ∧ tt σ2 H2 fun b H3 => if b = true then te σ2 H3 fun y H4 => LcEnd D N y H4 else N H3)
    (hd : ∀ D H', H D = none → Same H H' → H' D = some (.lst ((List.range xs.length).map F)) → Q (.ref D) H') : WlkA K (.ref a) H (fun J H1 => LcW g tt te vs Q σ J H1) :=
  hx.elim (fun hx => s_ianyL hx (l_mapL F hx hz hs hd)) (fun hx => s_ianyT hx (l_mapT F hx hz hs hd))
theorem l_mapR {g : TG} {tt : TT} {te : TE} {vs : List Nat} {lo : Int} {m : Nat} (F : Nat → V) (hz : m ≤ 100000)
    (hs : ∀ (D : Addr) (N : Hp → Prop) (i : Nat) (H' : Hp), i < m → Same H H' → (∀ H4, Same H' H4 → LcEnd D N (F i) H4) → g (.int (lo + i)) (wipe σ vs) H' fun σ2 H2 => wipe σ2 vs = wipe σ vs ∧ tt σ2 H2 fun b H3 => if b = true then te σ2 H3 fun y H4 => LcEnd D N y H4 else N H3)
    (hd : ∀ D H', H D = none → Same H H' → H' D = some (.lst ((List.range m).map F)) → Q (.ref D) H') : LcW g tt te vs Q σ (Itr lo m) H := by
  have line : (100000 : Nat) < sizeLine := by decide
  refine l_range (fun D i H' => H D = none ∧ Same H H' ∧ H' D = some (.lst ((List.range i).map F))) (fun D H' n sm e => ⟨n, sm, e⟩) ?_ fun D H' p => hd D H' p.1 p.2.1 p.2.2
  rintro D i H' hi ⟨n, sm, eD⟩
  refine hs D (fun H' => H D = none ∧ Same H H' ∧ H' D = some (.lst ((List.range (i + 1)).map F))) i H' hi sm fun H4 s4 => ?_
  refine s_lcEnd (s4 _ _ eD) (by rw [List.length_map, List.length_range]; omega) fun H5 b5 e5 => ⟨n, But.same b5 (sm.trans s4) n, ?_⟩
  rw [map_range_succ]
  exact e5
theorem s_wipe {σ1 σ2 : L2.St} {vs : List Nat} {B : Prop} (e : wipe σ1 vs = wipe σ2 vs) (h : B) : wipe σ1 vs = wipe σ2 vs ∧ B := ⟨e, h⟩
theorem s_yes {F : Bool → Hp → Prop} (h : F true H) : tYes σ H F := h
end
end Z
namespace Z
open PySem PySem.Spec PyProof.Rows L2
/-! the rules with the written part named -/
section
variable {X : Cx} (K : PySem.W.Frag)
theorem pe_notK {a : Expr} {ta : TE} {pos : Pos} (ha : PE X a ta) (e : X.K = K := by rfl) : PE X (.UnaryOp .Not a pos) (tNotT K ta) := by subst e; exact pe_notT ha
theorem op_catK (e : X.K = K := by rfl) : OpR X (binaryOp .Add) (rCatA K) := by subst e; exact op_catA
theorem op_eqK (hu : X.A.units + 64 < cLine) (e : X.K = K := by rfl) : OpR X (compareOp .Eq) (rEqD K) := by subst e; exact op_eqD hu
theorem op_neK (hu : X.A.units + 64 < cLine) (e : X.K = K := by rfl) : OpR X (compareOp .NotEq) (rNeD K) := by subst e; exact op_neD hu
theorem sl_listK (e : X.K = K := by rfl) : SlR X (rSlL K) := by subst e; exact sl_list
theorem sl_tupK (e : X.K = K := by rfl) : SlR X (rSlA K) := by subst e; exact sl_tupA
theorem ix_listK (e : X.K = K := by rfl) : IxR X (rIxL K) := by subst e; exact ix_list
theorem ix_tupK (e : X.K = K := by rfl) : IxR X (rIxT K) := by subst e; exact ix_tup
theorem ix_seqK (e : X.K = K := by rfl) : IxR X (rIx K) := by subst e; exact ix_seq
theorem c_lenK (e : X.K = K := by rfl) : CallR X (.builtin "len") (rLen K) := by subst e; exact c_len
theorem cr_sumK (hc : X.calm = true) (e : X.K = K := by rfl) : CallR X (.builtin "sum") (rSum K) := by subst e; exact cr_sum hc
theorem cr_anyK (hc : X.calm = true) (e : X.K = K := by rfl) : CallR X (.builtin "any") (rAny K) := by subst e; exact cr_any hc
theorem cr_allK (hc : X.calm = true) (e : X.K = K := by rfl) : CallR X (.builtin "all") (rAll K) := by subst e; exact cr_all hc
theorem c_tupK (e : X.K = K := by rfl) : CallR X (.type "tuple") (rTup K) := by subst e; exact c_tup
theorem c_isiK (e : X.K = K := by rfl) : CallR X (.builtin "isinstance") (rIsi K) := by subst e; exact call_isi
theorem pi_listK {tg l : Expr} {tl : TE} (hl : PE X l tl) (e : X.K = K := by rfl) : PI X tg l (iList K tl) := by subst e; exact pi_list hl
theorem pi_tupK {tg l : Expr} {tl : TE} (hl : PE X l tl) (e : X.K = K := by rfl) : PI X tg l (iTup K tl) := by subst e; exact pi_tup hl
theorem pi_anyK {tg l : Expr} {tl : TE} (hl : PE X l tl) (e : X.K = K := by rfl) : PI X tg l (iAny K tl) := by subst e; exact pi_any hl
theorem pt_truK {a : Expr} {ta : TE} (ha : PE X a ta) (he : ∀ whole, isTrue a X.env whole = (do let v ← whole; standAt a.pos; holding [v] (truthy v))) (e : X.K = K := by rfl) : PT X a (tTru K ta) := by subst e; exact pt_tru ha he
theorem pg_tupK {es : List Expr} {k : Nat} {t : TGs} {pos : Pos} (n : Nat) (hc : X.calm = true) (h : PGs X es t) (hn : (assignEach es X.env).length = n := by rfl) (hst : (assignEach es X.env).findIdx? (·.1) = none := by rfl) (e : X.K = K := by rfl) : PG X (.Tuple es k pos) (gTup K n t) := by subst e; exact pg_tup hc h hn hst
theorem pi_enumK {e : Expr} {ta : TA} {p pos tpos : Pos} {elts : List Expr} {kk : Nat} (hg : Gl X "enumerate") (hm : X.mg "enumerate" = none) (ha : PA X [e] ta) (hs : starEach [e] X.env = [(false, eval e X.env)] := by rfl) (ek : X.K = K := by rfl) :
    PI X (.Tuple elts kk tpos) (.Call (.Name "enumerate" p) [e] [] pos) (iEnumA K ta) := by subst ek; exact pi_enumA hg hm ha hs
theorem pi_revK {tg e : Expr} {te : TE} {p pos : Pos} (hg : Gl X "reversed") (hm : X.mg "reversed" = none) (he : PE X e te) (hs : starEach [e] X.env = (false, eval e X.env) :: starEach [] X.env := by rfl) (ek : X.K = K := by rfl) :
    PI X tg (.Call (.Name "reversed" p) [e] [] pos) (RT.iRevA K te) := by subst ek; exact RT.pi_revA hg hm he hs
section
variable {o e : Expr} {es : List Expr} {to : TE} {t : TA} {name : Str} {apos cpos : Pos} {T id : String} {r : V → List V → Hp → VK → Prop}
theorem pe_bm0K (pa : PlainAttrs T) (slot : Slot T name id) (hty : typeOf (.builtin id) = pure (.type "method_descriptor")) (hm : MtR X id r) (ho : PE X o to)
    (hbase : attributeBase o name X.env (eval o X.env) = eval o X.env := by rfl) (hline : (apos.endLine == cpos.line) = true := by rfl) (ek : X.K = K := by rfl) : PE X (.Call (.Attribute o name apos) [] [] cpos) (tBM0 K T r to) := by subst ek; exact pe_bm0 pa slot hty hm ho hbase hline
theorem pe_bmK (pa : PlainAttrs T) (slot : Slot T name id) (hty : typeOf (.builtin id) = pure (.type "method_descriptor")) (hm : MtR X id r) (ho : PE X o to) (ha : PA X (e :: es) t)
    (hbase : attributeBase o name X.env (eval o X.env) = eval o X.env := by rfl)
    (hfew : ((backTo cpos (starEach (e :: es) X.env)).all (fun x => !x.1) && (backToKw cpos (keywordEach [] X.env)).all (fun x => x.1.isSome)
      && decide ((e :: es).length + ([] : List Keyword).length + (if ([] : List Keyword).isEmpty then 0 else 1) < 30)) = true := by rfl)
    (hline : (apos.endLine == cpos.line) = true := by rfl) (hs : starEach (e :: es) X.env = (false, eval e X.env) :: starEach es X.env := by rfl) (hplain : (backTo cpos (starEach es X.env)).any (·.1) = false := by rfl) (ek : X.K = K := by rfl) :
    PE X (.Call (.Attribute o name apos) (e :: es) [] cpos) (tBM K T r to t) := by subst ek; exact pe_bm pa slot hty hm ho ha hbase hfew hline hs hplain
end
theorem g_listK (e : X.K = K := by rfl) : PGet X (kGetL K) := by subst e; exact g_list
end
/-! heaps, lists, further steps -/
theorem But.sameN {c d : Addr} {H H1 H2 : Hp} (b : But c H1 H2) (a : But d H H1) (n : H c = none) : But d H H2 := fun x o nd e => b x o (ne_of_none e n) (a x o nd e)
theorem map_erase (ns : List Int) (i : Nat) : (ns.map V.int).eraseIdx i = (ns.eraseIdx i).map V.int := by
  induction ns generalizing i with
  | nil => rfl
  | cons a r ih =>
    cases i with
    | zero => rfl
    | succ i => show V.int a :: (r.map V.int).eraseIdx i = V.int a :: (r.eraseIdx i).map V.int; rw [ih]
theorem range_all (n : Nat) (v : Bool) : ((List.range n).map fun _ => V.bl v) = (List.replicate n v).map V.bl := by
  induction n with
  | zero => rfl
  | succ n ih => rw [List.range_succ, List.map_append, ih, List.replicate_succ', List.map_append]; rfl
theorem any_false (n : Nat) : (List.replicate n false).any id = false := by induction n with
  | zero => rfl
  | succ n ih => rw [List.replicate_succ, List.any_cons, ih]; rfl
theorem all_true (n : Nat) : (List.replicate n true).all id = true := by induction n with
  | zero => rfl
  | succ n ih => rw [List.replicate_succ, List.all_cons, ih]; rfl
section
variable {K : PySem.W.Frag} {H : Hp} {Q : VK}
theorem s_sum {p : Addr} {ns : List Int} (hx : SqL K H p (ns.map V.int)) (h : Q (.int ns.sum) H) : rSum K [.ref p] H Q := ⟨p, ns, rfl, hx, h⟩
theorem s_any {p : Addr} {bs : List Bool} (hx : SqL K H p (bs.map V.bl)) (h : Q (.bl (bs.any id)) H) : rAny K [.ref p] H Q := ⟨p, bs, rfl, hx, h⟩
theorem s_all {p : Addr} {bs : List Bool} (hx : SqL K H p (bs.map V.bl)) (h : Q (.bl (bs.all id)) H) : rAll K [.ref p] H Q := ⟨p, bs, rfl, hx, h⟩
theorem dp_ints : ∀ ns : List Int, DpAll K H (ns.map V.int) (ns.map PyData.int)
  | [] => .nil
  | n :: r => .cons (.int n) (dp_ints r)
theorem dp_t {a : Addr} {ns : List Int} (h : SqT K H a (ns.map V.int)) : Dp K H (.ref a) (.tuple (ns.map PyData.int)) := .tup h (dp_ints ns)
theorem dp_l {a : Addr} {ns : List Int} (h : SqL K H a (ns.map V.int)) : Dp K H (.ref a) (.list (ns.map PyData.int)) := .lst h (dp_ints ns)
end
end Z
namespace Z
open PySem PySem.Spec PyProof.Rows L2
/-! data -/
mutual
/-- no truth values, no dicts -/
def noB : PyData → Bool
  | .none => true
  | .bool _ => false
  | .int _ => true
  | .str _ => true
  | .list xs => noBs xs
  | .tuple xs => noBs xs
  | .dict _ => false
def noBs : List PyData → Bool
  | [] => true
  | x :: xs => noB x && noBs xs
end
mutual
theorem eqv_iff : ∀ d e : PyData, noB d = true → noB e = true → (PyData.eqv d e = true ↔ d = e)
  | .none, e, _, he => by cases e <;> simp_all [PyData.eqv, noB]
  | .int a, e, _, he => by cases e <;> simp_all [PyData.eqv, noB]
  | .str a, e, _, he => by cases e <;> simp_all [PyData.eqv, noB]
  | .list xs, e, hd, he => by
    cases e with
    | list ys =>
      rw [PyData.eqv, eqvs_iff xs ys (by simpa [noB] using hd) (by simpa [noB] using he)]
      exact ⟨fun h => by rw [h], fun h => by cases h; rfl⟩
    | _ => simp_all [PyData.eqv, noB]
  | .tuple xs, e, hd, he => by
    cases e with
    | tuple ys =>
      rw [PyData.eqv, eqvs_iff xs ys (by simpa [noB] using hd) (by simpa [noB] using he)]
      exact ⟨fun h => by rw [h], fun h => by cases h; rfl⟩
    | _ => simp_all [PyData.eqv, noB]
  | .bool _, _, hd, _ => by simp [noB] at hd
  | .dict _, _, hd, _ => by simp [noB] at hd
theorem eqvs_iff : ∀ xs ys : List PyData, noBs xs = true → noBs ys = true → (PyData.eqvAll xs ys = true ↔ xs = ys)
  | [], [], _, _ => by simp [PyData.eqvAll]
  | [], _ :: _, _, _ => by simp [PyData.eqvAll]
  | _ :: _, [], _, _ => by simp [PyData.eqvAll]
  | x :: xs, y :: ys, h, g => by
    have h' : noB x = true ∧ noBs xs = true := by simpa [noBs] using h
    have g' : noB y = true ∧ noBs ys = true := by simpa [noBs] using g
    rw [PyData.eqvAll, Bool.and_eq_true, eqv_iff x y h'.1 g'.1, eqvs_iff xs ys h'.2 g'.2]
    exact ⟨fun z => by rw [z.1, z.2], fun z => by cases z; exact ⟨rfl, rfl⟩⟩
end
theorem noBs_ints : ∀ ns : List Int, noBs (ns.map PyData.int) = true
  | [] => rfl
  | _ :: r => by simp [noBs, noB, noBs_ints r]
theorem canLayAll_ints : ∀ ns : List Int, PyData.canLayAll0 (ns.map PyData.int) = true
  | [] => rfl
  | _ :: r => by simp [PyData.canLayAll0, PyData.canLay0, canLayAll_ints r]
theorem depthAll_ints : ∀ ns : List Int, PyData.depthAll (ns.map PyData.int) = 0
  | [] => rfl
  | _ :: r => by simp [PyData.depthAll, PyData.depth, depthAll_ints r]
theorem shaped_t (ns : List Int) : SeqAt.shaped (.tuple (ns.map PyData.int)) = true := by
  simp [SeqAt.shaped, PyData.canLay0, PyData.depth, canLayAll_ints, depthAll_ints]
theorem shaped_l (ns : List Int) : SeqAt.shaped (.list (ns.map PyData.int)) = true := by
  simp [SeqAt.shaped, PyData.canLay0, PyData.depth, canLayAll_ints, depthAll_ints]
theorem eqv_self {d : PyData} (h : SeqAt.shaped d = true) : PyData.eqv d d = true := SeqAt.eqv_refl d (SeqAt.canLay_of_shaped h)
theorem op_inK {X : Cx} (K : PySem.W.Frag) (e : X.K = K := by rfl) : OpR X (compareOp .In) (rIn K false) := by subst e; exact op_in_seq
theorem op_notInK {X : Cx} (K : PySem.W.Frag) (e : X.K = K := by rfl) : OpR X (compareOp .NotIn) (rIn K true) := by subst e; exact op_notIn_seq
theorem cr_sortedK {X : Cx} (K : PySem.W.Frag) (e : X.K = K := by rfl) : CallR X (.builtin "sorted") (rSortedI K) := by subst e; exact cr_sortedI
def rMin2 : List V → Hp → VK → Prop := fun xs H Q => ∃ i j, xs = [.int i, .int j] ∧ Q (.int (if j < i then j else i)) H
theorem c_min2 {X : Cx} (hc : X.calm = true) : CallR X (.builtin "min") rMin2 := call_min2 hc
def rIsN : R2 := fun x y H Q => y = .non ∧ Q (.bl (decide (x = .non))) H
def rNotN : R2 := fun x y H Q => y = .non ∧ Q (.bl (!decide (x = .non))) H
theorem op_isNn {X : Cx} : OpR X (compareOp .Is) rIsN := op_isN
theorem op_notNn {X : Cx} : OpR X (compareOp .IsNot) rNotN := op_notN
section
variable {K : PySem.W.Frag} {H : Hp} {Q : VK}
theorem s_eqD {x y : V} {d e : PyData} (hx : Dp K H x d) (hy : Dp K H y e) (sd : SeqAt.shaped d = true) (se : SeqAt.shaped e = true) (h : Q (.bl (PyData.eqv d e)) H) : rEqD K x y H Q := ⟨d, e, hx, hy, sd, se, h⟩
theorem s_neD {x y : V} {d e : PyData} (hx : Dp K H x d) (hy : Dp K H y e) (sd : SeqAt.shaped d = true) (se : SeqAt.shaped e = true) (h : Q (.bl (!PyData.eqv d e)) H) : rNeD K x y H Q := ⟨d, e, hx, hy, sd, se, h⟩
theorem s_eqSame {x y : V} {d : PyData} (hx : Dp K H x d) (hy : Dp K H y d) (sd : SeqAt.shaped d = true) (h : Q (.bl true) H) : rEqD K x y H Q := ⟨d, d, hx, hy, sd, sd, by rw [eqv_self sd]; exact h⟩
theorem s_neSameD {x y : V} {d : PyData} (hx : Dp K H x d) (hy : Dp K H y d) (sd : SeqAt.shaped d = true) (h : Q (.bl false) H) : rNeD K x y H Q := ⟨d, d, hx, hy, sd, sd, by rw [eqv_self sd]; exact h⟩
theorem s_neSame {a b : Addr} {ns : List Int} (hx : SqT K H a (ns.map V.int)) (hy : SqT K H b (ns.map V.int)) (h : Q (.bl false) H) : rNeD K (.ref a) (.ref b) H Q := s_neSameD (dp_t hx) (dp_t hy) (shaped_t ns) h
theorem s_isi {i : Int} {c : String} {b : Bool} (e : kitB "int" c = some b) (h : Q (.bl b) H) : rIsi K [.int i, .ty c] H Q := ⟨_, _, _, _, b, rfl, .ty c, .base (.int i), kit_ty e, h⟩
theorem s_isiI {i : Int} (h : Q (.bl false) H) : rIsi K [.int i, .ty "bool"] H Q := s_isi (by decide +kernel) h
theorem s_min2 {i j : Int} (h : Q (.int (if j < i then j else i)) H) : rMin2 [.int i, .int j] H Q := ⟨i, j, rfl, h⟩
theorem inV_ints (x : Int) (ns : List Int) : inV (.int x) (ns.map V.int) = decide (x ∈ ns) := by
  unfold inV
  induction ns with
  | nil => rfl
  | cons a r ih =>
    rw [List.map_cons, List.any_cons, ih]
    by_cases h : a = x
    · subst h
      rw [show eqV (V.int a) (V.int a) = true by simp [eqV], decide_eq_true (List.mem_cons_self ..)]
      rfl
    · rw [show eqV (V.int a) (V.int x) = false by simp [eqV, h], Bool.false_or]
      by_cases h2 : x ∈ r
      · rw [decide_eq_true h2, decide_eq_true (List.mem_cons_of_mem _ h2)]
      · rw [decide_eq_false h2, decide_eq_false (fun m => by rcases List.mem_cons.mp m with m | m; exact h m.symm; exact h2 m)]
theorem flat_ints (ns : List Int) : (ns.map V.int).all flatV = true := by
  induction ns with
  | nil => rfl
  | cons a r ih => rw [List.map_cons, List.all_cons, ih]; rfl
theorem s_inI {p : Addr} {x : Int} {ns : List Int} (hx : SqL K H p (ns.map V.int) ∨ SqT K H p (ns.map V.int)) (h : Q (.bl (decide (x ∈ ns))) H) : rIn K false (.int x) (.ref p) H Q := ⟨p, _, rfl, hx, rfl, flat_ints ns, by rw [inV_ints]; exact h⟩
theorem s_notInI {p : Addr} {x : Int} {ns : List Int} (hx : SqL K H p (ns.map V.int) ∨ SqT K H p (ns.map V.int)) (h : Q (.bl (!decide (x ∈ ns))) H) : rIn K true (.int x) (.ref p) H Q := ⟨p, _, rfl, hx, rfl, flat_ints ns, by rw [inV_ints]; exact h⟩
theorem s_sorted {p : Addr} {ns : List Int} (hx : SqL K H p (ns.map V.int)) (h : ∀ (ys : List Int) (q : Addr) (H' : Hp), ys.Perm ns → ys.Pairwise (· ≤ ·) → H q = none → Same H H' → H' q = some (.lst (ys.map V.int)) → Q (.ref q) H') : rSortedI K [.ref p] H Q := ⟨p, ns, rfl, hx, fun ys q hp hw nq => h ys q _ hp hw nq (Same.new nq) upd_same⟩
theorem s_andV {ta tb : TE} {σ : L2.St} (h : ta σ H fun x H1 => IsBl x H1 fun c H2 => if c = true then tb σ H2 Q else Q (.bl false) H2) : tAndV ta tb σ H Q := h
theorem s_orV {ta tb : TE} {σ : L2.St} (h : ta σ H fun x H1 => IsBl x H1 fun c H2 => if c = true then Q (.bl true) H2 else tb σ H2 Q) : tOrV ta tb σ H Q := h
theorem s_ifE {tc : TT} {ta tb : TE} {σ : L2.St} (h : tc σ H fun c H1 => if c = true then ta σ H1 Q else tb σ H1 Q) : tIf tc ta tb σ H Q := h
theorem s_notK {ta : TE} {σ : L2.St} (h : ta σ H fun x H1 => IsTru K x H1 fun k H2 => Q (.bl (!k)) H2) : tNotT K ta σ H Q := h
theorem s_lenA {p : Addr} {xs : List V} (hx : SqL K H p xs ∨ SqT K H p xs) (h : Q (.int xs.length) H) : rLen K [.ref p] H Q := ⟨p, xs, rfl, hx, h⟩
theorem s_ixA {p : Addr} {xs : List V} {i : Int} {v : V} (hx : SqL K H p xs ∨ SqT K H p xs) (e : atI xs i = some v) (h : Q v H) : rIx K (.ref p) (.int i) H Q := hx.elim (fun hx => .inl ⟨p, xs, i, v, rfl, rfl, hx, e, h⟩) (fun hx => .inr (.inl ⟨p, xs, i, v, rfl, rfl, hx, e, h⟩))
theorem s_isN {x : V} (h : Q (.bl (decide (x = .non))) H) : rIsN x .non H Q := ⟨rfl, h⟩
theorem s_notN {x : V} (h : Q (.bl (!decide (x = .non))) H) : rNotN x .non H Q := ⟨rfl, h⟩
end
end Z
namespace M
/-! powers modulo p -/
def pw (p a : Int) (k : Nat) : Int := a ^ k % p
theorem pow_sq (a : Int) (k : Nat) : a ^ (2 * k) = (a * a) ^ k := by
  induction k with
  | zero => rw [Nat.mul_zero, Int.pow_zero, Int.pow_zero]
  | succ k ih =>
    rw [show 2 * (k + 1) = 2 * k + 1 + 1 by omega, Int.pow_succ, Int.pow_succ, ih, Int.pow_succ, Int.mul_assoc]
theorem pow_emod (p a : Int) (k : Nat) : (a % p) ^ k % p = a ^ k % p := by
  induction k with
  | zero => rw [Int.pow_zero, Int.pow_zero]
  | succ k ih => rw [Int.pow_succ, Int.pow_succ, Int.mul_emod, ih, Int.emod_emod_of_dvd _ (Int.dvd_refl p), ← Int.mul_emod]
/-- the loop of squares: what is left is a power of the square -/
theorem mul_pow_emod (p t s : Int) (k : Nat) : t * (s % p) ^ k % p = t * s ^ k % p := by
  rw [Int.mul_emod, pow_emod, ← Int.mul_emod]
theorem loop_even {p t s l x : Int} (h0 : 0 ≤ l) (he : l % 2 = 0) (h : t * s ^ l.toNat % p = x) : t * (s * s % p) ^ (l / 2).toNat % p = x := by
  rw [mul_pow_emod, ← pow_sq, show 2 * (l / 2).toNat = l.toNat by omega]
  exact h
theorem loop_odd {p t s l x : Int} (h0 : 0 ≤ l) (he : l % 2 = 1) (h : t * s ^ l.toNat % p = x) : (t * s % p) * (s * s % p) ^ (l / 2).toNat % p = x := by
  rw [mul_pow_emod, ← pow_sq, Int.mul_emod, Int.emod_emod_of_dvd _ (Int.dvd_refl p), ← Int.mul_emod, Int.mul_assoc, Int.mul_comm s, ← Int.pow_succ, show (2 * (l / 2).toNat).succ = l.toNat by omega]
  exact h
end M
namespace M
/-! lists of coefficients -/
/-- zeros at the end cut off -/
def trim : List Int → List Int
  | [] => []
  | a :: r => if a = 0 ∧ trim r = [] then [] else a :: trim r
theorem trim_snoc_zero : ∀ l : List Int, trim (l ++ [0]) = trim l
  | [] => rfl
  | a :: r => by
    show (if a = 0 ∧ trim (r ++ [0]) = [] then [] else a :: trim (r ++ [0])) = _
    rw [trim_snoc_zero r]
    rfl
theorem trim_snoc : ∀ (l : List Int) (a : Int), a ≠ 0 → trim (l ++ [a]) = l ++ [a]
  | [], a, h => by
    show (if a = 0 ∧ ([] : List Int) = [] then [] else [a]) = [a]
    rw [if_neg (fun z => h z.1)]
  | b :: r, a, h => by
    show (if b = 0 ∧ trim (r ++ [a]) = [] then [] else b :: trim (r ++ [a])) = b :: (r ++ [a])
    rw [trim_snoc r a h, if_neg (fun z => by simp at z)]
theorem trim_length : ∀ l : List Int, (trim l).length ≤ l.length
  | [] => Nat.le_refl _
  | a :: r => by
    show (if a = 0 ∧ trim r = [] then [] else a :: trim r).length ≤ r.length + 1
    have h := trim_length r
    split
    · exact Nat.zero_le _
    · simpa using h
theorem trim_trim : ∀ l : List Int, trim (trim l) = trim l
  | [] => rfl
  | a :: r => by
    show trim (if a = 0 ∧ trim r = [] then [] else a :: trim r) = (if a = 0 ∧ trim r = [] then [] else a :: trim r)
    have h := trim_trim r
    by_cases e : a = 0 ∧ trim r = []
    · rw [if_pos e]
      rfl
    · rw [if_neg e]
      show (if a = 0 ∧ trim (trim r) = [] then [] else a :: trim (trim r)) = a :: trim r
      rw [h, if_neg e]
theorem mem_trim : ∀ {l : List Int} {x : Int}, x ∈ trim l → x ∈ l
  | [], _, h => h
  | a :: r, x, h => by
    have h' : x ∈ (if a = 0 ∧ trim r = [] then [] else a :: trim r) := h
    split at h'
    · cases h'
    · rcases List.mem_cons.mp h' with e | e
      · rw [e]
        exact List.mem_cons_self ..
      · exact List.mem_cons_of_mem _ (mem_trim e)
end M
namespace M
/-! values -/
def hv (p : Int) : List Int → Int → Int
  | [], _ => 0
  | c :: r, x => (hv p r x * x + c) % p
theorem hv_lt {p : Int} (h : 0 < p) : ∀ (l : List Int) (x : Int), 0 ≤ hv p l x ∧ hv p l x < p
  | [], _ => ⟨Int.le_refl _, h⟩
  | _ :: _, _ => ⟨Int.emod_nonneg _ (by omega), Int.emod_lt_of_pos _ h⟩
theorem hv_drop (p : Int) (l : List Int) (x : Int) {i : Nat} (h : i < l.length) : hv p (l.drop i) x = (hv p (l.drop (i + 1)) x * x + l.getD i 0) % p := by
  rw [List.drop_eq_getElem_cons h, List.getD_eq_getElem?_getD, List.getElem?_eq_getElem h]
  rfl
/-- c added at the place k -/
def bump (s : List Int) (k : Nat) (c : Int) : List Int := s.set k (s.getD k 0 + c)
theorem bump_length (s : List Int) (k : Nat) (c : Int) : (bump s k c).length = s.length := by simp [bump]
/-- a times a list, added from the place k on -/
def addMul (s : List Int) (k : Nat) (a : Int) : List Int → List Int
  | [] => s
  | b :: r => addMul (bump s k (a * b)) (k + 1) a r
theorem addMul_length : ∀ (l : List Int) (s : List Int) (k : Nat) (a : Int), (addMul s k a l).length = s.length
  | [], _, _, _ => rfl
  | b :: r, s, k, a => by
    show (addMul (bump s k (a * b)) (k + 1) a r).length = s.length
    rw [addMul_length r, bump_length]
theorem addMul_take : ∀ (l : List Int) (s : List Int) (k : Nat) (a : Int) (i : Nat), i < l.length → addMul s k a (l.take (i + 1)) = bump (addMul s k a (l.take i)) (k + i) (a * l.getD i 0)
  | [], _, _, _, _, h => by simp at h
  | b :: r, s, k, a, 0, _ => by simp [addMul]
  | b :: r, s, k, a, i + 1, h => by
    show addMul (bump s k (a * b)) (k + 1) a (r.take (i + 1)) = bump (addMul (bump s k (a * b)) (k + 1) a (r.take i)) (k + (i + 1)) (a * r.getD i 0)
    rw [addMul_take r _ _ _ i (by simpa using h), show k + 1 + i = k + (i + 1) by omega]
def zeros (n : Nat) : List Int := List.replicate n 0
def addL (n : Nat) (f g : List Int) : List Int := addMul (addMul (zeros n) 0 1 f) 0 1 g
/-- products -/
def mulFrom (s : List Int) (j : Nat) (g : List Int) : List Int → List Int
  | [] => s
  | a :: r => mulFrom (addMul s j a g) (j + 1) g r
theorem mulFrom_length : ∀ (f : List Int) (s : List Int) (j : Nat) (g : List Int), (mulFrom s j g f).length = s.length
  | [], _, _, _ => rfl
  | a :: r, s, j, g => by
    show (mulFrom (addMul s j a g) (j + 1) g r).length = s.length
    rw [mulFrom_length r, addMul_length]
theorem mulFrom_take : ∀ (f : List Int) (s : List Int) (j : Nat) (g : List Int) (i : Nat), i < f.length → mulFrom s j g (f.take (i + 1)) = addMul (mulFrom s j g (f.take i)) (j + i) (f.getD i 0) g
  | [], _, _, _, _, h => by simp at h
  | b :: r, s, j, g, 0, _ => by simp [mulFrom]
  | b :: r, s, j, g, i + 1, h => by
    show mulFrom (addMul s j b g) (j + 1) g (r.take (i + 1)) = addMul (mulFrom (addMul s j b g) (j + 1) g (r.take i)) (j + (i + 1)) (r.getD i 0) g
    rw [mulFrom_take r _ _ _ i (by simpa using h), show j + 1 + i = j + (i + 1) by omega]
def mulL (f g : List Int) : List Int := mulFrom (zeros (f.length + g.length)) 0 g f
end M
namespace M
/-! modulo p -/
def Cg (p a b : Int) : Prop := p ∣ a - b
theorem Cg.refl (p a : Int) : Cg p a a := by
  unfold Cg
  rw [Int.sub_self]
  exact Int.dvd_zero p
theorem Cg.symm {p a b : Int} (h : Cg p a b) : Cg p b a := by
  obtain ⟨k, e⟩ := h
  exact ⟨-k, by grind⟩
theorem Cg.trans {p a b c : Int} (h : Cg p a b) (g : Cg p b c) : Cg p a c := by
  obtain ⟨k, e⟩ := h
  obtain ⟨l, e'⟩ := g
  exact ⟨k + l, by grind⟩
theorem Cg.add {p a b c d : Int} (h : Cg p a b) (g : Cg p c d) : Cg p (a + c) (b + d) := by
  obtain ⟨k, e⟩ := h
  obtain ⟨l, e'⟩ := g
  exact ⟨k + l, by grind⟩
theorem Cg.sub {p a b c d : Int} (h : Cg p a b) (g : Cg p c d) : Cg p (a - c) (b - d) := by
  obtain ⟨k, e⟩ := h
  obtain ⟨l, e'⟩ := g
  exact ⟨k - l, by grind⟩
theorem Cg.mul {p a b c d : Int} (h : Cg p a b) (g : Cg p c d) : Cg p (a * c) (b * d) := by
  obtain ⟨k, e⟩ := h
  obtain ⟨l, e'⟩ := g
  exact ⟨k * c + b * l, by grind⟩
theorem Cg.mod (p a : Int) : Cg p (a % p) a := ⟨-(a / p), by
  have := Int.emod_add_mul_ediv a p
  grind⟩
theorem Cg.emod {p a b : Int} (h : Cg p a b) : a % p = b % p := by
  obtain ⟨k, e⟩ := h
  have : a = b + p * k := by omega
  rw [this, Int.add_mul_emod_self_left]
theorem Cg.of {p a b : Int} (h : a % p = b % p) : Cg p a b := (Cg.mod p a).symm.trans (by rw [h]; exact Cg.mod p b)
theorem Cg.eq {p a b : Int} (h : Cg p a b) (a0 : 0 ≤ a) (a1 : a < p) (b0 : 0 ≤ b) (b1 : b < p) : a = b := by
  have e := h.emod
  rwa [Int.emod_eq_of_lt a0 a1, Int.emod_eq_of_lt b0 b1] at e
/-! a list's value, unreduced -/
def ev : List Int → Int → Int
  | [], _ => 0
  | c :: r, x => ev r x * x + c
theorem hv_ev (p : Int) : ∀ (l : List Int) (x : Int), Cg p (hv p l x) (ev l x)
  | [], _ => Cg.refl _ _
  | c :: r, x => (Cg.mod p _).trans (((hv_ev p r x).mul (Cg.refl p x)).add (Cg.refl p c))
theorem ev_bump : ∀ (s : List Int) (k : Nat) (c x : Int), k < s.length → ev (bump s k c) x = ev s x + c * x ^ k
  | [], _, _, _, h => by simp at h
  | a :: r, 0, c, x, _ => by
    show ev r x * x + (a + c) = ev r x * x + a + c * x ^ 0
    grind
  | a :: r, k + 1, c, x, h => by
    have ih := ev_bump r k c x (by simpa using h)
    show ev (bump r k c) x * x + a = ev r x * x + a + c * x ^ (k + 1)
    rw [ih]
    grind
theorem ev_addMul : ∀ (l : List Int) (s : List Int) (k : Nat) (a x : Int), k + l.length ≤ s.length → ev (addMul s k a l) x = ev s x + a * x ^ k * ev l x
  | [], s, k, a, x, _ => by
    show ev s x = ev s x + a * x ^ k * 0
    grind
  | b :: r, s, k, a, x, h => by
    have h' : k + (r.length + 1) ≤ s.length := h
    show ev (addMul (bump s k (a * b)) (k + 1) a r) x = ev s x + a * x ^ k * (ev r x * x + b)
    rw [ev_addMul r _ _ _ _ (by rw [bump_length]; omega), ev_bump _ _ _ _ (by omega)]
    grind
theorem ev_mulFrom : ∀ (f : List Int) (s : List Int) (j : Nat) (g : List Int) (x : Int), j + f.length + g.length ≤ s.length → ev (mulFrom s j g f) x = ev s x + x ^ j * (ev f x * ev g x)
  | [], s, j, g, x, _ => by
    show ev s x = ev s x + x ^ j * (0 * ev g x)
    grind
  | a :: r, s, j, g, x, h => by
    have h' : j + (r.length + 1) + g.length ≤ s.length := h
    show ev (mulFrom (addMul s j a g) (j + 1) g r) x = ev s x + x ^ j * ((ev r x * x + a) * ev g x)
    rw [ev_mulFrom r _ _ _ _ (by rw [addMul_length]; omega), ev_addMul _ _ _ _ _ (by omega)]
    grind
theorem ev_zeros (n : Nat) (x : Int) : ev (zeros n) x = 0 := by
  induction n with
  | zero => rfl
  | succ n ih =>
    show ev (zeros n) x * x + 0 = 0
    rw [ih]
    omega
theorem ev_addL (n : Nat) (f g : List Int) (x : Int) (hf : f.length ≤ n) (hg : g.length ≤ n) : ev (addL n f g) x = ev f x + ev g x := by
  have lz : (zeros n).length = n := by simp [zeros]
  unfold addL
  rw [ev_addMul _ _ _ _ _ (by rw [addMul_length, lz]; omega), ev_addMul _ _ _ _ _ (by rw [lz]; omega), ev_zeros]
  grind
theorem ev_mulL (f g : List Int) (x : Int) : ev (mulL f g) x = ev f x * ev g x := by
  have lz : (zeros (f.length + g.length)).length = f.length + g.length := by simp [zeros]
  unfold mulL
  rw [ev_mulFrom _ _ _ _ _ (by rw [lz]; omega), ev_zeros]
  grind
theorem ev_mod (p : Int) : ∀ (l : List Int) (x : Int), Cg p (ev (l.map (· % p)) x) (ev l x)
  | [], _ => Cg.refl _ _
  | c :: r, x => ((ev_mod p r x).mul (Cg.refl p x)).add (Cg.mod p c)
theorem ev_trim : ∀ (l : List Int) (x : Int), ev (trim l) x = ev l x
  | [], _ => rfl
  | a :: r, x => by
    have ih := ev_trim r x
    show ev (if a = 0 ∧ trim r = [] then [] else a :: trim r) x = ev r x * x + a
    by_cases e : a = 0 ∧ trim r = []
    · rw [if_pos e, ← ih, e.2, e.1]
      show (0 : Int) = 0 * x + 0
      omega
    · rw [if_neg e, ← ih]
      rfl
/-! the reduced polynomials -/
def red (p : Int) (l : List Int) : List Int := trim (l.map (· % p))
def plus (p : Int) (f g : List Int) : List Int := red p (addL (max f.length g.length) f g)
def times (p : Int) (f g : List Int) : List Int := red p (mulL f g)
theorem ev_red (p : Int) (l : List Int) (x : Int) : Cg p (ev (red p l) x) (ev l x) := by
  unfold red
  rw [ev_trim]
  exact ev_mod p l x
theorem hv_red (p : Int) (l : List Int) (x : Int) : Cg p (hv p (red p l) x) (ev l x) := (hv_ev p _ x).trans (ev_red p l x)
theorem hv_plus (p : Int) (f g : List Int) (x : Int) : Cg p (hv p (plus p f g) x) (hv p f x + hv p g x) := by
  refine (hv_red p _ x).trans ?_
  rw [ev_addL _ _ _ _ (Nat.le_max_left _ _) (Nat.le_max_right _ _)]
  exact ((hv_ev p f x).add (hv_ev p g x)).symm
theorem hv_times (p : Int) (f g : List Int) (x : Int) : Cg p (hv p (times p f g) x) (hv p f x * hv p g x) := by
  refine (hv_red p _ x).trans ?_
  rw [ev_mulL]
  exact ((hv_ev p f x).mul (hv_ev p g x)).symm
theorem red_mem {p : Int} (h : 0 < p) {l : List Int} {x : Int} (m : x ∈ red p l) : 0 ≤ x ∧ x < p := by
  obtain ⟨y, _, e⟩ := List.mem_map.mp (mem_trim m)
  rw [← e]
  exact ⟨Int.emod_nonneg _ (by omega), Int.emod_lt_of_pos _ h⟩
theorem map_mod_id {p : Int} {l : List Int} (h : ∀ x ∈ l, 0 ≤ x ∧ x < p) : l.map (· % p) = l := by
  induction l with
  | nil => rfl
  | cons a r ih =>
    rw [List.map_cons, ih (fun x m => h x (List.mem_cons_of_mem _ m))]
    have := h a (List.mem_cons_self ..)
    rw [Int.emod_eq_of_lt this.1 this.2]
theorem red_red {p : Int} (h : 0 < p) (l : List Int) : red p (red p l) = red p l := by
  have e : (red p l).map (· % p) = red p l := map_mod_id fun x m => red_mem h m
  show trim ((red p l).map (· % p)) = red p l
  rw [e]
  exact trim_trim _
/-! lengths -/
theorem trim_le {l : List Int} {n : Nat} (h : ∀ i, n ≤ i → l.getD i 0 = 0) : (trim l).length ≤ n := by
  induction l generalizing n with
  | nil => exact Nat.zero_le _
  | cons a r ih =>
    show (if a = 0 ∧ trim r = [] then [] else a :: trim r).length ≤ n
    cases n with
    | zero =>
      have h0 : a = 0 := by simpa using h 0 (Nat.le_refl _)
      have h1 : (trim r).length ≤ 0 := ih fun i _ => by simpa using h (i + 1) (Nat.zero_le _)
      have h2 : trim r = [] := List.length_eq_zero_iff.mp (Nat.le_zero.mp h1)
      rw [if_pos ⟨h0, h2⟩]
      exact Nat.le_refl _
    | succ n =>
      have h1 : (trim r).length ≤ n := ih fun i hi => by simpa using h (i + 1) (by omega)
      split
      · exact Nat.zero_le _
      · simpa using h1
theorem bump_get (s : List Int) (k : Nat) (c : Int) (i : Nat) (h : i ≠ k) : (bump s k c).getD i 0 = s.getD i 0 := by
  unfold bump
  rw [List.getD_eq_getElem?_getD, List.getD_eq_getElem?_getD, List.getElem?_set_ne (Ne.symm h)]
  rfl
theorem addMul_get : ∀ (l : List Int) (s : List Int) (k : Nat) (a : Int) (i : Nat), k + l.length ≤ i → (addMul s k a l).getD i 0 = s.getD i 0
  | [], _, _, _, _, _ => rfl
  | b :: r, s, k, a, i, h => by
    have h' : k + (r.length + 1) ≤ i := h
    show (addMul (bump s k (a * b)) (k + 1) a r).getD i 0 = s.getD i 0
    rw [addMul_get r _ _ _ i (by omega), bump_get _ _ _ _ (by omega)]
theorem mulFrom_get : ∀ (f : List Int) (s : List Int) (j : Nat) (g : List Int) (i : Nat), j + f.length + g.length ≤ i + 1 → (mulFrom s j g f).getD i 0 = s.getD i 0
  | [], _, _, _, _, _ => rfl
  | a :: r, s, j, g, i, h => by
    have h' : j + (r.length + 1) + g.length ≤ i + 1 := h
    show (mulFrom (addMul s j a g) (j + 1) g r).getD i 0 = s.getD i 0
    rw [mulFrom_get r _ _ _ i (by omega), addMul_get _ _ _ _ _ (by omega)]
theorem zeros_get (n i : Nat) : (zeros n).getD i 0 = 0 := by
  unfold zeros
  rw [List.getD_eq_getElem?_getD, List.getElem?_replicate]
  split <;> rfl
theorem getD_map_mod (p : Int) (l : List Int) (i : Nat) (h : l.getD i 0 = 0) : (l.map (· % p)).getD i 0 = 0 := by
  rw [List.getD_eq_getElem?_getD] at h ⊢
  rw [List.getElem?_map]
  cases e : l[i]? with
  | none => rfl
  | some y =>
    rw [e] at h
    have : y = 0 := h
    subst this
    show (0 : Int) % p = 0
    exact Int.zero_emod p
theorem times_length (p : Int) (f g : List Int) : (times p f g).length ≤ f.length + g.length - 1 := by
  refine trim_le fun i hi => getD_map_mod p _ i ?_
  show (mulFrom (zeros (f.length + g.length)) 0 g f).getD i 0 = 0
  rw [mulFrom_get _ _ _ _ _ (by omega), zeros_get]
theorem plus_length (p : Int) (f g : List Int) : (plus p f g).length ≤ max f.length g.length := by
  refine Nat.le_trans (trim_length _) ?_
  rw [List.length_map]
  unfold addL
  rw [addMul_length, addMul_length]
  simp [zeros]
theorem addMul_at : ∀ (l : List Int) (s : List Int) (k : Nat) (a : Int) (i : Nat), k + l.length ≤ s.length → (addMul s k a l).getD i 0 = s.getD i 0 + (if k ≤ i then a * l.getD (i - k) 0 else 0)
  | [], s, k, a, i, _ => by
    show s.getD i 0 = s.getD i 0 + (if k ≤ i then a * 0 else 0)
    split <;> omega
  | b :: r, s, k, a, i, h => by
    have h' : k + (r.length + 1) ≤ s.length := h
    show (addMul (bump s k (a * b)) (k + 1) a r).getD i 0 = _
    rw [addMul_at r _ _ _ i (by rw [bump_length]; omega)]
    by_cases e : i = k
    · subst e
      have hb : (bump s i (a * b)).getD i 0 = s.getD i 0 + a * b := by
        unfold bump
        rw [List.getD_eq_getElem?_getD, List.getElem?_set_self (by omega)]
        rfl
      rw [hb, if_neg (by omega), if_pos (Nat.le_refl _), Nat.sub_self, Int.add_zero]
      rfl
    · rw [bump_get _ _ _ _ e]
      by_cases e2 : k ≤ i
      · rw [if_pos (by omega), if_pos e2, show i - k = (i - (k + 1)) + 1 by omega]
        rfl
      · rw [if_neg (by omega), if_neg e2]
theorem getD_range (m i : Nat) (f : Nat → Int) (h : ∀ i, m ≤ i → f i = 0) : ((List.range m).map f).getD i 0 = f i := by
  rw [List.getD_eq_getElem?_getD, List.getElem?_map]
  by_cases e : i < m
  · rw [List.getElem?_range e]
    rfl
  · rw [List.getElem?_eq_none (by simpa using Nat.le_of_not_lt e), h i (by omega)]
    rfl
theorem ext_getD {l l' : List Int} (h : l.length = l'.length) (g : ∀ i, l.getD i 0 = l'.getD i 0) : l = l' := by
  refine List.ext_getElem h fun i h1 h2 => ?_
  have := g i
  rwa [List.getD_eq_getElem?_getD, List.getD_eq_getElem?_getD, List.getElem?_eq_getElem h1, List.getElem?_eq_getElem h2] at this
theorem getD_ge {l : List Int} {i : Nat} (h : l.length ≤ i) : l.getD i 0 = 0 := by
  rw [List.getD_eq_getElem?_getD, List.getElem?_eq_none h]
  rfl
theorem addL_range (n : Nat) (f g : List Int) (hf : f.length ≤ n) (hg : g.length ≤ n) : addL n f g = (List.range n).map fun j => f.getD j 0 + g.getD j 0 := by
  have lz : (zeros n).length = n := by simp [zeros]
  refine ext_getD ?_ fun i => ?_
  · unfold addL
    rw [addMul_length, addMul_length, lz, List.length_map, List.length_range]
  · unfold addL
    rw [addMul_at _ _ _ _ _ (by rw [addMul_length, lz]; omega), addMul_at _ _ _ _ _ (by rw [lz]; omega), zeros_get, if_pos (Nat.zero_le _), if_pos (Nat.zero_le _), Nat.sub_zero,
      getD_range _ _ _ fun j hj => by rw [getD_ge (by omega), getD_ge (by omega)]; rfl]
    omega
def sel (l : List Int) (j : Nat) : List Int := if j < l.length then [l.getD j 0] else []
theorem sel_yes {l : List Int} {j : Nat} (h : j < l.length) : sel l j = [l.getD j 0] := if_pos h
theorem sel_no {l : List Int} {j : Nat} (h : ¬ j < l.length) : sel l j = [] := if_neg h
theorem sel_sum (l : List Int) (j : Nat) : (sel l j).sum = l.getD j 0 := by
  by_cases h : j < l.length
  · rw [sel_yes h]
    simp
  · rw [sel_no h, getD_ge (by omega)]
    rfl
def selN (f g : List Int) (j : Nat) : Nat → List Int
  | 0 => []
  | 1 => sel f j
  | _ => sel f j ++ sel g j
theorem selN_sum (f g : List Int) (j : Nat) : (selN f g j 2).sum = f.getD j 0 + g.getD j 0 := by
  show (sel f j ++ sel g j).sum = _
  rw [List.sum_append, sel_sum, sel_sum]
end M
namespace M
/-- the primes of the setups -/
def PR (p : Int) : Prop := p = 11 ∨ p = 13 ∨ p = 17 ∨ p = 31 ∨ p = 101
theorem PR.lt {p : Int} (h : PR p) : 10 < p ∧ p < 102 := by
  rcases h with e | e | e | e | e <;> omega
def inv (p a : Int) : Int := a ^ (p - 2).toNat % p
theorem inv_lt {p : Int} (h : 0 < p) (a : Int) : 0 ≤ inv p a ∧ inv p a < p := ⟨Int.emod_nonneg _ (by omega), Int.emod_lt_of_pos _ h⟩
def invB (p : Nat) : Bool := (List.range p).all fun n => n == 0 || decide (((n : Int) * inv (p : Int) n) % (p : Int) = 1)
theorem invB_11 : invB 11 = true := by decide +kernel
theorem invB_13 : invB 13 = true := by decide +kernel
theorem invB_17 : invB 17 = true := by decide +kernel
theorem invB_31 : invB 31 = true := by decide +kernel
theorem invB_101 : invB 101 = true := by decide +kernel
theorem inv_of {p : Nat} (h : invB p = true) {a : Int} (h0 : 0 < a) (h1 : a < p) : (a * inv p a) % p = 1 := by
  have h2 := List.all_eq_true.mp h a.toNat (List.mem_range.mpr (by omega))
  rw [Bool.or_eq_true] at h2
  rcases h2 with h2 | h2
  · have : a.toNat = 0 := by simpa using h2
    omega
  · have h3 := of_decide_eq_true h2
    rwa [show ((a.toNat : Nat) : Int) = a by omega] at h3
theorem inv_ok {p : Int} (h : PR p) {a : Int} (h0 : 0 < a) (h1 : a < p) : (a * inv p a) % p = 1 := by
  rcases h with rfl | rfl | rfl | rfl | rfl
  · exact inv_of (p := 11) invB_11 h0 h1
  · exact inv_of (p := 13) invB_13 h0 h1
  · exact inv_of (p := 17) invB_17 h0 h1
  · exact inv_of (p := 31) invB_31 h0 h1
  · exact inv_of (p := 101) invB_101 h0 h1
/-- no divisors of zero -/
theorem mul_ne {p : Int} (h : PR p) {a b : Int} (ha : a % p ≠ 0) (hb : b % p ≠ 0) : (a * b) % p ≠ 0 := by
  have hp := h.lt
  intro e
  have a0 := Int.emod_nonneg a (show p ≠ 0 by omega)
  have a1 := Int.emod_lt_of_pos a (show 0 < p by omega)
  have e1 : Cg p (a % p * inv p (a % p)) 1 := Cg.of (by rw [inv_ok h (by omega) a1, Int.emod_eq_of_lt (by omega) (by omega)])
  have e2 : Cg p (a * b) 0 := Cg.of (by rw [e, Int.zero_emod])
  have e3 : Cg p b 0 := by
    have e4 : Cg p (a % p * inv p (a % p) * b) (1 * b) := e1.mul (Cg.refl p b)
    have e5 : Cg p (a % p * inv p (a % p) * b) (inv p (a % p) * (a * b)) := by
      have := ((Cg.mod p a).mul (Cg.refl p (inv p (a % p) * b)))
      rw [show a % p * inv p (a % p) * b = a % p * (inv p (a % p) * b) by grind, show inv p (a % p) * (a * b) = a * (inv p (a % p) * b) by grind]
      exact this
    have e6 : Cg p (inv p (a % p) * (a * b)) (inv p (a % p) * 0) := (Cg.refl p _).mul e2
    have e7 := e4.symm.trans (e5.trans e6)
    rwa [Int.one_mul, Int.mul_zero] at e7
  have := e3.emod
  rw [Int.zero_emod] at this
  exact hb this
/-! interpolation -/
def stepI (p : Int) (s : List Int × List Int) (x y : Int) : List Int × List Int :=
  (plus p s.1 (times p (red p [(y - hv p s.1 x) * inv p (hv p s.2 x)]) s.2), times p s.2 (red p [-x, 1]))
def stI (p : Int) (l : List (Int × Int)) : List Int × List Int := l.foldl (fun s xy => stepI p s xy.1 xy.2) ([], [1])
theorem stI_snoc (p : Int) (l : List (Int × Int)) (xy : Int × Int) : stI p (l ++ [xy]) = stepI p (stI p l) xy.1 xy.2 := by
  unfold stI
  rw [List.foldl_append]
  rfl
structure InvI (p : Int) (l : List (Int × Int)) (s : List Int × List Int) : Prop where
  len1 : s.1.length ≤ l.length
  len2 : s.2.length ≤ l.length + 1
  in1 : ∀ x ∈ s.1, 0 ≤ x ∧ x < p
  in2 : ∀ x ∈ s.2, 0 ≤ x ∧ x < p
  nf : red p s.1 = s.1
  val : ∀ xy ∈ l, hv p s.1 xy.1 = xy.2
  zero : ∀ xy ∈ l, hv p s.2 xy.1 = 0
  ne : ∀ x, 0 ≤ x → x < p → (∀ xy ∈ l, xy.1 ≠ x) → hv p s.2 x ≠ 0
theorem invI_nil {p : Int} (h : PR p) : InvI p [] (stI p []) where
  len1 := Nat.le_refl _
  len2 := Nat.le_refl _
  in1 := fun x m => by cases m
  in2 := fun x m => by
    have e : x = 1 := by simpa [stI] using m
    have := h.lt
    omega
  nf := rfl
  val := fun _ m => by cases m
  zero := fun _ m => by cases m
  ne := fun x _ _ _ => by
    have hp := h.lt
    show (0 * x + 1) % p ≠ 0
    rw [show (0 : Int) * x + 1 = 1 by omega, Int.emod_eq_of_lt (by omega) (by omega)]
    decide
theorem invI_snoc {p : Int} (h : PR p) {l : List (Int × Int)} {x y : Int} (I : InvI p l (stI p l)) (x0 : 0 ≤ x) (x1 : x < p) (y0 : 0 ≤ y) (y1 : y < p) (nx : ∀ xy ∈ l, xy.1 ≠ x) : InvI p (l ++ [(x, y)]) (stI p (l ++ [(x, y)])) := by
  have hp := h.lt
  have p0 : 0 < p := by omega
  rw [stI_snoc]
  generalize stI p l = s at I
  have vb := hv_lt p0 s.2 x
  have b0 : 0 < hv p s.2 x := by
    have := I.ne x x0 x1 nx
    omega
  have hinv := inv_ok h b0 vb.2
  have vblank : ∀ z, Cg p (hv p (times p s.2 (red p [-x, 1])) z) (hv p s.2 z * (z - x)) := fun z => by
    refine (hv_times p _ _ z).trans ((Cg.refl p _).mul ?_)
    refine (hv_red p _ z).trans ?_
    show Cg p ((0 * z + 1) * z + -x) (z - x)
    rw [show (0 * z + 1) * z + -x = z - x by grind]
    exact Cg.refl _ _
  have vfound : ∀ z, Cg p (hv p (plus p s.1 (times p (red p [(y - hv p s.1 x) * inv p (hv p s.2 x)]) s.2)) z) (hv p s.1 z + (y - hv p s.1 x) * inv p (hv p s.2 x) * hv p s.2 z) := fun z => by
    refine (hv_plus p _ _ z).trans ((Cg.refl p _).add ?_)
    refine (hv_times p _ _ z).trans (Cg.mul ?_ (Cg.refl p _))
    refine (hv_red p _ z).trans ?_
    show Cg p (0 * z + (y - hv p s.1 x) * inv p (hv p s.2 x)) _
    rw [show 0 * z + (y - hv p s.1 x) * inv p (hv p s.2 x) = (y - hv p s.1 x) * inv p (hv p s.2 x) by grind]
    exact Cg.refl _ _
  have bnd := fun (f : List Int) (z : Int) => hv_lt p0 f z
  refine ⟨?_, ?_, fun _ m => red_mem p0 m, fun _ m => red_mem p0 m, red_red p0 _, ?_, ?_, ?_⟩
  · show (plus p s.1 (times p (red p [(y - hv p s.1 x) * inv p (hv p s.2 x)]) s.2)).length ≤ (l ++ [(x, y)]).length
    have h1 := plus_length p s.1 (times p (red p [(y - hv p s.1 x) * inv p (hv p s.2 x)]) s.2)
    have h2 := times_length p (red p [(y - hv p s.1 x) * inv p (hv p s.2 x)]) s.2
    have h3 : (red p [(y - hv p s.1 x) * inv p (hv p s.2 x)]).length ≤ 1 := by
      refine Nat.le_trans (trim_length _) ?_
      simp
    have h4 := I.len1
    have h5 := I.len2
    rw [List.length_append]
    show _ ≤ l.length + 1
    omega
  · show (times p s.2 (red p [-x, 1])).length ≤ (l ++ [(x, y)]).length + 1
    have h2 := times_length p s.2 (red p [-x, 1])
    have h3 : (red p [-x, 1]).length ≤ 2 := by
      refine Nat.le_trans (trim_length _) ?_
      simp
    have h5 := I.len2
    rw [List.length_append]
    show _ ≤ l.length + 1 + 1
    omega
  · rintro ⟨x', y'⟩ m
    show hv p (plus p s.1 (times p (red p [(y - hv p s.1 x) * inv p (hv p s.2 x)]) s.2)) x' = y'
    rcases List.mem_append.mp m with m | m
    · have e1 : hv p s.2 x' = 0 := I.zero _ m
      have e2 : hv p s.1 x' = y' := I.val _ m
      have c := vfound x'
      rw [e1, e2, Int.mul_zero, Int.add_zero] at c
      have b := bnd s.1 x'
      rw [e2] at b
      exact c.eq (bnd _ _).1 (bnd _ _).2 b.1 b.2
    · have e : (x', y') = (x, y) := by simpa using m
      cases e
      refine (vfound x).trans ?_ |>.eq (bnd _ _).1 (bnd _ _).2 y0 y1
      have c1 : Cg p (hv p s.2 x * inv p (hv p s.2 x)) 1 := Cg.of (by rw [hinv, Int.emod_eq_of_lt (by omega) (by omega)])
      have c2 := (Cg.refl p (hv p s.1 x)).add ((Cg.refl p (y - hv p s.1 x)).mul c1)
      rw [show hv p s.1 x + (y - hv p s.1 x) * 1 = y by grind] at c2
      rw [show hv p s.1 x + (y - hv p s.1 x) * inv p (hv p s.2 x) * hv p s.2 x = hv p s.1 x + (y - hv p s.1 x) * (hv p s.2 x * inv p (hv p s.2 x)) by grind]
      exact c2
  · rintro ⟨x', y'⟩ m
    show hv p (times p s.2 (red p [-x, 1])) x' = 0
    refine (vblank x').trans ?_ |>.eq (bnd _ _).1 (bnd _ _).2 (Int.le_refl _) p0
    rcases List.mem_append.mp m with m | m
    · have e1 : hv p s.2 x' = 0 := I.zero _ m
      rw [e1, Int.zero_mul]
      exact Cg.refl _ _
    · have e : (x', y') = (x, y) := by simpa using m
      cases e
      rw [Int.sub_self, Int.mul_zero]
      exact Cg.refl _ _
  · intro z z0 z1 nz e
    have e1 : hv p s.2 z ≠ 0 := I.ne z z0 z1 fun xy m => nz xy (List.mem_append_left _ m)
    have e2 : x ≠ z := nz (x, y) (List.mem_append_right _ (List.mem_singleton.mpr rfl))
    have c := vblank z
    have e3 : hv p (times p s.2 (red p [-x, 1])) z = 0 := e
    rw [e3] at c
    have b := bnd s.2 z
    refine mul_ne h (a := hv p s.2 z) (b := z - x) ?_ ?_ ?_
    · rw [Int.emod_eq_of_lt b.1 b.2]
      exact e1
    · intro e4
      have e5 : Cg p z x := Int.dvd_of_emod_eq_zero e4
      exact e2 (e5.eq z0 z1 x0 x1).symm
    · rw [← c.emod, Int.zero_emod]
theorem invI_take {p : Int} (h : PR p) {l : List (Int × Int)} (hin : ∀ xy ∈ l, 0 ≤ xy.1 ∧ xy.1 < p ∧ 0 ≤ xy.2 ∧ xy.2 < p) (hnd : (l.map (·.1)).Nodup) : ∀ i, i ≤ l.length → InvI p (l.take i) (stI p (l.take i)) := fun i => by
  induction i with
  | zero => exact fun _ => invI_nil h
  | succ i ih =>
    intro hi
    have hi' : i < l.length := hi
    have I := ih (by omega)
    obtain ⟨a1, a2, a3, a4⟩ := hin l[i] (List.getElem_mem hi')
    rw [List.take_succ_eq_append_getElem hi']
    exact invI_snoc h I a1 a2 a3 a4 fun xy m e => by
      obtain ⟨k, hk, ek⟩ := List.getElem_of_mem m
      rw [List.length_take] at hk
      rw [List.getElem_take] at ek
      have h1 : (l.map (·.1))[k]'(by rw [List.length_map]; omega) = (l.map (·.1))[i]'(by rw [List.length_map]; omega) := by
        rw [List.getElem_map, List.getElem_map, ek, e]
        rfl
      have := (List.getElem_inj hnd).mp h1
      omega
theorem invI_all {p : Int} (h : PR p) {l : List (Int × Int)} (hin : ∀ xy ∈ l, 0 ≤ xy.1 ∧ xy.1 < p ∧ 0 ≤ xy.2 ∧ xy.2 < p) (hnd : (l.map (·.1)).Nodup) : InvI p l (stI p l) := by
  have := invI_take h hin hnd l.length (Nat.le_refl _)
  rwa [List.take_length] at this
theorem erase_perm : ∀ (l : List Int) (d : Nat) (h : d < l.length), List.Perm (l[d] :: l.eraseIdx d) l
  | [], _, h => by simp at h
  | a :: r, 0, _ => List.Perm.refl _
  | a :: r, d + 1, h => by
    have ih := erase_perm r d (by simpa using h)
    show List.Perm (r[d]'(by simpa using h) :: a :: r.eraseIdx d) (a :: r)
    exact (List.Perm.swap a _ _).trans (List.Perm.cons a ih)
theorem nodup_move {l : List Int} {ls : List Int} {d : Nat} (hd : d < ls.length) (h : (l ++ ls).Nodup) : ((l ++ [ls[d]]) ++ ls.eraseIdx d).Nodup := by
  have p1 : List.Perm (ls[d] :: ls.eraseIdx d) ls := erase_perm ls d hd
  have p2 : List.Perm ((l ++ [ls[d]]) ++ ls.eraseIdx d) (l ++ ls) := by
    rw [List.append_assoc]
    exact List.Perm.append_left l p1
  exact p2.nodup_iff.mpr h
theorem range_nodup (m : Nat) : ((List.range m).map fun j => (0 : Int) + (j : Nat)).Nodup := by
  rw [List.nodup_iff_pairwise_ne, List.pairwise_map]
  exact List.Pairwise.imp (fun h e => by omega) List.pairwise_lt_range
theorem paired_snoc {α β : Type} {F : α → β → Prop} : ∀ {l : List α} {l' : List β} {a : α} {b : β}, PySem.Paired F l l' → F a b → PySem.Paired F (l ++ [a]) (l' ++ [b])
  | _, _, _, _, .nil, h => .cons h .nil
  | _, _, _, _, .cons r t, h => .cons r (paired_snoc t h)
end M
namespace M
/-! roots -/
def quot (r : Int) : List Int → List Int
  | [] => []
  | [_] => []
  | _ :: t => ev t r :: quot r t
theorem quot_ev (r x : Int) : ∀ f : List Int, ev f x = (x - r) * ev (quot r f) x + ev f r
  | [] => by
    show (0 : Int) = (x - r) * 0 + 0
    grind
  | [c] => by
    show (0 : Int) * x + c = (x - r) * 0 + (0 * r + c)
    grind
  | c :: d :: t => by
    have ih := quot_ev r x (d :: t)
    show ev (d :: t) x * x + c = (x - r) * (ev (quot r (d :: t)) x * x + ev (d :: t) r) + (ev (d :: t) r * r + c)
    rw [ih]
    grind
theorem quot_length (r : Int) : ∀ f : List Int, (quot r f).length = f.length - 1
  | [] => rfl
  | [_] => rfl
  | c :: d :: t => by
    show (quot r (d :: t)).length + 1 = (t.length + 1 + 1) - 1
    rw [quot_length r (d :: t)]
    show (t.length + 1 - 1) + 1 = _
    omega
theorem quot_zero {p r : Int} : ∀ f : List Int, (∀ c ∈ quot r f, Cg p c 0) → Cg p (ev f r) 0 → ∀ c ∈ f, Cg p c 0
  | [], _, _, _, m => by cases m
  | [c], _, h, c', m => by
    have e : c' = c := by simpa using m
    subst e
    have h' : Cg p (0 * r + c') 0 := h
    rwa [Int.zero_mul, Int.zero_add] at h'
  | c :: d :: t, hq, h, c', m => by
    have h1 : Cg p (ev (d :: t) r) 0 := hq _ (List.mem_cons_self ..)
    have ih := quot_zero (d :: t) (fun c m => hq c (List.mem_cons_of_mem _ m)) h1
    rcases List.mem_cons.mp m with e | m
    · subst e
      have h' : Cg p (ev (d :: t) r * r + c') 0 := h
      have h2 : Cg p (ev (d :: t) r * r) (0 * r) := h1.mul (Cg.refl p r)
      have h3 := h'.sub h2
      rwa [show ev (d :: t) r * r + c' - ev (d :: t) r * r = c' by grind, show (0 : Int) - 0 * r = 0 by grind] at h3
    · exact ih c' m
theorem roots {p : Int} (h : PR p) : ∀ (n : Nat) (f xs : List Int), f.length ≤ n → f.length ≤ xs.length → xs.Nodup → (∀ x ∈ xs, 0 ≤ x ∧ x < p) → (∀ x ∈ xs, Cg p (ev f x) 0) → ∀ c ∈ f, Cg p c 0
  | 0, f, _, hl, _, _, _, _, c, m => by
    cases f with
    | nil => cases m
    | cons a r => simp at hl
  | n + 1, f, [], hl, hx, _, _, _, c, m => by
    cases f with
    | nil => cases m
    | cons a r => simp at hx
  | n + 1, f, r :: xs, hl, hx, nd, hb, hz, c, m => by
    have hp := h.lt
    have nd' := List.nodup_cons.mp nd
    refine quot_zero f (r := r) (roots h n (quot r f) xs ?_ ?_ nd'.2 (fun x m => hb x (List.mem_cons_of_mem _ m)) ?_) (hz r (List.mem_cons_self ..)) c m
    · rw [quot_length]
      omega
    · rw [quot_length]
      have : f.length ≤ xs.length + 1 := hx
      omega
    · intro x mx
      have e1 := hz x (List.mem_cons_of_mem _ mx)
      have e2 := hz r (List.mem_cons_self ..)
      rw [quot_ev r x f] at e1
      have e3 := e1.sub e2
      rw [show (x - r) * ev (quot r f) x + ev f r - ev f r = (x - r) * ev (quot r f) x by grind, Int.sub_zero] at e3
      have hxb := hb x (List.mem_cons_of_mem _ mx)
      have hrb := hb r (List.mem_cons_self ..)
      by_cases z : ev (quot r f) x % p = 0
      · exact Cg.of (by rw [z, Int.zero_emod])
      · refine absurd ?_ (mul_ne h (a := x - r) ?_ z)
        · have := e3.emod
          rwa [Int.zero_emod] at this
        · intro z2
          have e4 : Cg p x r := Int.dvd_of_emod_eq_zero z2
          have e5 := e4.eq hxb.1 hxb.2 hrb.1 hrb.2
          subst e5
          exact nd'.1 mx
theorem trim_ext : ∀ (l l' : List Int), (∀ i, l.getD i 0 = l'.getD i 0) → trim l = trim l'
  | [], [], _ => rfl
  | [], b :: r', h => by
    have ih := trim_ext [] r' (fun i => by simpa using h (i + 1))
    have h0 : b = 0 := by simpa using (h 0).symm
    show [] = (if b = 0 ∧ trim r' = [] then [] else b :: trim r')
    rw [if_pos ⟨h0, ih.symm⟩]
  | a :: r, [], h => by
    have ih := trim_ext r [] (fun i => by simpa using h (i + 1))
    have h0 : a = 0 := by simpa using (h 0)
    show (if a = 0 ∧ trim r = [] then [] else a :: trim r) = []
    rw [if_pos ⟨h0, ih⟩]
  | a :: r, b :: r', h => by
    have ih := trim_ext r r' (fun i => by simpa using h (i + 1))
    have h0 : a = b := by simpa using (h 0)
    show (if a = 0 ∧ trim r = [] then [] else a :: trim r) = (if b = 0 ∧ trim r' = [] then [] else b :: trim r')
    rw [ih, h0]
/-- reduced: all coefficients are numbers -/
def Rd (p : Int) (f : List Int) : Prop := ∀ c ∈ f, 0 ≤ c ∧ c < p
theorem Rd.getD {p : Int} (hp : 0 < p) {f : List Int} (h : Rd p f) (i : Nat) : 0 ≤ f.getD i 0 ∧ f.getD i 0 < p := by
  rw [List.getD_eq_getElem?_getD]
  cases e : f[i]? with
  | none => exact ⟨Int.le_refl _, hp⟩
  | some y => exact h y (List.mem_of_getElem? e)
theorem hv_eq {p : Int} (hp : 0 < p) {f g : List Int} {x : Int} (h : Cg p (ev f x) (ev g x)) : hv p f x = hv p g x :=
  ((hv_ev p f x).trans (h.trans (hv_ev p g x).symm)).eq (hv_lt hp f x).1 (hv_lt hp f x).2 (hv_lt hp g x).1 (hv_lt hp g x).2
theorem hv_trim {p : Int} (hp : 0 < p) (f : List Int) (x : Int) : hv p (trim f) x = hv p f x := hv_eq hp (by rw [ev_trim]; exact Cg.refl _ _)
/-- two polynomials that agree at enough numbers are one -/
theorem same_poly {p : Int} (h : PR p) {f g xs : List Int} (hf : Rd p f) (hg : Rd p g) (lf : f.length ≤ xs.length) (lg : g.length ≤ xs.length) (nd : xs.Nodup) (hb : ∀ x ∈ xs, 0 ≤ x ∧ x < p)
    (e : ∀ x ∈ xs, hv p f x = hv p g x) : trim f = trim g := by
  have hp := h.lt
  refine trim_ext f g fun i => ?_
  have lz : (zeros (max f.length g.length)).length = max f.length g.length := by simp [zeros]
  let D := addMul (addMul (zeros (max f.length g.length)) 0 1 f) 0 (-1) g
  have lD : D.length = max f.length g.length := by
    show (addMul (addMul (zeros (max f.length g.length)) 0 1 f) 0 (-1) g).length = _
    rw [addMul_length, addMul_length, lz]
  have gD : ∀ i, D.getD i 0 = f.getD i 0 - g.getD i 0 := fun i => by
    show (addMul (addMul (zeros (max f.length g.length)) 0 1 f) 0 (-1) g).getD i 0 = _
    rw [addMul_at _ _ _ _ _ (by rw [addMul_length, lz]; omega), addMul_at _ _ _ _ _ (by rw [lz]; omega), zeros_get, if_pos (Nat.zero_le _), if_pos (Nat.zero_le _), Nat.sub_zero]
    omega
  have eD : ∀ x, ev D x = ev f x - ev g x := fun x => by
    show ev (addMul (addMul (zeros (max f.length g.length)) 0 1 f) 0 (-1) g) x = _
    rw [ev_addMul _ _ _ _ _ (by rw [addMul_length, lz]; omega), ev_addMul _ _ _ _ _ (by rw [lz]; omega), ev_zeros]
    grind
  have z := roots h D.length D xs (Nat.le_refl _) (by rw [lD]; omega) nd hb fun x m => by
    rw [eD]
    have e1 : Cg p (ev f x) (ev g x) := (hv_ev p f x).symm.trans (by rw [e x m]; exact hv_ev p g x)
    have e2 := e1.sub (Cg.refl p (ev g x))
    rwa [Int.sub_self] at e2
  by_cases hi : i < D.length
  · have e1 : Cg p (D.getD i 0) 0 := z _ (by rw [List.getD_eq_getElem?_getD, List.getElem?_eq_getElem hi]; exact List.getElem_mem hi)
    rw [gD] at e1
    have e2 := e1.add (Cg.refl p (g.getD i 0))
    rw [Int.sub_add_cancel, Int.zero_add] at e2
    exact e2.eq (hf.getD (by omega) i).1 (hf.getD (by omega) i).2 (hg.getD (by omega) i).1 (hg.getD (by omega) i).2
  · rw [lD] at hi
    rw [getD_ge (show f.length ≤ i by omega), getD_ge (show g.length ≤ i by omega)]
/-! decoding -/
def hits (p : Int) (f : List Int) (l : List (Int × Int)) : List (Int × Int) := l.filter fun xy => hv p f xy.1 == xy.2
theorem hits_two (p : Int) (f g : List Int) (l : List (Int × Int)) : (hits p f l).length + (hits p g l).length ≤ l.length + (l.filter fun xy => hv p f xy.1 == xy.2 && hv p g xy.1 == xy.2).length := by
  unfold hits
  induction l with
  | nil => simp
  | cons a r ih =>
    simp only [List.filter_cons, List.length_cons]
    cases hv p f a.1 == a.2 <;> cases hv p g a.1 == a.2 <;> simp [List.length_cons] <;> omega
structure Inp (p : Int) (d e : Nat) (l : List (Int × Int)) : Prop where
  pr : PR p
  inn : ∀ xy ∈ l, 0 ≤ xy.1 ∧ xy.1 < p ∧ 0 ≤ xy.2 ∧ xy.2 < p
  nd : (l.map (·.1)).Nodup
  many : d + 2 * e + 1 ≤ l.length
/-- a polynomial of the degree d with all but e of the pairs -/
structure Fit (p : Int) (d e : Nat) (l : List (Int × Int)) (f : List Int) : Prop where
  tr : trim f = f
  rd : Rd p f
  le : f.length ≤ d + 1
  hit : l.length ≤ (hits p f l).length + e
def DecOk (p : Int) (d e : Nat) (l : List (Int × Int)) : Option (List Int) → Prop
  | some f => Fit p d e l f
  | none => ∀ f, ¬ Fit p d e l f
theorem fit_one {p : Int} {d e : Nat} {l : List (Int × Int)} (I : Inp p d e l) {f g : List Int} (F : Fit p d e l f) (G : Fit p d e l g) : f = g := by
  have t := hits_two p f g l
  have h1 := F.hit
  have h2 := G.hit
  have h3 := I.many
  have sub : (l.filter fun xy => hv p f xy.1 == xy.2 && hv p g xy.1 == xy.2).Sublist l := List.filter_sublist
  have lx : d + 1 ≤ ((l.filter fun xy => hv p f xy.1 == xy.2 && hv p g xy.1 == xy.2).map (·.1)).length := by
    rw [List.length_map]
    omega
  have := same_poly I.pr F.rd G.rd (xs := (l.filter fun xy => hv p f xy.1 == xy.2 && hv p g xy.1 == xy.2).map (·.1)) (by have := F.le; omega) (by have := G.le; omega)
    (I.nd.sublist (sub.map _)) (fun x m => by
      obtain ⟨xy, mm, rfl⟩ := List.mem_map.mp m
      have := I.inn xy (sub.subset mm)
      exact ⟨this.1, this.2.1⟩) (fun x m => by
      obtain ⟨xy, mm, rfl⟩ := List.mem_map.mp m
      have := (List.mem_filter.mp mm).2
      rw [Bool.and_eq_true] at this
      rw [eq_of_beq this.1, eq_of_beq this.2])
  rw [F.tr, G.tr] at this
  exact this
theorem dec_one {p : Int} {d e : Nat} {l : List (Int × Int)} (I : Inp p d e l) : ∀ {r s : Option (List Int)}, DecOk p d e l r → DecOk p d e l s → r = s
  | none, none, _, _ => rfl
  | some f, none, h, g => absurd h (g f)
  | none, some f, h, g => absurd g (h f)
  | some f, some g, h, k => by rw [fit_one I h k]
end M
namespace M
theorem ev_ext {l l' : List Int} (h : ∀ i, l.getD i 0 = l'.getD i 0) (x : Int) : ev l x = ev l' x := by rw [← ev_trim l, trim_ext l l' h, ev_trim]
theorem getD_rangeM (n i : Nat) (f : Nat → Int) (h : i < n) : ((List.range n).map f).getD i 0 = f i := by
  rw [List.getD_eq_getElem?_getD, List.getElem?_map, List.getElem?_range h]
  rfl
theorem getD_rangeO (n i : Nat) (f : Nat → Int) (h : n ≤ i) : ((List.range n).map f).getD i 0 = 0 := getD_ge (by rw [List.length_map, List.length_range]; exact h)
theorem getD_mod (p : Int) (l : List Int) (i : Nat) : (l.map (· % p)).getD i 0 = l.getD i 0 % p := by
  rw [List.getD_eq_getElem?_getD, List.getD_eq_getElem?_getD, List.getElem?_map]
  cases l[i]? with
  | none => exact (Int.zero_emod p).symm
  | some y => rfl
theorem Rd.mod {p : Int} (hp : 0 < p) (l : List Int) : Rd p (l.map (· % p)) := fun c m => by
  obtain ⟨y, _, rfl⟩ := List.mem_map.mp m
  exact ⟨Int.emod_nonneg _ (by omega), Int.emod_lt_of_pos _ hp⟩
/-! the law's own line -/
def lng (xj fac : Int) (term : List Int) (u : Nat) : Int := if 0 < u then (0 - xj * term.getD u 0 * fac) + term.getD (u - 1) 0 * fac else 0 - xj * term.getD u 0 * fac
theorem ev_lng (n : Nat) (xj fac : Int) (term : List Int) (x : Int) (hl : term.length = n) (hz : term.getD (n - 1) 0 = 0) : ev ((List.range n).map (lng xj fac term)) x = ev term x * ((x - xj) * fac) := by
  cases n with
  | zero =>
    have : term = [] := by simpa using hl
    subst this
    show (0 : Int) = 0 * _
    grind
  | succ n =>
    have lz : (zeros (n + 1)).length = n + 1 := by simp [zeros]
    have lt : (term.take n).length = n := by rw [List.length_take]; omega
    have e1 : ∀ i, ((List.range (n + 1)).map (lng xj fac term)).getD i 0 = (addMul (addMul (zeros (n + 1)) 0 (-(xj * fac)) term) 1 fac (term.take n)).getD i 0 := fun i => by
      rw [addMul_at _ _ _ _ _ (by rw [addMul_length, lz, lt]; omega), addMul_at _ _ _ _ _ (by rw [lz]; omega), zeros_get, if_pos (Nat.zero_le _), Nat.sub_zero, Int.zero_add]
      by_cases hi : i < n + 1
      · rw [getD_rangeM _ _ _ hi]
        unfold lng
        by_cases h0 : 0 < i
        · rw [if_pos h0, if_pos (show 1 ≤ i from h0)]
          have e2 : (term.take n).getD (i - 1) 0 = term.getD (i - 1) 0 := by
            rw [List.getD_eq_getElem?_getD, List.getD_eq_getElem?_getD, List.getElem?_take_of_lt (by omega)]
          rw [e2]
          grind
        · rw [if_neg h0, if_neg (by omega)]
          grind
      · rw [getD_rangeO _ _ _ (by omega), getD_ge (show term.length ≤ i by omega), if_pos (by omega), getD_ge (show (term.take n).length ≤ i - 1 by omega)]
        grind
    rw [ev_ext e1, ev_addMul _ _ _ _ _ (by rw [addMul_length, lz, lt]; omega), ev_addMul _ _ _ _ _ (by rw [lz]; omega), ev_zeros]
    have e3 : ev (term.take n) x = ev term x := ev_ext (fun i => by
      rw [List.getD_eq_getElem?_getD, List.getElem?_take]
      by_cases hi : i < n
      · rw [if_pos hi, ← List.getD_eq_getElem?_getD]
      · rw [if_neg hi]
        by_cases h2 : i = n
        · subst h2
          exact hz.symm
        · exact (getD_ge (by omega)).symm) x
    rw [e3]
    grind
def xAt (l : List (Int × Int)) (k : Nat) : Int := (l.getD k (0, 0)).1
def yAt (l : List (Int × Int)) (k : Nat) : Int := (l.getD k (0, 0)).2
def stepT (p : Int) (n : Nat) (xk xj : Int) (term : List Int) : List Int := ((List.range n).map (lng xj (inv p ((xk - xj) % p)) term)).map (· % p)
def termT (p : Int) (l : List (Int × Int)) (k : Nat) : Nat → List Int
  | 0 => yAt l k :: zeros (l.length - 1)
  | j + 1 => if j = k then termT p l k j else stepT p l.length (xAt l k) (xAt l j) (termT p l k j)
def foundT (p : Int) (l : List (Int × Int)) : Nat → List Int
  | 0 => zeros l.length
  | k + 1 => (List.range l.length).map fun u => ((foundT p l k).getD u 0 + (termT p l k l.length).getD u 0) % p
def lineT (p : Int) (l : List (Int × Int)) : List Int := foundT p l l.length
theorem termT_length (p : Int) (l : List (Int × Int)) (k : Nat) (h : k < l.length) : ∀ j, (termT p l k j).length = l.length
  | 0 => by
    show (zeros (l.length - 1)).length + 1 = _
    simp [zeros]
    omega
  | j + 1 => by
    show (if j = k then termT p l k j else stepT p l.length (xAt l k) (xAt l j) (termT p l k j)).length = _
    split
    · exact termT_length p l k h j
    · unfold stepT
      rw [List.length_map, List.length_map, List.length_range]
theorem foundT_length (p : Int) (l : List (Int × Int)) : ∀ k, (foundT p l k).length = l.length
  | 0 => by
    show (zeros l.length).length = _
    simp [zeros]
  | k + 1 => by
    show ((List.range l.length).map _).length = _
    rw [List.length_map, List.length_range]
theorem at_in {p : Int} {l : List (Int × Int)} (hin : ∀ xy ∈ l, 0 ≤ xy.1 ∧ xy.1 < p ∧ 0 ≤ xy.2 ∧ xy.2 < p) {k : Nat} (h : k < l.length) : (0 ≤ xAt l k ∧ xAt l k < p) ∧ 0 ≤ yAt l k ∧ yAt l k < p := by
  unfold xAt yAt
  rw [List.getD_eq_getElem?_getD, List.getElem?_eq_getElem h]
  have := hin l[k] (List.getElem_mem h)
  exact ⟨⟨this.1, this.2.1⟩, this.2.2⟩
theorem termT_rd {p : Int} (hp : 0 < p) {l : List (Int × Int)} (hin : ∀ xy ∈ l, 0 ≤ xy.1 ∧ xy.1 < p ∧ 0 ≤ xy.2 ∧ xy.2 < p) {k : Nat} (h : k < l.length) : ∀ j, Rd p (termT p l k j)
  | 0 => fun c m => by
    have m' : c ∈ yAt l k :: zeros (l.length - 1) := m
    rcases List.mem_cons.mp m' with e | m'
    · rw [e]
      exact (at_in hin h).2
    · have : c = 0 := (List.mem_replicate.mp m').2
      omega
  | j + 1 => by
    show Rd p (if j = k then termT p l k j else stepT p l.length (xAt l k) (xAt l j) (termT p l k j))
    split
    · exact termT_rd hp hin h j
    · exact Rd.mod hp _
theorem foundT_rd {p : Int} (hp : 0 < p) (l : List (Int × Int)) : ∀ k, Rd p (foundT p l k)
  | 0 => fun c m => by
    have : c = 0 := (List.mem_replicate.mp m).2
    omega
  | k + 1 => fun c m => by
    obtain ⟨y, _, rfl⟩ := List.mem_map.mp m
    exact ⟨Int.emod_nonneg _ (by omega), Int.emod_lt_of_pos _ hp⟩
/-- how many turns the loop over j has made that change the term -/
def turnsT (k j : Nat) : Nat := if j ≤ k then j else j - 1
theorem termT_zero {p : Int} {l : List (Int × Int)} {k : Nat} (h : k < l.length) : ∀ j i, turnsT k j < i → (termT p l k j).getD i 0 = 0
  | 0, i, hi => by
    unfold turnsT at hi
    rw [if_pos (Nat.zero_le _)] at hi
    show (yAt l k :: zeros (l.length - 1)).getD i 0 = 0
    cases i with
    | zero => omega
    | succ i => exact zeros_get _ i
  | j + 1, i, hi => by
    show (if j = k then termT p l k j else stepT p l.length (xAt l k) (xAt l j) (termT p l k j)).getD i 0 = 0
    have ih := termT_zero (p := p) h j
    unfold turnsT at hi ih
    split
    · rename_i e
      subst e
      refine ih i ?_
      rw [if_pos (Nat.le_refl _)]
      rw [if_neg (by omega)] at hi
      omega
    · rename_i e
      unfold stepT
      rw [getD_mod]
      by_cases hn : i < l.length
      · rw [getD_rangeM _ _ _ hn]
        unfold lng
        have h1 : turnsT k j + 1 < i ∨ turnsT k j + 1 = turnsT k (j + 1) := by
          unfold turnsT
          right
          split <;> split <;> omega
        have h2 : turnsT k j + 1 < i := by
          rcases h1 with h1 | h1
          · exact h1
          · rw [h1]
            exact hi
        unfold turnsT at h2
        rw [if_pos (by omega), ih i (by omega), ih (i - 1) (by omega)]
        rw [Int.mul_zero, Int.zero_mul, Int.sub_zero, Int.add_zero, Int.zero_emod]
      · rw [getD_rangeO _ _ _ (by omega), Int.zero_emod]
def prodT (p : Int) (l : List (Int × Int)) (k : Nat) (x : Int) : Nat → Int
  | 0 => yAt l k
  | j + 1 => if j = k then prodT p l k x j else prodT p l k x j * ((x - xAt l j) * inv p ((xAt l k - xAt l j) % p))
theorem ev_termT {p : Int} {l : List (Int × Int)} {k : Nat} (h : k < l.length) (x : Int) : ∀ j, j ≤ l.length → Cg p (ev (termT p l k j) x) (prodT p l k x j)
  | 0, _ => by
    show Cg p (ev (zeros (l.length - 1)) x * x + yAt l k) (yAt l k)
    rw [ev_zeros, Int.zero_mul, Int.zero_add]
    exact Cg.refl _ _
  | j + 1, hj => by
    have ih := ev_termT (p := p) h x j (by omega)
    show Cg p (ev (if j = k then termT p l k j else stepT p l.length (xAt l k) (xAt l j) (termT p l k j)) x) (if j = k then prodT p l k x j else _)
    by_cases e : j = k
    · rw [if_pos e, if_pos e]
      exact ih
    · rw [if_neg e, if_neg e]
      unfold stepT
      refine (ev_mod p _ x).trans ?_
      rw [ev_lng _ _ _ _ _ (termT_length p l k h j) (termT_zero h j _ (by unfold turnsT; split <;> omega))]
      exact ih.mul (Cg.refl _ _)
theorem prodT_zero {p : Int} {l : List (Int × Int)} {k i : Nat} (hik : i ≠ k) : ∀ j, i < j → Cg p (prodT p l k (xAt l i) j) 0
  | 0, h => by omega
  | j + 1, h => by
    show Cg p (if j = k then prodT p l k (xAt l i) j else prodT p l k (xAt l i) j * ((xAt l i - xAt l j) * inv p ((xAt l k - xAt l j) % p))) 0
    by_cases e : i = j
    · subst e
      rw [if_neg hik, Int.sub_self, Int.zero_mul, Int.mul_zero]
      exact Cg.refl _ _
    · have ih := prodT_zero (p := p) (l := l) hik j (by omega)
      split
      · exact ih
      · have := ih.mul (Cg.refl p ((xAt l i - xAt l j) * inv p ((xAt l k - xAt l j) % p)))
        rwa [Int.zero_mul] at this
theorem xAt_ne {l : List (Int × Int)} (nd : (l.map (·.1)).Nodup) {i j : Nat} (hi : i < l.length) (hj : j < l.length) (h : i ≠ j) : xAt l i ≠ xAt l j := by
  unfold xAt
  rw [List.getD_eq_getElem?_getD, List.getD_eq_getElem?_getD, List.getElem?_eq_getElem hi, List.getElem?_eq_getElem hj]
  intro e
  have h1 : (l.map (·.1))[i]'(by rw [List.length_map]; exact hi) = (l.map (·.1))[j]'(by rw [List.length_map]; exact hj) := by
    rw [List.getElem_map, List.getElem_map]
    exact e
  exact h ((List.getElem_inj nd).mp h1)
theorem prodT_one {p : Int} (hpr : PR p) {l : List (Int × Int)} (hin : ∀ xy ∈ l, 0 ≤ xy.1 ∧ xy.1 < p ∧ 0 ≤ xy.2 ∧ xy.2 < p) (nd : (l.map (·.1)).Nodup) {k : Nat} (h : k < l.length) : ∀ j, j ≤ l.length → Cg p (prodT p l k (xAt l k) j) (yAt l k)
  | 0, _ => Cg.refl _ _
  | j + 1, hj => by
    have hp := hpr.lt
    have ih := prodT_one hpr hin nd h j (by omega)
    show Cg p (if j = k then prodT p l k (xAt l k) j else prodT p l k (xAt l k) j * ((xAt l k - xAt l j) * inv p ((xAt l k - xAt l j) % p))) _
    split
    · exact ih
    · rename_i e
      have b0 := Int.emod_nonneg (xAt l k - xAt l j) (show p ≠ 0 by omega)
      have b1 := Int.emod_lt_of_pos (xAt l k - xAt l j) (show 0 < p by omega)
      have hk := (at_in hin h).1
      have hj' := (at_in hin (k := j) (by omega)).1
      have b2 : (xAt l k - xAt l j) % p ≠ 0 := fun z => xAt_ne nd (i := k) (j := j) h (by omega) (fun z => e z.symm) ((show Cg p (xAt l k) (xAt l j) from Int.dvd_of_emod_eq_zero z).eq hk.1 hk.2 hj'.1 hj'.2)
      have e1 : Cg p ((xAt l k - xAt l j) % p * inv p ((xAt l k - xAt l j) % p)) 1 := Cg.of (by rw [inv_ok hpr (by omega) b1, Int.emod_eq_of_lt (by omega) (by omega)])
      have e2 : Cg p ((xAt l k - xAt l j) * inv p ((xAt l k - xAt l j) % p)) 1 := ((Cg.mod p _).symm.mul (Cg.refl p _)).trans e1
      have := ih.mul e2
      rwa [Int.mul_one] at this
theorem ev_foundT {p : Int} (hpr : PR p) {l : List (Int × Int)} (hin : ∀ xy ∈ l, 0 ≤ xy.1 ∧ xy.1 < p ∧ 0 ≤ xy.2 ∧ xy.2 < p) (nd : (l.map (·.1)).Nodup) {i : Nat} (hi : i < l.length) : ∀ m, m ≤ l.length → Cg p (ev (foundT p l m) (xAt l i)) (if i < m then yAt l i else 0)
  | 0, _ => by
    show Cg p (ev (zeros l.length) (xAt l i)) _
    rw [ev_zeros, if_neg (by omega)]
    exact Cg.refl _ _
  | m + 1, hm => by
    have ih := ev_foundT hpr hin nd hi m (by omega)
    have lz : (zeros l.length).length = l.length := by simp [zeros]
    have e1 : ∀ u, (foundT p l (m + 1)).getD u 0 = ((addMul (addMul (zeros l.length) 0 1 (foundT p l m)) 0 1 (termT p l m l.length)).map (· % p)).getD u 0 := fun u => by
      show ((List.range l.length).map _).getD u 0 = _
      rw [getD_mod, addMul_at _ _ _ _ _ (by rw [addMul_length, lz, termT_length p l m (by omega)]; omega), addMul_at _ _ _ _ _ (by rw [lz, foundT_length]; omega), zeros_get, if_pos (Nat.zero_le _), if_pos (Nat.zero_le _), Nat.sub_zero, Int.zero_add, Int.one_mul, Int.one_mul]
      by_cases hu : u < l.length
      · rw [getD_rangeM _ _ _ hu]
      · rw [getD_rangeO _ _ _ (by omega), getD_ge (by rw [foundT_length]; omega), getD_ge (by rw [termT_length p l m (by omega)]; omega)]
        exact (Int.zero_emod p).symm
    rw [ev_ext e1]
    refine (ev_mod p _ _).trans ?_
    rw [ev_addMul _ _ _ _ _ (by rw [addMul_length, lz, termT_length p l m (by omega)]; omega), ev_addMul _ _ _ _ _ (by rw [lz, foundT_length]; omega), ev_zeros]
    have e2 := ev_termT (p := p) (l := l) (k := m) (by omega) (xAt l i) l.length (Nat.le_refl _)
    rw [Int.zero_add, Int.one_mul, Int.pow_zero, Int.one_mul, Int.one_mul]
    have e3 := ih.add e2
    refine e3.trans ?_
    by_cases e : i = m
    · subst e
      have := prodT_one hpr hin nd hi l.length (Nat.le_refl _)
      rw [if_neg (by omega), if_pos (by omega), Int.zero_add]
      exact this
    · have := prodT_zero (p := p) (l := l) e l.length hi
      have e4 := (Cg.refl p (if i < m then yAt l i else 0)).add this
      refine e4.trans ?_
      rw [Int.add_zero]
      by_cases h : i < m
      · rw [if_pos h, if_pos (by omega)]
        exact Cg.refl _ _
      · rw [if_neg h, if_neg (by omega)]
        exact Cg.refl _ _
theorem lineT_length (p : Int) (l : List (Int × Int)) : (lineT p l).length = l.length := foundT_length p l _
theorem lineT_rd {p : Int} (hp : 0 < p) (l : List (Int × Int)) : Rd p (lineT p l) := foundT_rd hp l _
theorem lineT_at {p : Int} (hpr : PR p) {l : List (Int × Int)} (hin : ∀ xy ∈ l, 0 ≤ xy.1 ∧ xy.1 < p ∧ 0 ≤ xy.2 ∧ xy.2 < p) (nd : (l.map (·.1)).Nodup) : ∀ xy ∈ l, hv p (lineT p l) xy.1 = xy.2 := fun xy m => by
  have hp := hpr.lt
  obtain ⟨i, hi, e⟩ := List.getElem_of_mem m
  have h := ev_foundT hpr hin nd hi l.length (Nat.le_refl _)
  rw [if_pos hi] at h
  have ex : xAt l i = xy.1 := by
    unfold xAt
    rw [List.getD_eq_getElem?_getD, List.getElem?_eq_getElem hi, e]
    rfl
  have ey : yAt l i = xy.2 := by
    unfold yAt
    rw [List.getD_eq_getElem?_getD, List.getElem?_eq_getElem hi, e]
    rfl
  rw [ex, ey] at h
  have b := hin xy m
  exact ((hv_ev p _ _).trans h).eq (hv_lt (by omega) _ _).1 (hv_lt (by omega) _ _).2 b.2.2.1 b.2.2.2
/-! the law's own choices -/
def choM (k : Nat) : Nat → List (List Nat)
  | 0 => [[]]
  | j + 1 => choM k j ++ ((choM k j).filter fun l => decide (l.length < k)).map fun l => l ++ [j]
theorem choM_length (k : Nat) : ∀ j, (choM k j).length ≤ 2 ^ j
  | 0 => Nat.le_refl _
  | j + 1 => by
    show (choM k j ++ ((choM k j).filter fun l => decide (l.length < k)).map fun l => l ++ [j]).length ≤ _
    rw [List.length_append, List.length_map, Nat.pow_succ]
    have := choM_length k j
    have h2 := List.length_filter_le (fun l : List Nat => decide (l.length < k)) (choM k j)
    omega
theorem choM_sound (k : Nat) : ∀ j l, l ∈ choM k j → l.Pairwise (· < ·) ∧ (∀ x ∈ l, x < j) ∧ l.length ≤ k
  | 0, l, m => by
    have e : l = [] := by simpa [choM] using m
    subst e
    exact ⟨.nil, fun x m => (by cases m), Nat.zero_le _⟩
  | j + 1, l, m => by
    have m' : l ∈ choM k j ++ ((choM k j).filter fun l => decide (l.length < k)).map fun l => l ++ [j] := m
    rcases List.mem_append.mp m' with m' | m'
    · have := choM_sound k j l m'
      exact ⟨this.1, fun x h => Nat.lt_succ_of_lt (this.2.1 x h), this.2.2⟩
    · obtain ⟨l0, m0, rfl⟩ := List.mem_map.mp m'
      obtain ⟨m1, m2⟩ := List.mem_filter.mp m0
      have := choM_sound k j l0 m1
      refine ⟨List.pairwise_append.mpr ⟨this.1, List.pairwise_singleton _ _, fun a ha b hb => ?_⟩, fun x h => ?_, ?_⟩
      · rw [List.mem_singleton.mp hb]
        exact this.2.1 a ha
      · rcases List.mem_append.mp h with h | h
        · exact Nat.lt_succ_of_lt (this.2.1 x h)
        · rw [List.mem_singleton.mp h]
          exact Nat.lt_succ_self _
      · rw [List.length_append]
        have := of_decide_eq_true m2
        exact this
theorem choM_all (k : Nat) : ∀ j l, l.Pairwise (· < ·) → (∀ x ∈ l, x < j) → l.length ≤ k → l ∈ choM k j
  | 0, l, _, h, _ => by
    cases l with
    | nil => simp [choM]
    | cons a r => exact absurd (h a (List.mem_cons_self ..)) (Nat.not_lt_zero _)
  | j + 1, l, hp, h, hk => by
    show l ∈ choM k j ++ ((choM k j).filter fun l => decide (l.length < k)).map fun l => l ++ [j]
    by_cases hj : j ∈ l
    · have hne : l ≠ [] := fun e => by rw [e] at hj; cases hj
      have e : l = l.dropLast ++ [l.getLast hne] := (List.dropLast_concat_getLast hne).symm
      rw [e] at hp
      have hp' := List.pairwise_append.mp hp
      have el : l.getLast hne = j := by
        rw [e] at hj
        rcases List.mem_append.mp hj with hj | hj
        · have h1 := hp'.2.2 j hj _ (List.mem_singleton.mpr rfl)
          have h2 := h _ (List.getLast_mem hne)
          omega
        · exact (List.mem_singleton.mp hj).symm
      rw [el] at e hp'
      have hl : l.length = l.dropLast.length + 1 := by
        rw [List.length_dropLast]
        have : 0 < l.length := List.length_pos_iff.mpr hne
        omega
      refine List.mem_append_right _ (List.mem_map.mpr ⟨l.dropLast, List.mem_filter.mpr ⟨choM_all k j _ hp'.1 (fun x m => hp'.2.2 x m j (List.mem_singleton.mpr rfl)) (by omega), decide_eq_true (by omega)⟩, e.symm⟩)
    · refine List.mem_append_left _ (choM_all k j l hp (fun x m => ?_) hk)
      have h1 := h x m
      have h2 : x ≠ j := fun e => hj (e ▸ m)
      omega
def choL (many k : Nat) : List (List Nat) := (choM k many).filter fun l => l.length == k
theorem mem_choL {many k : Nat} {l : List Nat} : l ∈ choL many k ↔ l.Pairwise (· < ·) ∧ (∀ x ∈ l, x < many) ∧ l.length = k := by
  unfold choL
  rw [List.mem_filter]
  constructor
  · rintro ⟨m, e⟩
    have := choM_sound k many l m
    exact ⟨this.1, this.2.1, eq_of_beq e⟩
  · rintro ⟨h1, h2, h3⟩
    exact ⟨choM_all k many l h1 h2 (by omega), by rw [h3]; exact beq_self_eq_true _⟩
theorem choL_length (many k : Nat) : (choL many k).length ≤ 2 ^ many := Nat.le_trans (List.length_filter_le _ _) (choM_length k many)
/-- the pairs with the chosen numbers -/
def pick (l : List (Int × Int)) (ch : List Nat) : List (Int × Int) := ch.map fun k => l.getD k (0, 0)
theorem pick_mem {l : List (Int × Int)} {ch : List Nat} (h : ∀ x ∈ ch, x < l.length) : ∀ xy ∈ pick l ch, xy ∈ l := fun xy m => by
  obtain ⟨k, mk, rfl⟩ := List.mem_map.mp m
  rw [List.getD_eq_getElem?_getD, List.getElem?_eq_getElem (h k mk)]
  exact List.getElem_mem _
theorem pick_nd {l : List (Int × Int)} (nd : (l.map (·.1)).Nodup) {ch : List Nat} (hp : ch.Pairwise (· < ·)) (h : ∀ x ∈ ch, x < l.length) : ((pick l ch).map (·.1)).Nodup := by
  unfold pick
  rw [List.map_map, List.nodup_iff_pairwise_ne, List.pairwise_map]
  refine List.Pairwise.imp_of_mem (fun {a b} ha hb hab => ?_) hp
  exact xAt_ne nd (h a ha) (h b hb) (by omega)
theorem filter_pick (P : Int × Int → Bool) (l : List (Int × Int)) : pick l ((List.range l.length).filter fun k => P (l.getD k (0, 0))) = l.filter P := by
  unfold pick
  have e : l = (List.range l.length).map fun k => l.getD k (0, 0) := by
    refine List.ext_getElem? fun i => ?_
    rw [List.getElem?_map]
    by_cases h : i < l.length
    · rw [List.getElem?_range h, List.getElem?_eq_getElem h]
      show _ = some (l.getD i (0, 0))
      rw [List.getD_eq_getElem?_getD, List.getElem?_eq_getElem h]
      rfl
    · rw [List.getElem?_eq_none (by omega), List.getElem?_eq_none (by simpa using Nat.le_of_not_lt h)]
      rfl
  conv => rhs; rw [e]
  rw [List.filter_map]
  rfl
theorem hits_trim {p : Int} (hp : 0 < p) (f : List Int) (l : List (Int × Int)) : hits p (trim f) l = hits p f l := by
  unfold hits
  congr 1
  funext xy
  rw [hv_trim hp]
/-- where some polynomial fits, some choice's line is it -/
theorem line_all {p : Int} {d e : Nat} {l : List (Int × Int)} (I : Inp p d e l) {f : List Int} (F : Fit p d e l f) : ∃ ch ∈ choL l.length (d + 1), trim (lineT p (pick l ch)) = f := by
  have hp := I.pr.lt
  let idx := (List.range l.length).filter fun k => (fun xy : Int × Int => hv p f xy.1 == xy.2) (l.getD k (0, 0))
  have hidx : pick l idx = hits p f l := filter_pick (fun xy : Int × Int => hv p f xy.1 == xy.2) l
  have hlen : idx.length = (hits p f l).length := by
    rw [← hidx]
    unfold pick
    rw [List.length_map]
  have hpw : idx.Pairwise (· < ·) := List.Pairwise.filter _ List.pairwise_lt_range
  have hlt : ∀ x ∈ idx, x < l.length := fun x m => List.mem_range.mp (List.mem_filter.mp m).1
  have hit := F.hit
  have many := I.many
  let ch := idx.take (d + 1)
  have cl : ch.length = d + 1 := by
    show (idx.take (d + 1)).length = d + 1
    rw [List.length_take]
    omega
  have cp : ch.Pairwise (· < ·) := hpw.sublist (List.take_sublist _ _)
  have cm : ∀ x ∈ ch, x < l.length := fun x m => hlt x (List.mem_of_mem_take m)
  refine ⟨ch, mem_choL.mpr ⟨cp, cm, cl⟩, ?_⟩
  have nd := pick_nd I.nd cp cm
  have hin : ∀ xy ∈ pick l ch, 0 ≤ xy.1 ∧ xy.1 < p ∧ 0 ≤ xy.2 ∧ xy.2 < p := fun xy m => I.inn xy (pick_mem cm xy m)
  have pl : (pick l ch).length = d + 1 := by
    unfold pick
    rw [List.length_map, cl]
  rw [← F.tr]
  refine same_poly I.pr (lineT_rd (by omega) _) F.rd (xs := (pick l ch).map (·.1)) (by rw [lineT_length, List.length_map]; omega) (by have := F.le; rw [List.length_map, pl]; exact this) nd (fun x m => ?_) fun x m => ?_
  · obtain ⟨xy, mm, rfl⟩ := List.mem_map.mp m
    have := hin xy mm
    exact ⟨this.1, this.2.1⟩
  · obtain ⟨xy, mm, rfl⟩ := List.mem_map.mp m
    rw [lineT_at I.pr hin nd xy mm]
    obtain ⟨k, mk, rfl⟩ := List.mem_map.mp mm
    have m1 := (List.mem_filter.mp (List.mem_of_mem_take mk)).2
    exact (eq_of_beq m1).symm
theorem line_fit {p : Int} {d e : Nat} {l : List (Int × Int)} (I : Inp p d e l) {ch : List Nat} (h : ch ∈ choL l.length (d + 1)) (hh : l.length ≤ (hits p (lineT p (pick l ch)) l).length + e) : Fit p d e l (trim (lineT p (pick l ch))) := by
  have hp := I.pr.lt
  obtain ⟨h1, h2, h3⟩ := mem_choL.mp h
  refine ⟨trim_trim _, fun c m => lineT_rd (by omega) _ c (mem_trim m), ?_, ?_⟩
  · refine Nat.le_trans (trim_length _) ?_
    rw [lineT_length]
    unfold pick
    rw [List.length_map]
    omega
  · rw [hits_trim (by omega)]
    exact hh
theorem dec_none {p : Int} {d e : Nat} {l : List (Int × Int)} (I : Inp p d e l) (h : ∀ ch ∈ choL l.length (d + 1), (hits p (lineT p (pick l ch)) l).length + e < l.length) : DecOk p d e l none := fun f F => by
  have hp := I.pr.lt
  obtain ⟨ch, m, t⟩ := line_all I F
  have h1 := h ch m
  have h2 := F.hit
  rw [← t, hits_trim (by omega)] at h2
  omega
end M
namespace M
theorem incr_length {n : Nat} : ∀ (l : List Nat) (a : Nat), l.Pairwise (· < ·) → (∀ x ∈ l, a ≤ x ∧ x < n) → l.length ≤ n - a
  | [], _, _, _ => Nat.zero_le _
  | b :: r, a, h, hb => by
    have h' := List.pairwise_cons.mp h
    have ih := incr_length r (b + 1) h'.2 fun x m => ⟨h'.1 x m, (hb x (List.mem_cons_of_mem _ m)).2⟩
    have h2 := hb b (List.mem_cons_self ..)
    show r.length + 1 ≤ n - a
    omega
end M
namespace M
/-! sums -/
def sm (n : Nat) (g : Nat → Int) : Int := match n with
  | 0 => 0
  | n + 1 => sm n g + g n
theorem sm_congr {n : Nat} {g h : Nat → Int} (e : ∀ k, k < n → g k = h k) : sm n g = sm n h := by
  induction n with
  | zero => rfl
  | succ n ih =>
    show sm n g + g n = sm n h + h n
    rw [ih (fun k hk => e k (by omega)), e n (by omega)]
theorem sm_add (n : Nat) (g h : Nat → Int) : sm n (fun k => g k + h k) = sm n g + sm n h := by
  induction n with
  | zero => rfl
  | succ n ih =>
    show sm n (fun k => g k + h k) + (g n + h n) = (sm n g + g n) + (sm n h + h n)
    rw [ih]
    omega
theorem sm_mul (n : Nat) (g : Nat → Int) (c : Int) : sm n (fun k => g k * c) = sm n g * c := by
  induction n with
  | zero => exact (Int.zero_mul c).symm
  | succ n ih =>
    show sm n (fun k => g k * c) + g n * c = (sm n g + g n) * c
    rw [ih, Int.add_mul]
theorem sm_zero (n : Nat) : sm n (fun _ => 0) = 0 := by
  induction n with
  | zero => rfl
  | succ n ih =>
    show sm n (fun _ => 0) + 0 = 0
    rw [ih]
    rfl
theorem sm_swap (n m : Nat) (g : Nat → Nat → Int) : sm n (fun a => sm m (fun b => g a b)) = sm m (fun b => sm n (fun a => g a b)) := by
  induction n with
  | zero => exact (sm_zero m).symm
  | succ n ih =>
    show sm n (fun a => sm m (fun b => g a b)) + sm m (fun b => g n b) = sm m (fun b => sm n (fun a => g a b) + g n b)
    rw [ih, sm_add]
theorem sm_cg {p : Int} (n : Nat) {g h : Nat → Int} (e : ∀ k, k < n → Cg p (g k) (h k)) : Cg p (sm n g) (sm n h) := by
  induction n with
  | zero => exact Cg.refl _ _
  | succ n ih => exact (ih fun k hk => e k (by omega)).add (e n (by omega))
theorem ev_snoc : ∀ (l : List Int) (c x : Int), ev (l ++ [c]) x = ev l x + c * x ^ l.length
  | [], c, x => by
    show (0 : Int) * x + c = 0 + c * x ^ 0
    grind
  | a :: r, c, x => by
    show ev (r ++ [c]) x * x + a = ev r x * x + a + c * x ^ (r.length + 1)
    rw [ev_snoc r c x]
    grind
theorem ev_range (n : Nat) (g : Nat → Int) (x : Int) : ev ((List.range n).map g) x = sm n fun k => g k * x ^ k := by
  induction n with
  | zero => rfl
  | succ n ih =>
    rw [List.range_succ, List.map_append]
    show ev ((List.range n).map g ++ [g n]) x = sm n (fun k => g k * x ^ k) + g n * x ^ n
    rw [ev_snoc, ih, List.length_map, List.length_range]
theorem hv_cg {p : Int} {l l' : List Int} {x : Int} (hp : 0 < p) (h : Cg p (ev l x) (ev l' x)) : hv p l x = hv p l' x := hv_eq hp h
/-! symmetric tables -/
/-- where row j of the numbers on and above the diagonal begins -/
def offs (t : Nat) : Nat → Nat
  | 0 => 0
  | j + 1 => offs t j + (t + 1 - j)
/-- the coefficient at j, k -/
def tb (t : Nat) (tape : List Int) (base j k : Nat) : Int := tape.getD (base + offs t (min j k) + (max j k - min j k)) 0
theorem tb_comm (t : Nat) (tape : List Int) (base j k : Nat) : tb t tape base j k = tb t tape base k j := by
  unfold tb
  rw [Nat.min_comm, Nat.max_comm]
/-- a square table of a function -/
def tab (n : Nat) (g : Nat → Nat → Int) : List (List Int) := (List.range n).map fun j => (List.range n).map fun k => g j k
theorem tab_length (n : Nat) (g : Nat → Nat → Int) : (tab n g).length = n := by simp [tab]
theorem tab_get {n : Nat} (g : Nat → Nat → Int) {j : Nat} (h : j < n) : (tab n g)[j]? = some ((List.range n).map fun k => g j k) := by
  unfold tab
  rw [List.getElem?_map, List.getElem?_range h]
  rfl
theorem tab_congr {n : Nat} {g h : Nat → Nat → Int} (e : ∀ j k, j < n → k < n → g j k = h j k) : tab n g = tab n h := by
  unfold tab
  refine List.map_congr_left fun j hj => List.map_congr_left fun k hk => e j k (List.mem_range.mp hj) (List.mem_range.mp hk)
theorem tab_set {n : Nat} (g : Nat → Nat → Int) {j k : Nat} (hj : j < n) (hk : k < n) (v : Int) : (tab n g).set j (((List.range n).map fun y => g j y).set k v) = tab n fun x y => if x = j ∧ y = k then v else g x y := by
  refine List.ext_getElem? fun i => ?_
  rw [List.getElem?_set]
  by_cases e : j = i
  · subst e
    rw [if_pos rfl, if_pos (by rw [tab_length]; exact hj), tab_get _ hj]
    refine congrArg some (List.ext_getElem? fun u => ?_)
    rw [List.getElem?_set]
    by_cases e2 : k = u
    · subst e2
      rw [if_pos rfl, if_pos (by simpa using hk), List.getElem?_map, List.getElem?_range hk]
      show _ = some (if j = j ∧ k = k then v else g j k)
      rw [if_pos ⟨rfl, rfl⟩]
    · rw [if_neg e2, List.getElem?_map, List.getElem?_map]
      by_cases hu : u < n
      · rw [List.getElem?_range hu]
        show some (g j u) = some (if j = j ∧ u = k then v else g j u)
        rw [if_neg (fun z => e2 z.2.symm)]
      · rw [List.getElem?_eq_none (by simpa using Nat.le_of_not_lt hu)]
        rfl
  · rw [if_neg e]
    by_cases hi : i < n
    · rw [tab_get _ hi, tab_get _ hi]
      refine congrArg some (List.map_congr_left fun u _ => ?_)
      rw [if_neg (fun z => e z.1.symm)]
    · rw [List.getElem?_eq_none (by rw [tab_length]; omega), List.getElem?_eq_none (by rw [tab_length]; omega)]
/-- what the reading has set: all above row j, and of row j what is ahead of k -/
def seen (j k u v : Nat) : Prop := u < j ∨ (u = j ∧ v < k)
instance (j k u v : Nat) : Decidable (seen j k u v) := by unfold seen; infer_instance
def part (t : Nat) (tape : List Int) (base j k : Nat) (x y : Nat) : Int := if seen j k (min x y) (max x y) then tb t tape base x y else 0
theorem part_start (t : Nat) (tape : List Int) (base : Nat) : tab (t + 1) (part t tape base 0 0) = tab (t + 1) fun _ _ => 0 := tab_congr fun x y _ _ => if_neg (by unfold seen; omega)
theorem part_row (t : Nat) (tape : List Int) (base j : Nat) : tab (t + 1) (part t tape base j j) = tab (t + 1) (part t tape base j 0) := tab_congr fun x y _ _ => by
  unfold part
  by_cases h : seen j 0 (min x y) (max x y)
  · rw [if_pos h, if_pos (by unfold seen at h ⊢; omega)]
  · rw [if_neg h, if_neg (by unfold seen at h ⊢; omega)]
theorem part_next (t : Nat) (tape : List Int) (base j : Nat) : tab (t + 1) (part t tape base j (t + 1)) = tab (t + 1) (part t tape base (j + 1) (j + 1)) := tab_congr fun x y hx hy => by
  unfold part
  by_cases h : seen j (t + 1) (min x y) (max x y)
  · rw [if_pos h, if_pos (by unfold seen at h ⊢; omega)]
  · rw [if_neg h, if_neg (by unfold seen at h ⊢; omega)]
theorem part_done (t : Nat) (tape : List Int) (base : Nat) : tab (t + 1) (part t tape base (t + 1) (t + 1)) = tab (t + 1) (tb t tape base) := tab_congr fun x y hx hy => if_pos (by unfold seen; omega)
theorem part_step (t : Nat) (tape : List Int) (base j k : Nat) (hjk : j ≤ k) : tab (t + 1) (part t tape base j (k + 1)) = tab (t + 1) fun x y => if x = k ∧ y = j then tb t tape base j k else if x = j ∧ y = k then tb t tape base j k else part t tape base j k x y := tab_congr fun x y _ _ => by
  unfold part
  by_cases h1 : x = k ∧ y = j
  · obtain ⟨rfl, rfl⟩ := h1
    rw [if_pos (show x = x ∧ y = y from ⟨rfl, rfl⟩), if_pos (by unfold seen; omega), tb_comm]
  · rw [if_neg h1]
    by_cases h2 : x = j ∧ y = k
    · obtain ⟨rfl, rfl⟩ := h2
      rw [if_pos (show x = x ∧ y = y from ⟨rfl, rfl⟩), if_pos (by unfold seen; omega)]
    · rw [if_neg h2]
      by_cases h : seen j k (min x y) (max x y)
      · rw [if_pos h, if_pos (by unfold seen at h ⊢; omega)]
      · rw [if_neg h, if_neg (by unfold seen at h ⊢; omega)]
/-- a polynomial in two variables, unreduced -/
def ev2 (n : Nat) (g : Nat → Nat → Int) (x y : Int) : Int := sm n fun a => sm n fun b => g a b * x ^ a * y ^ b
theorem ev2_comm {n : Nat} {g : Nat → Nat → Int} (h : ∀ a b, g a b = g b a) (x y : Int) : ev2 n g x y = ev2 n g y x := by
  unfold ev2
  rw [sm_swap]
  exact sm_congr fun b _ => sm_congr fun a _ => by rw [h a b]; grind
/-- the row for i -/
def rowL (p : Int) (n : Nat) (g : Nat → Nat → Int) (i : Int) : List Int := (List.range n).map fun k => hv p ((List.range n).map fun j => g j k) i
theorem hv_rowL {p : Int} (hp : 0 < p) (n : Nat) (g : Nat → Nat → Int) (i y : Int) : hv p (rowL p n g i) y = ev2 n g i y % p := by
  have e1 : Cg p (hv p (rowL p n g i) y) (ev2 n g i y) := by
    refine (hv_ev p _ y).trans ?_
    unfold rowL
    rw [ev_range]
    unfold ev2
    rw [sm_swap]
    refine sm_cg n fun k _ => ?_
    have e2 : Cg p (hv p ((List.range n).map fun j => g j k) i) (sm n fun j => g j k * i ^ j) := (hv_ev p _ i).trans (by rw [ev_range]; exact Cg.refl _ _)
    have e3 := e2.mul (Cg.refl p (y ^ k))
    rw [← sm_mul] at e3
    exact e3
  have b := hv_lt hp (rowL p n g i) y
  rw [← e1.emod, Int.emod_eq_of_lt b.1 b.2]
theorem rowL_rd {p : Int} (hp : 0 < p) (n : Nat) (g : Nat → Nat → Int) (i : Int) : Rd p (rowL p n g i) := fun c m => by
  obtain ⟨k, _, rfl⟩ := List.mem_map.mp m
  exact hv_lt hp _ _
theorem rowL_length (p : Int) (n : Nat) (g : Nat → Nat → Int) (i : Int) : (rowL p n g i).length = n := by simp [rowL]
/-- the law's sum -/
theorem sum_cg {p : Int} (n : Nat) (g : Nat → Nat → Int) (x y : Int) : Cg p (sm n fun a => sm n fun b => g a b * (x ^ a % p) * (y ^ b % p)) (ev2 n g x y) :=
  sm_cg n fun a _ => sm_cg n fun b _ => ((Cg.refl p (g a b)).mul (Cg.mod p (x ^ a))).mul (Cg.mod p (y ^ b))
end M
namespace K1
open PySem PySem.Spec PyProof.Rows L2 Z
/-- a tuple, a list of ints -/
abbrev IsT (K : PySem.W.Frag) (H : Hp) (a : Addr) (ns : List Int) : Prop := SqT K H a (ns.map V.int)
abbrev IsL (K : PySem.W.Frag) (H : Hp) (a : Addr) (ns : List Int) : Prop := SqL K H a (ns.map V.int)
/-- a sequence of refs whose items are told -/
theorem pr_at {K : PySem.W.Frag} {H : Hp} {as : List Addr} {l : List (Int × Int)} (h : Paired (fun a xy => SqT K H a [.int xy.1, .int xy.2]) as l) {k : Nat} (hk : k < l.length) : ∃ a, as[k]? = some a ∧ SqT K H a [.int (M.xAt l k), .int (M.yAt l k)] := by
  have e := Paired.length h
  have ha : as[k]? = some (as[k]'(by omega)) := List.getElem?_eq_getElem (by omega)
  obtain ⟨xy, e1, e2⟩ := paired_get h ha
  refine ⟨_, ha, ?_⟩
  have e3 : l.getD k (0, 0) = xy := by rw [List.getD_eq_getElem?_getD, e1]; rfl
  unfold M.xAt M.yAt
  rw [e3]
  exact e2
theorem at_ref {as : List Addr} {i : Int} {k : Nat} {a : Addr} (h : as[k]? = some a) (e : i = k) : atI (as.map V.ref) i = some (.ref a) := at_of e (by rw [List.getElem?_map, h]; rfl)
theorem at_intI {ns : List Int} {i : Int} {k : Nat} (h : k < ns.length) (e : i = k) : atI (ns.map V.int) i = some (.int (ns.getD k 0)) := at_of e (at_int h)
/-! cells: objects that are told one by one -/
abbrev Cl {β : Type} (enc : β → HO) (H : Hp) (a : Addr) (x : β) : Prop := H a = some (enc x)
section
variable {β : Type} {enc : β → HO}
theorem cells_but {H H' : Hp} {c : Addr} : ∀ {ras : List Addr} {l : List β}, Paired (Cl enc H) ras l → But c H H' → c ∉ ras → Paired (Cl enc H') ras l
  | _, _, .nil, _, _ => .nil
  | _, _, .cons h t, bt, hn => .cons (bt _ _ (fun z => hn (by rw [z]; exact List.mem_cons_self ..)) h) (cells_but t bt fun m => hn (List.mem_cons_of_mem _ m))
theorem cells_same {H H' : Hp} {ras : List Addr} {l : List β} (h : Paired (Cl enc H) ras l) (s : Same H H') : Paired (Cl enc H') ras l := L2.Paired.mapP h fun a xy h => s _ _ h
theorem cells_set {H H' : Hp} {a : Addr} {y : β} : ∀ {ras : List Addr} {l : List β} {i : Nat}, Paired (Cl enc H) ras l → ras.Nodup → ras[i]? = some a → But a H H' → Cl enc H' a y → Paired (Cl enc H') ras (l.set i y)
  | _, _, _, .nil, _, e, _, _ => by simp at e
  | b :: ras, z :: l, 0, .cons h t, nd, e, bt, ha => by
    have e' : b = a := by simpa using e
    subst e'
    have nd' := List.nodup_cons.mp nd
    exact .cons ha (cells_but t bt nd'.1)
  | b :: ras, z :: l, i + 1, .cons h t, nd, e, bt, ha => by
    have nd' := List.nodup_cons.mp nd
    have e' : ras[i]? = some a := by simpa using e
    have hb : b ≠ a := fun z => nd'.1 (by rw [z]; exact List.mem_of_getElem? e')
    exact .cons (bt _ _ hb h) (cells_set t nd'.2 e' bt ha)
theorem cells_get {H : Hp} {ras : List Addr} {l : List β} (h : Paired (Cl enc H) ras l) {i : Nat} {y : β} (e : l[i]? = some y) : ∃ a, ras[i]? = some a ∧ Cl enc H a y := by
  have hl := Paired.length h
  have hi := (List.getElem?_eq_some_iff.mp e).1
  have ea : ras[i]? = some (ras[i]'(by omega)) := List.getElem?_eq_getElem (by omega)
  obtain ⟨b, e1, e2⟩ := paired_get h ea
  rw [e] at e1
  cases e1
  exact ⟨_, ea, e2⟩
theorem cells_free {H : Hp} {ras : List Addr} {l : List β} (h : Paired (Cl enc H) ras l) {c : Addr} (n : H c = none) : c ∉ ras := fun m => by
  obtain ⟨j, hj, ej⟩ := List.getElem_of_mem m
  obtain ⟨_, _, h2⟩ := paired_get h (show ras[j]? = some c by rw [List.getElem?_eq_getElem hj, ej])
  rw [show H c = _ from h2] at n
  cases n
end
/-! a list of lists of ints, a tuple of tuples of ints -/
abbrev encL (r : List Int) : HO := .lst (r.map V.int)
def IsTab (H : Hp) (a : Addr) (f : List (List Int)) : Prop := ∃ ras : List Addr, H a = some (.lst (ras.map V.ref)) ∧ Paired (Cl encL H) ras f
def IsTT (K : PySem.W.Frag) (H : Hp) (a : Addr) (f : List (List Int)) : Prop := ∃ as : List Addr, SqT K H a (as.map V.ref) ∧ Paired (IsT K H) as f
theorem IsTab.same {H H' : Hp} {a : Addr} {f : List (List Int)} (h : IsTab H a f) (s : Same H H') : IsTab H' a f := by
  obtain ⟨ras, e, p⟩ := h
  exact ⟨ras, s _ _ e, cells_same p s⟩
theorem IsTT.same {K : PySem.W.Frag} {H H' : Hp} {a : Addr} {f : List (List Int)} (h : IsTT K H a f) (s : Same H H') : IsTT K H' a f := by
  obtain ⟨as, e, p⟩ := h
  exact ⟨as, sqt_same s e, L2.Paired.mapP p fun a r h => sqt_same s h⟩
theorem some_getD {α : Type} {l : List α} {k : Nat} {d : α} (h : k < l.length) : l[k]? = some (l.getD k d) := by
  rw [List.getD_eq_getElem?_getD, List.getElem?_eq_getElem h]
  rfl
theorem take_get {α : Type} {l : List α} {i : Nat} {x : α} (e : l[i]? = some x) : l.take (i + 1) = l.take i ++ [x] := by
  obtain ⟨h, e1⟩ := List.getElem?_eq_some_iff.mp e
  rw [List.take_succ_eq_append_getElem h, e1]
theorem pr_item2 {β : Type} {G : Addr → β → Prop} {as : List Addr} {l : List β} (h : Paired G as l) {i : Nat} {x : V} (e : (as.map V.ref)[i]? = some x) : ∃ a b, x = .ref a ∧ as[i]? = some a ∧ l[i]? = some b ∧ G a b := by
  rw [List.getElem?_map] at e
  cases ea : as[i]? with
  | none =>
    rw [ea] at e
    cases e
  | some a =>
    rw [ea] at e
    obtain ⟨b, e1, e2⟩ := paired_get h ea
    exact ⟨a, b, (Option.some.inj e).symm, rfl, e1, e2⟩
theorem pr_get {β : Type} {G : Addr → β → Prop} {as : List Addr} {l : List β} (h : Paired G as l) {i : Nat} {b : β} (e : l[i]? = some b) : ∃ a, as[i]? = some a ∧ G a b := by
  have hl := Paired.length h
  have hi := (List.getElem?_eq_some_iff.mp e).1
  have ea : as[i]? = some (as[i]'(by omega)) := List.getElem?_eq_getElem (by omega)
  obtain ⟨b', e1, e2⟩ := paired_get h ea
  rw [e] at e1
  cases e1
  exact ⟨_, ea, e2⟩
theorem paired_app {α β : Type} {F : α → β → Prop} : ∀ {l : List α} {l' : List β} {m : List α} {m' : List β}, PySem.Paired F l l' → PySem.Paired F m m' → PySem.Paired F (l ++ m) (l' ++ m')
  | _, _, _, _, .nil, h => h
  | _, _, _, _, .cons r t, h => .cons r (paired_app t h)
/-- as data -/
def tt (f : List (List Int)) : PyData := .tuple (f.map fun r => .tuple (r.map .int))
theorem dp_tts {K : PySem.W.Frag} {H : Hp} : ∀ {as : List Addr} {f : List (List Int)}, Paired (IsT K H) as f → DpAll K H (as.map V.ref) (f.map fun r => .tuple (r.map .int))
  | _, _, .nil => .nil
  | _, _, .cons h t => .cons (dp_t h) (dp_tts t)
theorem dp_tt {K : PySem.W.Frag} {H : Hp} {a : Addr} {f : List (List Int)} (h : IsTT K H a f) : Dp K H (.ref a) (tt f) := by
  obtain ⟨as, e, p⟩ := h
  exact .tup e (dp_tts p)
theorem canLay_tts : ∀ f : List (List Int), PyData.canLayAll0 (f.map fun r => PyData.tuple (r.map .int)) = true
  | [] => rfl
  | r :: f => by simp [PyData.canLayAll0, PyData.canLay0, Z.canLayAll_ints, canLay_tts f]
theorem depth_tts : ∀ f : List (List Int), PyData.depthAll (f.map fun r => PyData.tuple (r.map .int)) ≤ 1
  | [] => Nat.zero_le _
  | r :: f => by
    have h := depth_tts f
    simp [PyData.depthAll, PyData.depth, Z.depthAll_ints]
    omega
theorem shaped_tt (f : List (List Int)) : SeqAt.shaped (tt f) = true := by
  have h := depth_tts f
  unfold SeqAt.shaped tt
  rw [Bool.and_eq_true, decide_eq_true_eq]
  refine ⟨by simpa [PyData.canLay0] using canLay_tts f, ?_⟩
  rw [PyData.depth]
  omega
end K1
namespace M
/-! setups, addresses, scripts -/
structure SetOk (p n t m : Int) : Prop where
  pr : PR p
  t0 : 0 ≤ t
  t2 : t ≤ 2
  nt : 3 * t + 1 ≤ n
  n7 : n ≤ 7
  m1 : 1 ≤ m
  m6 : m ≤ 6
def Pty (n i : Int) : Prop := 1 ≤ i ∧ i ≤ n
def Idx (m a : Int) : Prop := 0 ≤ a ∧ a < m
/-- an address of the round and the sender -/
inductive AddrAt (n t m : Int) : Int → Int → List Int → Prop
  | r1 {i j a u : Int} : Pty n i → Pty n j → j ≠ i → Idx m a → Idx (t + 1) u → AddrAt n t m 1 i [1, i, j, a, u]
  | r2 {j k i a : Int} : Pty n j → Pty n k → k ≠ j → Pty n i → Idx m a → AddrAt n t m 2 j [2, j, k, i, a]
  | r3 {j i k : Int} : Pty n j → Pty n i → Pty n k → k ≠ j → AddrAt n t m 3 j [3, j, 0, i, k]
  | r4 {i j k a : Int} : Pty n i → Pty n j → Pty n k → k ≠ j → Idx m a → AddrAt n t m 4 i [4, i, 0, j, k, a]
  | r5 {j i : Int} : Pty n j → Pty n i → AddrAt n t m 5 j [5, j, 0, i]
  | r6 {i j a u : Int} : Pty n i → Pty n j → Idx m a → Idx (t + 1) u → AddrAt n t m 6 i [6, i, 0, j, a, u]
  | r7 {j i : Int} : Pty n j → Pty n i → AddrAt n t m 7 j [7, j, 0, i]
  | r8 {j a : Int} : Pty n j → Idx m a → AddrAt n t m 8 j [8, j, 0, a]
inductive Chg
  | is (v : Int)
  | add (v : Int)
  | drop
  | copy (x : List Int)
structure Scr where
  foes : List Int
  rules : List (List Int × Chg)
def ChgOk (p n t m : Int) : Chg → Prop
  | .is v => 0 ≤ v ∧ v < p
  | .add v => 0 ≤ v ∧ v < p
  | .drop => True
  | .copy x => ∃ s i, AddrAt n t m s i x
structure ScrOk (p n t m : Int) (s : Scr) : Prop where
  asc : s.foes.Pairwise (· < ·)
  pty : ∀ i ∈ s.foes, Pty n i
  few : (s.foes.length : Int) ≤ t
  len : s.rules.length ≤ 40
  rule : ∀ r ∈ s.rules, (∃ st i, AddrAt n t m st i r.1 ∧ i ∈ s.foes) ∧ ChgOk p n t m r.2
theorem other_ne {n s d : Int} (h2 : 2 ≤ n) (h7 : n ≤ 7) (s1 : 1 ≤ s) (s2 : s ≤ n) (d0 : 0 ≤ d) (d1 : d < n - 1) : Pty n ((s + d) % n + 1) ∧ (s + d) % n + 1 ≠ s := by
  unfold Pty
  rcases (show n = 2 ∨ n = 3 ∨ n = 4 ∨ n = 5 ∨ n = 6 ∨ n = 7 by omega) with rfl | rfl | rfl | rfl | rfl | rfl <;> omega
theorem strict_of_le {l : List Int} (h : l.Pairwise (· ≤ ·)) (nd : l.Nodup) : l.Pairwise (· < ·) := by
  rw [List.nodup_iff_pairwise_ne] at nd
  exact (List.Pairwise.and h nd).imp fun ⟨a, b⟩ => by omega
end M
namespace K1
open PySem PySem.Spec PyProof.Rows L2 Z
def IsChg (K : PySem.W.Frag) (H : Hp) (b : Addr) : M.Chg → Prop
  | .is v => SqT K H b [.str "is", .int v]
  | .add v => SqT K H b [.str "add", .int v]
  | .drop => SqT K H b [.str "drop"]
  | .copy x => ∃ a, SqT K H b [.str "copy", .ref a] ∧ IsT K H a x
def IsRule (K : PySem.W.Frag) (H : Hp) (r : Addr) (x : List Int × M.Chg) : Prop := ∃ a b, SqT K H r [.ref a, .ref b] ∧ IsT K H a x.1 ∧ IsChg K H b x.2
def IsScr (K : PySem.W.Frag) (H : Hp) (v : Addr) (s : M.Scr) : Prop := ∃ f rs as, SqT K H v [.ref f, .ref rs] ∧ IsT K H f s.foes ∧ SqT K H rs (as.map V.ref) ∧ Paired (IsRule K H) as s.rules
/-- tuples stay -/
def TK (K : PySem.W.Frag) (H H' : Hp) : Prop := ∀ a xs, SqT K H a xs → SqT K H' a xs
theorem TK.refl (K : PySem.W.Frag) (H : Hp) : TK K H H := fun _ _ h => h
theorem TK.trans {K : PySem.W.Frag} {H H1 H2 : Hp} (a : TK K H H1) (b : TK K H1 H2) : TK K H H2 := fun x xs h => b x xs (a x xs h)
theorem TK.same {K : PySem.W.Frag} {H H' : Hp} (s : Same H H') : TK K H H' := fun _ _ h => sqt_same s h
theorem TK.but {K : PySem.W.Frag} {H H' : Hp} {c : Addr} {ys : List V} (b : But c H H') (hc : H c = some (.lst ys)) : TK K H H' := fun _ _ h => sqt_but b hc h
theorem IsChg.tk {K : PySem.W.Frag} {H H' : Hp} {b : Addr} {c : M.Chg} (h : IsChg K H b c) (k : TK K H H') : IsChg K H' b c := by
  cases c with
  | is v => exact k _ _ h
  | add v => exact k _ _ h
  | drop => exact k _ _ h
  | copy x =>
    obtain ⟨a, h1, h2⟩ := h
    exact ⟨a, k _ _ h1, k _ _ h2⟩
theorem IsRule.tk {K : PySem.W.Frag} {H H' : Hp} {r : Addr} {x : List Int × M.Chg} (h : IsRule K H r x) (k : TK K H H') : IsRule K H' r x := by
  obtain ⟨a, b, h1, h2, h3⟩ := h
  exact ⟨a, b, k _ _ h1, k _ _ h2, h3.tk k⟩
theorem IsScr.tk {K : PySem.W.Frag} {H H' : Hp} {v : Addr} {s : M.Scr} (h : IsScr K H v s) (k : TK K H H') : IsScr K H' v s := by
  obtain ⟨f, rs, as, h1, h2, h3, h4⟩ := h
  exact ⟨f, rs, as, k _ _ h1, k _ _ h2, k _ _ h3, L2.Paired.mapP h4 fun a x h => h.tk k⟩
theorem IsTT.tk {K : PySem.W.Frag} {H H' : Hp} {a : Addr} {f : List (List Int)} (h : IsTT K H a f) (k : TK K H H') : IsTT K H' a f := by
  obtain ⟨as, e, p⟩ := h
  exact ⟨as, k _ _ e, L2.Paired.mapP p fun a r h => k _ _ h⟩
end K1
namespace Z
open PySem PySem.Spec PyProof.Rows L2 HT
section
variable {prog : Program} {w : World} {A : Around} {E : Value → Shared → Prop} {s : Shared}
theorem adjust_rev (n : Nat) : Builtin.Slice.sliceAdjust none none (-1) (n : Int) = ((n : Int) - 1, -1) := by
  simp [Builtin.Slice.sliceAdjust]
theorem places_rev (n : Nat) : Builtin.Slice.slicePlaces ((n : Int) - 1) (-1) (-1) = n := by
  simp [Builtin.Slice.slicePlaces]
  omega
theorem sliceApplied_rev {sl : Addr} {vs : Value} {n : Nat} {Q : Int × Int × Nat → Shared → Prop} (hs : s.heap.IsSliceOf sl .none .none vs) (ps : PySem.IsPart vs (some (-1)))
    (h : Q ((n : Int) - 1, -1, n) s) : wpAny (model prog w) A (Builtin.Slice.sliceApplied (.ref sl) (pure (n : Int))) Q E s := by
  obtain ⟨os, hos, hcs, hds⟩ := id hs
  unfold Builtin.Slice.sliceApplied Builtin.Slice.sliceFields
  refine wpAny_bind (wpAny_bind (wpAny_field hos hds (x := .none) rfl (wpAny_bind (wpAny_field hos hds (x := .none) rfl (wpAny_bind (wpAny_field hos hds (x := vs) rfl (wpAny_pure ?_)))))))
  refine wpAny_bind (slicePart_ ps ?_)
  show wpAny _ _ (if ((-1 : Int) == 0) = true then _ else _) _ _ s
  rw [if_neg (by decide)]
  refine wpAny_bind (slicePart_ .none (wpAny_bind (slicePart_ .none (wpAny_bind (wpAny_pure ?_)))))
  show wpAny _ _ (match Builtin.Slice.sliceAdjust none none (-1) (n : Int) with | (lo, hi) => pure (lo, (-1 : Int), Builtin.Slice.slicePlaces lo hi (-1))) _ _ s
  rw [adjust_rev]
  show wpAny _ _ (pure ((n : Int) - 1, (-1 : Int), Builtin.Slice.slicePlaces ((n : Int) - 1) (-1) (-1))) _ _ s
  rw [places_rev]
  exact wpAny_pure h
theorem filterMap_congr' {α β : Type} {l : List α} {f g : α → Option β} (h : ∀ a ∈ l, f a = g a) : l.filterMap f = l.filterMap g := by
  induction l with
  | nil => rfl
  | cons a r ih => rw [List.filterMap_cons, List.filterMap_cons, h a (List.mem_cons_self ..), ih fun b m => h b (List.mem_cons_of_mem _ m)]
theorem pick_rev (xs : Array Value) : ((List.range xs.size).filterMap fun (m : Nat) => xs[(((xs.size : Int) - 1) + (m : Int) * (-1)).toNat]?).toArray = xs.toList.reverse.toArray := by
  have h := PySem.W.krv_pick xs
  unfold slicePick at h
  rw [PySem.W.krv_bounds] at h
  have h2 : ((sliceRange ((xs.size : Int) - 1) (-1) (-1)).filterMap (xs[·]?)).toArray = xs.toList.reverse.toArray := h
  rw [PySem.W.krv_sliceRange, List.filterMap_map] at h2
  rw [← h2]
  congr 1
  refine filterMap_congr' fun m hm => ?_
  have := List.mem_range.mp hm
  show xs[(((xs.size : Int) - 1) + (m : Int) * (-1)).toNat]? = xs[xs.size - 1 - m]?
  congr 1
  omega
theorem getItem_tuple_rev {t sl : Addr} {items : Array Value} {vs : Value} {Q : Value → Shared → Prop} (ht : IsTup s.heap t items) (hs : s.heap.IsSliceOf sl .none .none vs) (ps : PySem.IsPart vs (some (-1)))
    (h : Q (.ref s.heap.objs.size) { s with heap := s.heap.push { cls := .type "tuple", data := .seq items.toList.reverse.toArray } })
    (hsz : items.size ≤ sizeLine) : wpAny (model prog w) A (getItem (.ref t) (.ref sl)) Q E s := by
  have htake : sizeOk (.seq items.toList.reverse.toArray) := by
    show items.toList.reverse.toArray.size ≤ sizeLine
    rw [List.size_toArray, List.length_reverse, Array.length_toList]
    exact hsz
  obtain ⟨os, hos, hcs, hds⟩ := id hs
  have hTs : s.TypeIs (.ref sl) "slice" := ⟨os, hos, hcs⟩
  unfold getItem
  try with_reducible refine wpAny_holding ?_
  first | refine wpAny_bind (wpAny_pure ?_) | skip
  refine wpAny_bind (wpAny_sequenceKey ht.typeIs (by decide) ?_)
  refine wpAny_bind (wpAny_callSpecial?_slot (name := Str.ofString "__getitem__") ht.typeIs PyProof.Rows.slot_tuple_getitem
    (wpAny_call_entry PyProof.Rows.slot_tuple_getitem ht.typeIs entry_tuple_getitem ?_ (args_tuple_getitem _ _)))
  show wpAny _ _ (Builtin.Tuple.tupleItemsOf (.ref t) >>= _) _ _ s
  refine wpAny_bind (tupleItemsOf_ ht ?_)
  refine wpAny_bind (wpAny_typeOf hTs ?_)
  rw [if_pos (by decide)]
  refine wpAny_bind (sliceApplied_rev hs ps ?_)
  have hno : ¬ ((((items.size : Int) - 1) == 0 && (-1 : Int) == 1 && items.size == items.size) = true) := by
    intro q
    rw [Bool.and_eq_true, Bool.and_eq_true] at q
    exact absurd q.1.2 (by decide)
  show wpAny _ _ (if (((items.size : Int) - 1) == 0 && (-1 : Int) == 1 && items.size == items.size) = true then _ else _) _ _ s
  rw [if_neg hno, pick_rev]
  first
    | exact wpAny_bind (m := Builtin.Tuple.tupleExact _) (wpAny_newObj_type (wpAny_pure ⟨_, rfl, wpAny_pure h⟩) htake)
    | exact wpAny_bind (m := Builtin.Tuple.tupleExact _) (wpAny_newObj_type (wpAny_bind (wpAny_pure (wpAny_pure ⟨_, rfl, wpAny_pure h⟩))) htake)
    | exact wpAny_bind (wpAny_bind (m := Builtin.Tuple.tupleExact _) (wpAny_newObj_type (wpAny_pure (wpAny_pure ⟨_, rfl, wpAny_pure h⟩)) htake))
    | exact wpAny_bind (wpAny_bind (m := Builtin.Tuple.tupleExact _) (wpAny_newObj_type (wpAny_pure ⟨_, rfl, wpAny_pure h⟩) htake))
end
def tRevT (K : PySem.W.Frag) (te : TE) : TE := fun σ H Q => te σ H fun x H1 => ∃ a xs, x = .ref a ∧ SqT K H1 a xs ∧ ∀ p, H1 p = none → Q (.ref p) (upd H1 p (.tup xs.reverse))
theorem pe_revT {X : Cx} {e : Expr} {te : TE} {k : Nat} {p1 p2 p3 pos : Pos} (he : PE X e te) : PE X (.Subscript e (.Slice none none (some (.UnaryOp .USub (.Constant (.int 1) k p1) p2)) p3) pos) (tRevT X.K te) := by
  refine ⟨fun pins s σ H Q I h => ?_⟩
  refine Subscript_ (thn (he.run pins s σ H _ I h) fun v s1 ⟨x, H1, I1, r1, q1⟩ => ?_)
  obtain ⟨a, xs, ex, hx, q⟩ := q1
  subst ex
  cases r1
  have hst : PO X (some (.UnaryOp .USub (.Constant (.int 1) k p1) p2)) (tPart (tUn (rU fun i => .int (-i)) (tC (.int 1)))) := po_some (pe_un un_neg pe_int)
  refine wpAny_Slice (thn (po_none.run pins s1 σ H1 (fun o H2 => o = none ∧ H2 = H1) I1 ⟨rfl, rfl⟩) fun vl s2 ⟨l, H2, I2, pl, el, e2⟩ => ?_)
  subst el e2
  cases pl
  refine thn (po_none.run pins s2 σ H2 (fun o H3 => o = none ∧ H3 = H2) I2 ⟨rfl, rfl⟩) fun vu s3 ⟨u, H3, I3, pu, eu, e3⟩ => ?_
  subst eu e3
  cases pu
  refine thn (hst.run pins s3 σ H3 (fun o H4 => o = some (-1) ∧ H4 = H3) I3 ⟨1, rfl, -1, rfl, rfl, rfl⟩) fun vs s4 ⟨o, H4, I4, ps, eo, e4⟩ => ?_
  subst eo e4
  have I5 : Inv X pins σ H4 { s4 with heap := s4.heap.push { cls := .type "slice", data := .fields #[.none, .none, vs] } } := I4.kept (t' := s4.toks) fun b ob q => Heap.get?_push_of_some _ q
  obtain ⟨its, r, ht, hz⟩ := I5.tuple hx
  have hlen := r.length
  show wpAny (model X.prog X.w) X.A (subscriptTail e (.Slice none none (some (.UnaryOp .USub (.Constant (.int 1) k p1) p2)) p3) (.ref a) (.ref s4.heap.objs.size)) (EP X pins σ Q) X.xe { s4 with heap := s4.heap.push { cls := .type "slice", data := .fields #[.none, .none, vs] } }
  refine tail_any (ops := [.ref a, .ref s4.heap.objs.size]) ht.typeIs (PyProof.Rows.slot_tuple_getitem.lookup) ?_ (by with_unfolding_all rfl)
  refine getItem_tuple_rev ht (Heap.IsSliceOf.new _ .none .none vs) ps ?_ (by rw [List.size_toArray]; omega)
  refine ⟨.ref _, _, I5.laid (t' := s4.toks) (o := .tup xs.reverse) (fun b ob q => Heap.get?_push_of_some _ q) (Nat.le_refl _) ?_, rfl, q _ (I5.hok.fresh (Nat.le_refl _))⟩
  exact ⟨by rw [List.length_reverse]; exact hz, _, r.reverse, IsTup.new _ _⟩
theorem pe_revTK {X : Cx} (K : PySem.W.Frag) {e : Expr} {te : TE} {k : Nat} {p1 p2 p3 pos : Pos} (he : PE X e te) (ek : X.K = K := by rfl) : PE X (.Subscript e (.Slice none none (some (.UnaryOp .USub (.Constant (.int 1) k p1) p2)) p3) pos) (tRevT K te) := by
  subst ek
  exact pe_revT he
end Z
namespace Z
open PySem PySem.Spec PyProof.Rows L2
section
variable {K : PySem.W.Frag} {H : Hp} {Q : VK}
def RevTW (K : PySem.W.Frag) (x : V) (H : Hp) (Q : VK) : Prop := ∃ a xs, x = .ref a ∧ SqT K H a xs ∧ ∀ p, H p = none → Q (.ref p) (upd H p (.tup xs.reverse))
theorem s_revT {te : TE} {σ : L2.St} (h : te σ H fun x H1 => RevTW K x H1 Q) : tRevT K te σ H Q := h
theorem s_revTv {a : Addr} {xs : List V} (hx : SqT K H a xs) (h : ∀ q H', H q = none → Same H H' → H' q = some (.tup xs.reverse) → Q (.ref q) H') : RevTW K (.ref a) H Q := ⟨a, xs, rfl, hx, s_new h⟩
theorem s_slT {p : Addr} {xs : List V} {lo hi : Option Int} (hx : SqT K H p xs) (h : ∀ q H', Same H H' → SqT K H' q (cutV xs lo hi) → Q (.ref q) H') : rSlA K (.ref p) lo hi H Q := by
  refine ⟨p, xs, rfl, hx, fun hw => h p H (Same.refl H) ?_, fun _ => s_new fun q H' _ s e => h q H' s (SqT.of e)⟩
  have e : cutV xs lo hi = xs := by
    unfold cutV
    rw [hw.1, hw.2, List.drop_zero, Nat.sub_zero, List.take_length]
  rw [e]
  exact hx
end
/-! data that does not change: None, numbers, truth values, texts, tuples -/
mutual
def Im (K : PySem.W.Frag) (H : Hp) : PyData → V → Prop
  | .none, v => v = .non
  | .bool b, v => v = .bl b
  | .int i, v => v = .int i
  | .str s, v => v = .str s
  | .tuple ds, v => ∃ a vs, v = .ref a ∧ SqT K H a vs ∧ Ims K H ds vs
  | .list _, _ => False
  | .dict _, _ => False
def Ims (K : PySem.W.Frag) (H : Hp) : List PyData → List V → Prop
  | [], vs => vs = []
  | d :: ds, vs => ∃ v r, vs = v :: r ∧ Im K H d v ∧ Ims K H ds r
end
section
variable {K : PySem.W.Frag} {H H' : Hp}
mutual
theorem Im.tk (k : K1.TK K H H') : ∀ (d : PyData) (v : V), Im K H d v → Im K H' d v
  | .none, _, h => h
  | .bool _, _, h => h
  | .int _, _, h => h
  | .str _, _, h => h
  | .tuple ds, v, h => by
    obtain ⟨a, vs, e, s, i⟩ := h
    exact ⟨a, vs, e, k _ _ s, Ims.tk k ds vs i⟩
  | .list _, _, h => h.elim
  | .dict _, _, h => h.elim
theorem Ims.tk (k : K1.TK K H H') : ∀ (ds : List PyData) (vs : List V), Ims K H ds vs → Ims K H' ds vs
  | [], _, h => h
  | d :: ds, vs, h => by
    obtain ⟨v, r, e, i, is⟩ := h
    exact ⟨v, r, e, Im.tk k d v i, Ims.tk k ds r is⟩
end
mutual
theorem Im.dp : ∀ (d : PyData) (v : V), Im K H d v → Dp K H v d
  | .none, _, h => by cases (show _ = _ from h); exact .non
  | .bool b, _, h => by cases (show _ = _ from h); exact .bl b
  | .int i, _, h => by cases (show _ = _ from h); exact .int i
  | .str s, _, h => by cases (show _ = _ from h); exact .str s
  | .tuple ds, v, h => by
    obtain ⟨a, vs, e, s, i⟩ := h
    subst e
    exact .tup s (Ims.dp ds vs i)
  | .list _, _, h => h.elim
  | .dict _, _, h => h.elim
theorem Ims.dp : ∀ (ds : List PyData) (vs : List V), Ims K H ds vs → DpAll K H vs ds
  | [], _, h => by cases (show _ = _ from h); exact .nil
  | d :: ds, vs, h => by
    obtain ⟨v, r, e, i, is⟩ := h
    subst e
    exact .cons (Im.dp d v i) (Ims.dp ds r is)
end
theorem Ims.length : ∀ {ds : List PyData} {vs : List V}, Ims K H ds vs → vs.length = ds.length
  | [], _, h => by cases (show _ = _ from h); rfl
  | d :: ds, vs, h => by
    obtain ⟨v, r, e, i, is⟩ := h
    subst e
    show r.length + 1 = ds.length + 1
    rw [Ims.length is]
theorem Ims.get : ∀ {ds : List PyData} {vs : List V}, Ims K H ds vs → ∀ {i : Nat} {v : V}, vs[i]? = some v → ∃ d, ds[i]? = some d ∧ Im K H d v
  | [], _, h, i, v, e => by cases (show _ = _ from h); simp at e
  | d :: ds, vs, h, i, v, e => by
    obtain ⟨v', r, e', im, is⟩ := h
    subst e'
    cases i with
    | zero =>
      have : v' = v := by simpa using e
      exact ⟨d, rfl, this ▸ im⟩
    | succ i => exact Ims.get is (i := i) (by simpa using e)
theorem Ims.at : ∀ {ds : List PyData} {vs : List V}, Ims K H ds vs → ∀ {i : Nat} {d : PyData}, ds[i]? = some d → ∃ v, vs[i]? = some v ∧ Im K H d v
  | [], _, h, i, d, e => by simp at e
  | d' :: ds, vs, h, i, d, e => by
    obtain ⟨v', r, e', im, is⟩ := h
    subst e'
    cases i with
    | zero =>
      have : d' = d := by simpa using e
      exact ⟨v', rfl, this ▸ im⟩
    | succ i => exact Ims.at is (i := i) (by simpa using e)
theorem Ims.app : ∀ {ds es : List PyData} {vs us : List V}, Ims K H ds vs → Ims K H es us → Ims K H (ds ++ es) (vs ++ us)
  | [], _, _, _, h, g => by cases (show _ = _ from h); exact g
  | d :: ds, es, vs, us, h, g => by
    obtain ⟨v, r, e, i, is⟩ := h
    subst e
    exact ⟨v, r ++ us, rfl, i, Ims.app is g⟩
theorem Ims.one {d : PyData} {v : V} (h : Im K H d v) : Ims K H [d] [v] := ⟨v, [], rfl, h, rfl⟩
theorem Ims.drop : ∀ {ds : List PyData} {vs : List V}, Ims K H ds vs → ∀ i, Ims K H (ds.drop i) (vs.drop i)
  | [], _, h, i => by cases (show _ = _ from h); rw [List.drop_nil, List.drop_nil]; exact rfl
  | d :: ds, vs, h, 0 => h
  | d :: ds, vs, h, i + 1 => by
    obtain ⟨v, r, e, im, is⟩ := h
    subst e
    exact Ims.drop is i
theorem Ims.take : ∀ {ds : List PyData} {vs : List V}, Ims K H ds vs → ∀ i, Ims K H (ds.take i) (vs.take i)
  | [], _, h, i => by cases (show _ = _ from h); rw [List.take_nil, List.take_nil]; exact rfl
  | d :: ds, vs, h, 0 => rfl
  | d :: ds, vs, h, i + 1 => by
    obtain ⟨v, r, e, im, is⟩ := h
    subst e
    exact ⟨v, r.take i, rfl, im, Ims.take is i⟩
theorem Ims.rev : ∀ {ds : List PyData} {vs : List V}, Ims K H ds vs → Ims K H ds.reverse vs.reverse
  | [], _, h => by cases (show _ = _ from h); exact rfl
  | d :: ds, vs, h => by
    obtain ⟨v, r, e, im, is⟩ := h
    subst e
    rw [List.reverse_cons, List.reverse_cons]
    exact (Ims.rev is).app (Ims.one im)
/-- what isinstance(x, tuple) says -/
def isTup : PyData → Bool
  | .tuple _ => true
  | _ => false
end
/-! isinstance -/
def clsOf : PyData → String
  | .none => "NoneType"
  | .bool _ => "bool"
  | .int _ => "int"
  | .str _ => "str"
  | .list _ => "list"
  | .tuple _ => "tuple"
  | .dict _ => "dict"
section
variable {K : PySem.W.Frag} {H : Hp} {Q : VK}
theorem Im.tyx : ∀ {d : PyData} {v : V}, Im K H d v → TyX K H v (.type (clsOf d))
  | .none, _, h => by cases (show _ = _ from h); exact .base .non
  | .bool b, _, h => by cases (show _ = _ from h); exact .base (.bl b)
  | .int i, _, h => by cases (show _ = _ from h); exact .base (.int i)
  | .str s, _, h => by cases (show _ = _ from h); exact .base (.str s)
  | .tuple ds, v, h => by
    obtain ⟨a, vs, e, s, i⟩ := h
    subst e
    rcases s with (s | ⟨o, s⟩) | ⟨o, t, n, s, c, _⟩
    · exact .base (.tup s)
    · exact .fTuple s
    · exact .kTuple s c
  | .list _, _, h => h.elim
  | .dict _, _, h => h.elim
theorem s_isiD {d : PyData} {v : V} {c : String} {b : Bool} (h : Im K H d v) (e : kitB (clsOf d) c = some b) (q : Q (.bl b) H) : rIsi K [v, .ty c] H Q := ⟨_, _, _, _, b, rfl, .ty c, h.tyx, kit_ty e, q⟩
theorem kit_tup : ∀ d : PyData, kitB (clsOf d) "tuple" = some (isTup d)
  | .none => (by decide +kernel : kitB "NoneType" "tuple" = some false)
  | .bool _ => (by decide +kernel : kitB "bool" "tuple" = some false)
  | .int _ => (by decide +kernel : kitB "int" "tuple" = some false)
  | .str _ => (by decide +kernel : kitB "str" "tuple" = some false)
  | .list _ => (by decide +kernel : kitB "list" "tuple" = some false)
  | .tuple _ => (by decide +kernel : kitB "tuple" "tuple" = some true)
  | .dict _ => (by decide +kernel : kitB "dict" "tuple" = some false)
def isStr : PyData → Bool
  | .str _ => true
  | _ => false
def isInt : PyData → Bool
  | .int _ => true
  | .bool _ => true
  | _ => false
def isBool : PyData → Bool
  | .bool _ => true
  | _ => false
theorem kit_str : ∀ d : PyData, kitB (clsOf d) "str" = some (isStr d)
  | .none => (by decide +kernel : kitB "NoneType" "str" = some false)
  | .bool _ => (by decide +kernel : kitB "bool" "str" = some false)
  | .int _ => (by decide +kernel : kitB "int" "str" = some false)
  | .str _ => (by decide +kernel : kitB "str" "str" = some true)
  | .list _ => (by decide +kernel : kitB "list" "str" = some false)
  | .tuple _ => (by decide +kernel : kitB "tuple" "str" = some false)
  | .dict _ => (by decide +kernel : kitB "dict" "str" = some false)
theorem kit_int : ∀ d : PyData, kitB (clsOf d) "int" = some (isInt d)
  | .none => (by decide +kernel : kitB "NoneType" "int" = some false)
  | .bool _ => (by decide +kernel : kitB "bool" "int" = some true)
  | .int _ => (by decide +kernel : kitB "int" "int" = some true)
  | .str _ => (by decide +kernel : kitB "str" "int" = some false)
  | .list _ => (by decide +kernel : kitB "list" "int" = some false)
  | .tuple _ => (by decide +kernel : kitB "tuple" "int" = some false)
  | .dict _ => (by decide +kernel : kitB "dict" "int" = some false)
theorem kit_bool : ∀ d : PyData, kitB (clsOf d) "bool" = some (isBool d)
  | .none => (by decide +kernel : kitB "NoneType" "bool" = some false)
  | .bool _ => (by decide +kernel : kitB "bool" "bool" = some true)
  | .int _ => (by decide +kernel : kitB "int" "bool" = some false)
  | .str _ => (by decide +kernel : kitB "str" "bool" = some false)
  | .list _ => (by decide +kernel : kitB "list" "bool" = some false)
  | .tuple _ => (by decide +kernel : kitB "tuple" "bool" = some false)
  | .dict _ => (by decide +kernel : kitB "dict" "bool" = some false)
theorem s_isT {d : PyData} {v : V} (h : Im K H d v) (q : Q (.bl (isTup d)) H) : rIsi K [v, .ty "tuple"] H Q := s_isiD h (kit_tup d) q
theorem s_isS {d : PyData} {v : V} (h : Im K H d v) (q : Q (.bl (isStr d)) H) : rIsi K [v, .ty "str"] H Q := s_isiD h (kit_str d) q
theorem s_isI {d : PyData} {v : V} (h : Im K H d v) (q : Q (.bl (isInt d)) H) : rIsi K [v, .ty "int"] H Q := s_isiD h (kit_int d) q
theorem s_isB {d : PyData} {v : V} (h : Im K H d v) (q : Q (.bl (isBool d)) H) : rIsi K [v, .ty "bool"] H Q := s_isiD h (kit_bool d) q
end
/-! sizes, heights -/
mutual
def sz : PyData → Nat
  | .tuple ds => 1 + szs ds
  | .list ds => 1 + szs ds
  | .none => 1
  | .bool _ => 1
  | .int _ => 1
  | .str _ => 1
  | .dict _ => 1
def szs : List PyData → Nat
  | [] => 0
  | d :: ds => sz d + szs ds
end
mutual
def ht : PyData → Nat
  | .tuple ds => 1 + hts ds
  | .list ds => 1 + hts ds
  | .none => 1
  | .bool _ => 1
  | .int _ => 1
  | .str _ => 1
  | .dict _ => 1
def hts : List PyData → Nat
  | [] => 0
  | d :: ds => max (ht d) (hts ds)
end
/-- a text that can be laid, not a long one -/
def strS (x : Str) : Bool := PyData.canLay0 (.str x) && decide (x.length ≤ 1000)
/-! what the laws' data are -/
mutual
def pl : PyData → Bool
  | .tuple ds => pls ds
  | .none => true
  | .int _ => true
  | .str x => strS x
  | .bool _ => false
  | .list _ => false
  | .dict _ => false
def pls : List PyData → Bool
  | [] => true
  | d :: ds => pl d && pls ds
end
mutual
theorem pl_lay : ∀ d : PyData, pl d = true → d.canLay0 = true
  | .tuple ds, h => by
    have h' : pls ds = true := h
    have := pls_lay ds h'
    simpa [PyData.canLay0] using this
  | .none, _ => rfl
  | .int _, _ => rfl
  | .str x, h => ((Bool.and_eq_true _ _).mp h).1
  | .bool _, h => by cases h
  | .list _, h => by cases h
  | .dict _, h => by cases h
theorem pls_lay : ∀ ds : List PyData, pls ds = true → PyData.canLayAll0 ds = true
  | [], _ => rfl
  | d :: ds, h => by
    have h' : (pl d && pls ds) = true := h
    rw [Bool.and_eq_true] at h'
    rw [PyData.canLayAll0, pl_lay d h'.1, pls_lay ds h'.2]
    rfl
end
mutual
theorem pl_noB : ∀ d : PyData, pl d = true → noB d = true
  | .tuple ds, h => by
    have h' : pls ds = true := h
    have := pls_noB ds h'
    simpa [noB] using this
  | .none, _ => rfl
  | .int _, _ => rfl
  | .str x, h => rfl
  | .bool _, h => by cases h
  | .list _, h => by cases h
  | .dict _, h => by cases h
theorem pls_noB : ∀ ds : List PyData, pls ds = true → noBs ds = true
  | [], _ => rfl
  | d :: ds, h => by
    have h' : (pl d && pls ds) = true := h
    rw [Bool.and_eq_true] at h'
    rw [noBs, pl_noB d h'.1, pls_noB ds h'.2]
    rfl
end
theorem pls_mem {ds : List PyData} : pls ds = true ↔ ∀ d ∈ ds, pl d = true := by
  induction ds with
  | nil => exact ⟨fun _ d h => (by cases h), fun _ => rfl⟩
  | cons a r ih =>
    show (pl a && pls r) = true ↔ _
    rw [Bool.and_eq_true, ih]
    exact ⟨fun h d m => by rcases List.mem_cons.mp m with m | m; exact m ▸ h.1; exact h.2 d m, fun h => ⟨h a (List.mem_cons_self ..), fun d m => h d (List.mem_cons_of_mem _ m)⟩⟩
theorem szs_app : ∀ ds es : List PyData, szs (ds ++ es) = szs ds + szs es
  | [], es => by
    show szs es = 0 + szs es
    omega
  | d :: ds, es => by
    show sz d + szs (ds ++ es) = sz d + szs ds + szs es
    rw [szs_app ds es]
    omega
theorem hts_app : ∀ ds es : List PyData, hts (ds ++ es) = max (hts ds) (hts es)
  | [], es => by
    show hts es = max 0 (hts es)
    omega
  | d :: ds, es => by
    show max (ht d) (hts (ds ++ es)) = max (max (ht d) (hts ds)) (hts es)
    rw [hts_app ds es]
    omega
theorem sz_pos : ∀ d : PyData, 1 ≤ sz d
  | .tuple ds => Nat.le_add_right ..
  | .list ds => Nat.le_add_right ..
  | .none => Nat.le_refl _
  | .bool _ => Nat.le_refl _
  | .int _ => Nat.le_refl _
  | .str _ => Nat.le_refl _
  | .dict _ => Nat.le_refl _
theorem ht_pos : ∀ d : PyData, 1 ≤ ht d
  | .tuple ds => Nat.le_add_right ..
  | .list ds => Nat.le_add_right ..
  | .none => Nat.le_refl _
  | .bool _ => Nat.le_refl _
  | .int _ => Nat.le_refl _
  | .str _ => Nat.le_refl _
  | .dict _ => Nat.le_refl _
theorem len_szs : ∀ ds : List PyData, ds.length ≤ szs ds
  | [] => Nat.le_refl _
  | d :: ds => by
    have h1 := len_szs ds
    have h2 := sz_pos d
    show ds.length + 1 ≤ sz d + szs ds
    omega
theorem mem_sz : ∀ {ds : List PyData} {d : PyData}, d ∈ ds → sz d ≤ szs ds ∧ ht d ≤ hts ds
  | a :: r, d, m => by
    show sz d ≤ sz a + szs r ∧ ht d ≤ max (ht a) (hts r)
    rcases List.mem_cons.mp m with e | m
    · subst e
      omega
    · have := mem_sz m
      omega
/-- bounded data -/
structure Bd (h s : Nat) (d : PyData) : Prop where
  ht : ht d ≤ h
  sz : sz d ≤ s
  pl : pl d = true
theorem Bd.part {h s : Nat} {ds : List PyData} (b : Bd h s (.tuple ds)) {d : PyData} (m : d ∈ ds) : Bd h s d := by
  have h1 : 1 + hts ds ≤ h := b.ht
  have h2 : 1 + szs ds ≤ s := b.sz
  have h3 : pls ds = true := b.pl
  have := mem_sz m
  exact ⟨by omega, by omega, pls_mem.mp h3 d m⟩
theorem Bd.mono {h s h' s' : Nat} {d : PyData} (b : Bd h s d) (e : h ≤ h') (f : s ≤ s') : Bd h' s' d := ⟨Nat.le_trans b.ht e, Nat.le_trans b.sz f, b.pl⟩
theorem sub_szs : ∀ {ds es : List PyData}, ds.Sublist es → szs ds ≤ szs es ∧ hts ds ≤ hts es ∧ (pls es = true → pls ds = true)
  | _, _, .slnil => ⟨Nat.le_refl _, Nat.le_refl _, fun h => h⟩
  | _, _, .cons (l₁ := l₁) (l₂ := l₂) a s => by
    have := sub_szs s
    refine ⟨?_, ?_, fun h => ?_⟩
    · show szs l₁ ≤ sz a + szs l₂
      omega
    · show hts l₁ ≤ max (ht a) (hts l₂)
      omega
    · have h' : (pl a && pls l₂) = true := h
      rw [Bool.and_eq_true] at h'
      exact this.2.2 h'.2
  | _, _, .cons₂ (l₁ := l₁) (l₂ := l₂) a s => by
    have := sub_szs s
    refine ⟨?_, ?_, fun h => ?_⟩
    · show sz a + szs l₁ ≤ sz a + szs l₂
      omega
    · show max (ht a) (hts l₁) ≤ max (ht a) (hts l₂)
      omega
    · have h' : (pl a && pls l₂) = true := h
      rw [Bool.and_eq_true] at h'
      show (pl a && pls l₁) = true
      rw [h'.1, this.2.2 h'.2]
      rfl
end Z
namespace Z
open PySem PySem.Spec PyProof.Rows L2
open Sem (wp)
set_option maxRecDepth 8000 in
theorem list_extend_tup (l : Addr) (items : Array Value) (n : Nat) (b : Addr) (items2 : Array Value) (n2 : Nat) (bd : Option Addr) (bs : Array (Option Value)) (hs0 : ¬(!items.isEmpty && Builtin.List.listTooLong (items.size + items2.size)) = true) (hs1 : items.size ≤ sizeLine) (hs2 : items.size + items2.size ≤ sizeLine + 1) :
    Meets (Builtin.«list.extend» ⟨[.ref l, .ref b], []⟩) (fun _ R s => s.heap.get? l = some { cls := .type "list", dict := none, data := .seq items n, slots := #[] } ∧ s.heap.get? b = some { cls := .type "tuple", dict := bd, data := .seq items2 n2, slots := bs } ∧ R (.ok (.ret Value.none)) { s with heap := s.heap.update l (Obj.mapSeq fun x => x ++ items2), toks := s.toks }) :=
  .of_wp fun prog w A R s h => by
    obtain ⟨hp, g, d, tk, os⟩ := s; obtain ⟨hl, hb, h⟩ := h; have f1 := PySem.AutoSeq1.idx_int; have f2 := PySem.AutoSeq1.sub_tuple_tuple; have f3 := PySem.AutoSeq1.sub_list_list; have f4 := PySem.AutoSeq1.sub_tuple_list; have f5 := PySem.AutoSeq1.sub_list_tuple;
    have hz' : (items ++ items2).size ≤ sizeLine + 1 := by rw [Array.size_append]; exact hs2
    wp_walk using (wpAny_updateSeq hl rfl (hz := hs1) (_hz' := hz')), wpAny_loadPart' hl, wpAny_loadPart' hb; exact ⟨_, rfl, h⟩
def rIsB : R2 := fun x y H Q => ∃ a b, x = .bl a ∧ y = .bl b ∧ Q (.bl (decide (a = b))) H
def rNotB : R2 := fun x y H Q => ∃ a b, x = .bl a ∧ y = .bl b ∧ Q (.bl (!decide (a = b))) H
theorem op_isBn {X : Cx} : OpR X (compareOp .Is) rIsB := op_is_bl
theorem op_notBn {X : Cx} : OpR X (compareOp .IsNot) rNotB := op_isnot_bl
theorem s_isB2 {a b : Bool} {H : Hp} {Q : VK} (h : Q (.bl (decide (a = b))) H) : rIsB (.bl a) (.bl b) H Q := ⟨a, b, rfl, rfl, h⟩
theorem s_notB2 {a b : Bool} {H : Hp} {Q : VK} (h : Q (.bl (!decide (a = b))) H) : rNotB (.bl a) (.bl b) H Q := ⟨a, b, rfl, rfl, h⟩
theorem s_truB {K : PySem.W.Frag} {b : Bool} {H : Hp} {F : Bool → Hp → Prop} (h : F b H) : IsTru K (.bl b) H F := ⟨b, rfl, h⟩
theorem op_repTK {X : Cx} (K : PySem.W.Frag) (e : X.K = K := by rfl) : OpR X (binaryOp .Mult) (rRepT K) := by subst e; exact op_repT
/-- xs.extend(t), t a tuple -/
def rExtT (K : PySem.W.Frag) : V → List V → Hp → VK → Prop := fun x vs H Q => ∃ l b xs zs, x = .ref l ∧ vs = [.ref b] ∧ H l = some (.lst xs) ∧ SqT K H b zs ∧ xs.length + zs.length ≤ sizeLine ∧ Q .non (upd H l (.lst (xs ++ zs)))
theorem mt_extT {X : Cx} : MtM X "list.extend" (rExtT X.K) := by
  intro pins s σ H x vs v us Q I rx rv h
  obtain ⟨l, b, xs, zs, rfl, rfl, hH, hB, hz, q⟩ := h
  cases rx
  obtain ⟨u, rfl, ru⟩ := rv.one
  cases ru
  obtain ⟨z, its, n, r, hl, e⟩ := I.lstM hH
  obtain ⟨its2, r2, ⟨o, ho, hc, n2, hd⟩, z2⟩ := I.tuple hB
  have hl2 := r2.length
  obtain ⟨oc, od, dt, sl⟩ := o
  simp only at hc hd
  subst hc hd
  have hsz : its.toArray.size + its2.toArray.size ≤ sizeLine := by rw [List.size_toArray, List.size_toArray]; omega
  have hlong : ¬ (!its.toArray.isEmpty && Builtin.List.listTooLong (its.toArray.size + its2.toArray.size)) = true := by
    rw [notLongL hsz, Bool.and_false]
    exact Bool.false_ne_true
  refine call_meets F.slot_list_extend ⟨_, e, rfl⟩ F.entry_list_extend (F.args_list_extend_2 _ _)
    (list_extend_tup l its.toArray n b its2.toArray n2 od sl hlong (by rw [List.size_toArray]; omega) (by omega)) ⟨e, ho, ?_⟩
  refine ⟨.non, _, I.lset (its' := its ++ its2) hH e (by simp) (r.append r2) ?_, rfl, q⟩
  rw [List.length_append]
  omega
theorem mt_extTK {X : Cx} (K : PySem.W.Frag) (e : X.K = K := by rfl) : MtM X "list.extend" (rExtT K) := by subst e; exact mt_extT
section
variable {K : PySem.W.Frag} {H : Hp} {Q : VK}
theorem s_extT {p b : Addr} {xs zs : List V} (hx : H p = some (.lst xs)) (hb : SqT K H b zs) (hz : xs.length + zs.length ≤ sizeLine) (h : ∀ H', But p H H' → H' p = some (.lst (xs ++ zs)) → Q .non H') : rExtT K (.ref p) [.ref b] H Q := ⟨p, b, xs, zs, rfl, rfl, hx, hb, hz, h _ But.upd upd_same⟩
end
/-- == of data, one side at most 64 deep -/
def rEqM (K : PySem.W.Frag) : R2 := fun x y H Q => ∃ d e, Dp K H x d ∧ Dp K H y e ∧ d.canLay0 = true ∧ e.canLay0 = true ∧ min d.depth e.depth ≤ 64 ∧ Q (.bl (PyData.eqv d e)) H
theorem op_eqM {X : Cx} (hu : X.A.units + 64 < cLine) : OpR X (compareOp .Eq) (rEqM X.K) := by
  intro pins s σ H x y v u Q I rx ry h
  obtain ⟨d, e, hd, he, sd, se, hm, q⟩ := h
  obtain ⟨as, r1⟩ := Dp.reads I d x v hd rx
  obtain ⟨bs, r2⟩ := Dp.reads I e y u he ry
  exact SeqAt.compareEq_reads r1 r2 sd se (by omega) ⟨.bl _, H, I, rfl, q⟩
theorem op_eqMK {X : Cx} (K : PySem.W.Frag) (hu : X.A.units + 64 < cLine) (e : X.K = K := by rfl) : OpR X (compareOp .Eq) (rEqM K) := by subst e; exact op_eqM hu
end Z
namespace Z
open PySem PySem.Spec PyProof.Rows L2
/-! constants of the top: numbers, tables of tuples by numbers -/
theorem pe_globE {X : Cx} {x : Str} {pos : Pos} {v : V} (hg : Gl X x) (h : ∃ u, X.mg x = some u ∧ RelV v u) (hd : (x == ("__debug__" : Str)) = false := by decide) : PE X (.Name x pos) (tC v) := by
  obtain ⟨u, hm, r⟩ := h
  exact pe_glob hg hm r hd
def refAt (mg : Str → Option Value) (x : Str) : Addr := match mg x with
  | some (.ref a) => a
  | _ => 0
def rowsOf : List DictEntry → Option (List (Int × Addr))
  | [] => some []
  | ⟨h, .int i _, .ref a⟩ :: r => if h = hashInt i then (rowsOf r).map ((i, a) :: ·) else none
  | _ => none
/-- at a stands a table of the top: numbers, and tuples of the top -/
def WInt (K : PySem.W.Frag) (a : Addr) (rows : List (Int × Addr)) : Prop :=
  ∃ es n, K.lookup a = some ⟨.type "dict", none, .dict es n, #[]⟩ ∧ rowsOf es.toList = some rows ∧ (a == sysModules) = false
/-- at b stands a tuple of the top -/
def WTup (K : PySem.W.Frag) (b : Addr) (xs : List V) : Prop :=
  ∃ (o : Obj) (its : Array Value) (n : Nat), K.lookup b = some o ∧ o.cls = .type "tuple" ∧ o.data = .seq its n ∧ its.size ≤ sizeLine ∧ Vals xs its.toList
theorem WTup.sq {K : PySem.W.Frag} {H : Hp} {b : Addr} {xs : List V} (h : WTup K b xs) : SqT K H b xs := .inr h
theorem RelV.of_abs {x : V} {u : Value} (e : absV u = some x) : RelV x u := by
  cases u <;> first | (cases e; first | rfl | exact ⟨_, rfl⟩) | cases e
theorem Vals.of_abs : ∀ {xs : List V} {us : List Value}, us.map absV = xs.map some → Vals xs us
  | [], [], _ => .nil
  | [], _ :: _, h => by cases h
  | _ :: _, [], h => by cases h
  | x :: xs, u :: us, h => by
    injection h with h1 h2
    exact .cons (RelV.of_abs h1) (Vals.of_abs h2)
theorem wtup_mk {K : PySem.W.Frag} {b : Addr} {xs : List V} {dd : Option Addr} {its : Array Value} {n : Nat} {sl : Array (Option Value)} (l : K.lookup b = some ⟨.type "tuple", dd, .seq its n, sl⟩) (z : xs.length ≤ 1000) (e : its.toList.map absV = xs.map some) : WTup K b xs := by
  have line : (1000 : Nat) < sizeLine := by decide
  have el := congrArg List.length e
  rw [List.length_map, List.length_map, Array.length_toList] at el
  exact ⟨_, its, n, l, rfl, rfl, by omega, Vals.of_abs e⟩
theorem wint_mk {K : PySem.W.Frag} {a : Addr} {es : Array DictEntry} {n : Nat} {rows : List (Int × Addr)} (l : K.lookup a = some ⟨.type "dict", none, .dict es n, #[]⟩) (e : rowsOf es.toList = some rows) (h : (a == sysModules) = false) : WInt K a rows := ⟨es, n, l, e, h⟩
theorem rows_keys {prog : Program} {w : World} : ∀ {l : List DictEntry} {rows : List (Int × Addr)}, rowsOf l = some rows → ∀ e ∈ l, ∃ k, (intKind prog w).is k e.key = true ∧ e.hash = (intKind prog w).hash k
  | [], _, _, _, m => by cases m
  | ⟨h, .int i t, .ref a⟩ :: r, rows, e, x, m => by
    have e' : (if h = hashInt i then (rowsOf r).map ((i, a) :: ·) else none) = some rows := e
    by_cases hh : h = hashInt i
    · rw [if_pos hh] at e'
      cases er : rowsOf r with
      | none => rw [er] at e'; cases e'
      | some rr =>
        rcases List.mem_cons.mp m with m | m
        · subst m
          exact ⟨i, (by simp [intKind, Value.isInt]), hh⟩
        · exact rows_keys er x m
    · rw [if_neg hh] at e'
      cases e'
theorem rows_find {prog : Program} {w : World} : ∀ {l : List DictEntry} {rows : List (Int × Addr)}, rowsOf l = some rows → ∀ k : Int, (l.find? fun e => (intKind prog w).is k e.key).map (·.val) = (rows.lookup k).map Value.ref
  | [], rows, e, k => by
    have : rows = [] := by injection e with e; exact e.symm
    subst this
    rfl
  | ⟨h, .int i t, .ref a⟩ :: r, rows, e, k => by
    have e' : (if h = hashInt i then (rowsOf r).map ((i, a) :: ·) else none) = some rows := e
    by_cases hh : h = hashInt i
    · rw [if_pos hh] at e'
      cases er : rowsOf r with
      | none => rw [er] at e'; cases e'
      | some rr =>
        rw [er] at e'
        have : rows = (i, a) :: rr := by injection e' with e'; exact e'.symm
        subst this
        rw [List.find?_cons, List.lookup_cons]
        by_cases hk : k = i
        · subst hk
          rw [show (intKind prog w).is k (Value.int k t) = true by simp [intKind, Value.isInt], beq_self_eq_true]
          rfl
        · rw [show (intKind prog w).is k (Value.int i t) = false by simp [intKind, Value.isInt]; exact fun z => hk z.symm, beq_eq_false_iff_ne.mpr hk]
          exact rows_find er k
    · rw [if_neg hh] at e'
      cases e'
theorem WInt.map {K : PySem.W.Frag} {prog : Program} {w : World} {h : Heap} {a : Addr} {rows : List (Int × Addr)} (X : K.In h) (W : WInt K a rows) : h.MapOf (intKind prog w) a (fun k => (rows.lookup k).map Value.ref) := by
  obtain ⟨es, n, l, e, _⟩ := W
  refine ⟨_, es, n, X _ _ l, ⟨rfl, rfl, rfl⟩, rfl, fun x hx => rows_keys e x (Array.mem_toList_iff.mpr hx), fun k => ?_⟩
  have := rows_find (prog := prog) (w := w) e k
  obtain ⟨l⟩ := es
  show findBy (intKind prog w).is _ k = (rows.lookup k).map Value.ref
  rw [← this]
  unfold findBy
  rw [List.find?_toArray]
def rIxW (K : PySem.W.Frag) : R2 := fun x y H Q => ∃ p k rows b, x = .ref p ∧ y = .int k ∧ WInt K p rows ∧ rows.lookup k = some b ∧ Q (.ref b) H
def rInW (K : PySem.W.Frag) : R2 := fun x y H Q => ∃ p k rows, x = .int k ∧ y = .ref p ∧ WInt K p rows ∧ Q (.bl (rows.lookup k).isSome) H
def rNInW (K : PySem.W.Frag) : R2 := fun x y H Q => ∃ p k rows, x = .int k ∧ y = .ref p ∧ WInt K p rows ∧ Q (.bl (!(rows.lookup k).isSome)) H
section
variable {X : Cx}
theorem ix_wint : IxR X (rIxW X.K) := by
  intro value slice pins s σ H x y v u Q I rx ry h hs
  obtain ⟨p, k, rows, b, rfl, rfl, W, e, q⟩ := h
  obtain rfl : v = Value.ref p := rx
  obtain ⟨t, rfl⟩ := ry
  have hm := W.map (prog := X.prog) (w := X.w) I.kIn
  exact tail_any hm.typeIs slot_dict_getitem.lookup (wpAny_getItem_of (show (intKind X.prog X.w).is k (Value.int k t) = true by simp [intKind, Value.isInt]) hm (by rw [e]; rfl) ⟨.ref b, H, I.tok _, rfl, q⟩) hs
theorem op_inW : OpR X (compareOp .In) (rInW X.K) := by
  intro pins s σ H x y v u Q I rx ry h
  obtain ⟨p, k, rows, rfl, rfl, W, q⟩ := h
  obtain rfl : u = Value.ref p := ry
  obtain ⟨t, rfl⟩ := rx
  have hm := W.map (prog := X.prog) (w := X.w) I.kIn
  obtain ⟨_, _, _, _, hd⟩ := W
  refine wpAny_in_of (show (intKind X.prog X.w).is k (Value.int k t) = true by simp [intKind, Value.isInt]) hd hm ?_
  refine ⟨.bl _, H, I.tok _, rfl, ?_⟩
  rw [Option.isSome_map]
  exact q
theorem op_ninW : OpR X (compareOp .NotIn) (rNInW X.K) := by
  intro pins s σ H x y v u Q I rx ry h
  obtain ⟨p, k, rows, rfl, rfl, W, q⟩ := h
  obtain rfl : u = Value.ref p := ry
  obtain ⟨t, rfl⟩ := rx
  have hm := W.map (prog := X.prog) (w := X.w) I.kIn
  obtain ⟨_, _, _, _, hd⟩ := W
  refine wpAny_notIn_of (show (intKind X.prog X.w).is k (Value.int k t) = true by simp [intKind, Value.isInt]) hd hm ?_
  refine ⟨.bl _, H, I.tok _, rfl, ?_⟩
  rw [Option.isSome_map]
  exact q
end
section
variable {X : Cx} (K : PySem.W.Frag)
theorem ix_wintK (e : X.K = K := by rfl) : IxR X (rIxW K) := by subst e; exact ix_wint
theorem op_inWK (e : X.K = K := by rfl) : OpR X (compareOp .In) (rInW K) := by subst e; exact op_inW
theorem op_ninWK (e : X.K = K := by rfl) : OpR X (compareOp .NotIn) (rNInW K) := by subst e; exact op_ninW
end
section
variable {K : PySem.W.Frag} {H : Hp} {Q : VK} {σ : L2.St}
theorem s_ixW {p : Addr} {k : Int} {rows : List (Int × Addr)} {b : Addr} (W : WInt K p rows) (e : rows.lookup k = some b) (h : Q (.ref b) H) : rIxW K (.ref p) (.int k) H Q := ⟨p, k, rows, b, rfl, rfl, W, e, h⟩
theorem s_ninW {p : Addr} {k : Int} {rows : List (Int × Addr)} (W : WInt K p rows) (h : Q (.bl (!(rows.lookup k).isSome)) H) : rNInW K (.int k) (.ref p) H Q := ⟨p, k, rows, rfl, rfl, W, h⟩
theorem s_chain {r r' : R2} {ta tb tc : TE} (h : ta σ H fun x H1 => tb σ H1 fun y H2 => r x y H2 fun z H3 => IsBl z H3 fun k H4 => if k = true then tc σ H4 fun w' H5 => r' y w' H5 Q else Q (.bl false) H4) : tChain r r' ta tb tc σ H Q := h
end
end Z
namespace Z
open PySem PySem.Spec PyProof.Rows L2 RZ
/-! zip of two tuples -/
def ZipA (K : PySem.W.Frag) (vs : List V) (H : Hp) (R : It → Hp → Prop) : Prop := ∃ a b xs ys, vs = [.ref a, .ref b] ∧ ((SqL K H a xs ∧ SqL K H b ys ∧ R (Itz K a b) H) ∨ (SqT K H a xs ∧ SqT K H b ys ∧ R (ItzT K a b) H))
theorem pi_zipAK {X : Cx} (K : PySem.W.Frag) {e e2 : Expr} {ta : TA} {p pos tpos : Pos} {elts : List Expr} {kk : Nat} (hg : Gl X "zip") (hm : X.mg "zip" = none) (ha : PA X [e, e2] ta)
    (hs : starEach [e, e2] X.env = (false, eval e X.env) :: starEach [e2] X.env := by rfl) (hpl : (backTo pos (starEach [e2] X.env)).any (·.1) = false := by rfl) (ek : X.K = K := by rfl) :
    PI X (.Tuple elts kk tpos) (.Call (.Name "zip" p) [e, e2] [] pos) (iZipA K ta) := by subst ek; exact pi_zipA hg hm ha hs hpl
theorem cut_fromZ (xs : List V) (m : Nat) : cutV xs (some (m : Int)) none = xs.drop m := by
  unfold cutV
  rw [show HT.sIx xs.length 0 (some (m : Int)) = min m xs.length from HT.sIx_nat _ _ _, HT.sIx_none]
  by_cases h : m ≤ xs.length
  · rw [Nat.min_eq_left h, List.take_of_length_le (by rw [List.length_drop]; omega)]
  · rw [Nat.min_eq_right (by omega), List.drop_of_length_le (Nat.le_refl _), List.take_nil, List.drop_of_length_le (by omega)]
section
variable {K : PySem.W.Frag} {H : Hp} {Q : VK} {σ : L2.St}
theorem s_izipA {ta : TA} {R : It → Hp → Prop} (h : ta σ H fun vs H1 => ZipA K vs H1 R) : iZipA K ta σ H R := h
theorem s_zipTT {a b : Addr} {xs ys : List V} {R : It → Hp → Prop} (hx : SqT K H a xs) (hy : SqT K H b ys) (h : R (ItzT K a b) H) : ZipA K [.ref a, .ref b] H R := ⟨a, b, xs, ys, rfl, .inr ⟨hx, hy, h⟩⟩
theorem s_zipLL {a b : Addr} {xs ys : List V} {R : It → Hp → Prop} (hx : SqL K H a xs) (hy : SqL K H b ys) (h : R (Itz K a b) H) : ZipA K [.ref a, .ref b] H R := ⟨a, b, xs, ys, rfl, .inl ⟨hx, hy, h⟩⟩
theorem l_mapZT {g : TG} {tt : TT} {te : TE} {vs : List Nat} {a b : Addr} {xs ys : List V} (F : Nat → V) (hl : xs.length = ys.length) (hx : SqT K H a xs) (hy : SqT K H b ys) (hz : xs.length ≤ 100000)
    (hs : ∀ (D : Addr) (N : Hp → Prop) (i : Nat) (x y : V) (T : Addr) (H' : Hp), xs[i]? = some x → ys[i]? = some y → Same H H' → H' T = some (.tup [x, y]) → (∀ H4, Same H' H4 → LcEnd D N (F i) H4) → g (.ref T) (wipe σ vs) H' fun σ2 H2 => wipe σ2 vs = wipe σ vs ∧ tt σ2 H2 fun b H3 => if b = true then te σ2 H3 fun y H4 => LcEnd D N y H4 else N H3)
    (hd : ∀ D H', H D = none → Same H H' → H' D = some (.lst ((List.range xs.length).map F)) → Q (.ref D) H') : LcW g tt te vs Q σ (ItzT K a b) H := by
  have line : (100000 : Nat) < sizeLine := by decide
  intro D nD
  refine ⟨fun i m H' => m = xs.length - i ∧ i ≤ xs.length ∧ Same H H' ∧ H' D = some (.lst ((List.range i).map F)), ⟨_, rfl, Nat.zero_le _, Same.new nD, upd_same⟩, ?_⟩
  rintro i m H' ⟨rfl, hi, sm, eD⟩
  have qx := sqt_same sm hx
  have qy := sqt_same sm hy
  by_cases hlt : i < xs.length
  · have e1 : xs[i]? = some xs[i] := List.getElem?_eq_getElem hlt
    have hlt2 : i < ys.length := by omega
    have e2 : ys[i]? = some ys[i] := List.getElem?_eq_getElem hlt2
    refine .inr ⟨⟨xs, ys, _, _, qx, qy, e1, e2⟩, fun H'' => Same H H'' ∧ H'' D = some (.lst ((List.range (i + 1)).map F)), fun H'' p => ⟨xs.length - (i + 1), by omega, rfl, hlt, p⟩, fun v H'' y => ?_⟩
    obtain ⟨T, x', y', rfl, hT, rfl, f1, f2⟩ := y
    have s2 : Same H' (upd H' T (.tup [x', y'])) := Same.new hT
    refine hs D _ i x' y' T _ (f1 xs qx) (f2 ys qy) (sm.trans s2) upd_same fun H4 s4 => ?_
    refine s_lcEnd (s4 _ _ (s2 _ _ eD)) (by rw [List.length_map, List.length_range]; omega) fun H5 b5 e5 => ⟨But.same b5 ((sm.trans s2).trans s4) nD, ?_⟩
    rw [map_range_succ]
    exact e5
  · have e : i = xs.length := by omega
    subst e
    exact .inl ⟨⟨xs, ys, qx, qy, Or.inl (Nat.le_refl _)⟩, hd D H' nD sm eD⟩
end
end Z
set_option maxHeartbeats 2000000
namespace CmK
open PySem PySem.Spec PyProof.Rows L2
abbrev cT : String := "itertools.combinations"
theorem mro_c : mroOf (.type cT) = pure [.type cT, .type "object"] := by rw [mroOf_type]; kernel_rfl
theorem lookup_new : typeLookup (.type cT) "__new__" = pure (some (.builtin "itertools.combinations.__new__")) := by rw [typeLookup_type, builtinLookup_eq_fast]; kernel_rfl
theorem slot_init : Slot cT "__init__" "object.__init__" :=
  .of (owner := "object") (n := "__init__") (by rw [typeLookup_type, builtinLookup_eq_fast]; kernel_rfl) (by decide +kernel) (by decide +kernel) (by decide +kernel)
    (by first | exact .inl (by decide +kernel) | exact .inr (by decide +kernel)) (by rw [isSubtype_type]; kernel_rfl)
theorem sub_c : isSubtype (.type cT) (.type cT) = pure true := by rw [isSubtype_type]; kernel_rfl
theorem called_c : TypeCalled cT "itertools.combinations.__new__" "object.__init__" :=
  ⟨by decide +kernel, by decide +kernel, ⟨_, _, mro_c⟩, madeBy_type mro_c lookup_new (by decide +kernel), by decide +kernel, sub_c, slot_init⟩
theorem typeCall_2 (a b : Value) : checkTypeCall cT ⟨[a, b], []⟩ = pure () := by kernel_rfl
theorem newCall_2 (a b : Value) : checkBuiltinCall "itertools.combinations.__new__" ⟨[.type cT, a, b], []⟩ = pure () := by kernel_rfl
theorem entry_new : entryFor table "itertools.combinations.__new__" = some Builtin.«itertools.combinations.__new__» := entryFor_of_tree (by kernel_rfl)
theorem slot_iter : Slot cT "__iter__" "itertools.combinations.__iter__" :=
  .of (owner := cT) (n := "__iter__") (by rw [typeLookup_type, builtinLookup_eq_fast]; kernel_rfl) (by decide +kernel) (by decide +kernel) (by decide +kernel)
    (by first | exact .inl (by decide +kernel) | exact .inr (by decide +kernel)) sub_c
theorem slot_next : Slot cT "__next__" "itertools.combinations.__next__" :=
  .of (owner := cT) (n := "__next__") (by rw [typeLookup_type, builtinLookup_eq_fast]; kernel_rfl) (by decide +kernel) (by decide +kernel) (by decide +kernel)
    (by first | exact .inl (by decide +kernel) | exact .inr (by decide +kernel)) sub_c
theorem entry_iter : entryFor table "itertools.combinations.__iter__" = some Builtin.«dict_keyiterator.__iter__» :=
  entryFor_alias (id' := "dict_keyiterator.__iter__") (by kernel_rfl) (by first | rfl | decide +kernel | (unfold String.splitOn; simp +decide [String.splitOnAux])) (by decide +kernel) (by kernel_rfl)
theorem entry_next : entryFor table "itertools.combinations.__next__" = some Builtin.«itertools.combinations.__next__» := entryFor_of_tree (by kernel_rfl)
theorem owner_c : Manifest.owners.lookup (String.ofList ['s', 'n', 'o', 'i', 't', 'a', 'n', 'i', 'b', 'm', 'o', 'c', '.', 's', 'l', 'o', 'o', 't', 'r', 'e', 't', 'i'].reverse) = some Manifest.sig_itertools_combinations := by kernel_rfl
theorem args_iter (a : Value) : argsOk "itertools.combinations.__iter__" ⟨[a], []⟩ := by
  unfold argsOk; rw [signature?_of (id := "itertools.combinations.__iter__") (n := ['_', '_', 'r', 'e', 't', 'i', '_', '_']) (o := ['s', 'n', 'o', 'i', 't', 'a', 'n', 'i', 'b', 'm', 'o', 'c', '.', 's', 'l', 'o', 'o', 't', 'r', 'e', 't', 'i']) (by kernel_rfl) owner_c]; kernel_rfl
theorem args_next (a : Value) : argsOk "itertools.combinations.__next__" ⟨[a], []⟩ := by
  unfold argsOk; rw [signature?_of (id := "itertools.combinations.__next__") (n := ['_', '_', 't', 'x', 'e', 'n', '_', '_']) (o := ['s', 'n', 'o', 'i', 't', 'a', 'n', 'i', 'b', 'm', 'o', 'c', '.', 's', 'l', 'o', 'o', 't', 'r', 'e', 't', 'i']) (by kernel_rfl) owner_c]; kernel_rfl
theorem noDict : typeHasDict (.type cT) = false := by decide +kernel

/-- a combinations object: its pool, how far it is, what it gave last, its places -/
abbrev IsC (h : Heap) (it pool : Addr) (st : Int) (last : Value) (idx : List Nat) : Prop :=
  h.get? it = some { cls := .type cT, dict := none, data := .fields ([.ref pool, rawInt st, last] ++ idx.map fun (i : Nat) => rawInt i).toArray, slots := #[] }
abbrev IsPool (h : Heap) (pool : Addr) (us : List Value) : Prop := h.get? pool = some { cls := .type "tuple", data := .seq us.toArray }

end CmK
set_option maxHeartbeats 2000000
namespace CmK
open PySem PySem.Spec PyProof.Rows L2
theorem bindNamed2 (a b : Value) : Builtin.Itertools.itBindNamed "combinations" ["iterable", "r"] 2 2 [a, b] [] = pure [some a, some b] := by kernel_rfl
theorem asIndex_int (i : Int) (t : Tok) : asIndex (.int i t) = pure i := by kernel_rfl
theorem catc : ("itertools." ++ "combinations" : String) = cT := by decide +kernel
section
variable {prog : Program} {w : World} {A : Around} {E : Value → Shared → Prop} {s : Shared}
theorem ssize_int {i : Int} {t : Tok} {Q : Int → Shared → Prop} (h0 : 0 ≤ i) (h1 : i < 1000000) (h : Q i s) : wpAny (model prog w) A (Builtin.Itertools.itSsizeArg (.int i t)) Q E s := by
  unfold Builtin.Itertools.itSsizeArg
  rw [asIndex_int]
  refine wpAny_bind (wpAny_pure ?_)
  have a : decide (i < -(2 ^ 63 : Int)) = false := decide_eq_false (by omega)
  have b : decide (i ≥ (2 ^ 63 : Int)) = false := decide_eq_false (by omega)
  rw [a, b]
  exact wpAny_pure h
theorem classRest {a b : Value} {Q : Value × List Value → Shared → Prop} (h : Q (.type cT, [a, b]) s) : wpAny (model prog w) A (Builtin.Itertools.itClassAndRest "combinations" ⟨[.type cT, a, b], []⟩) Q E s := by
  have hsub : isSubtype (.type cT) (.type ("itertools." ++ "combinations")) = pure true := by rw [catc]; exact sub_c
  unfold Builtin.Itertools.itClassAndRest
  repeat wp_step
  exact h
theorem new_comb {l : Addr} {us : List Value} {r : Nat} {t : Tok} {Q : Fin → Shared → Prop} (hr : r ≤ us.length) (hz : us.length ≤ 1000) (hl : s.heap.IsList l us.toArray)
    (hQ : ∀ (h1 h' : Heap), (∀ b o, s.heap.get? b = some o → h1.get? b = some o) → (∀ b o, h1.get? b = some o → h'.get? b = some o) → IsPool h' h1.objs.size us → IsC h' (h1.objs.size + 1) h1.objs.size 0 .none (List.range r) → Q (.done (.ret (.ref (h1.objs.size + 1)))) { s with heap := h' }) :
    wpAny (model prog w) A (Builtin.«itertools.combinations.__new__» ⟨[.type cT, .ref l, .int (r : Nat) t], []⟩) Q E s := by
  obtain ⟨o, ho, hc, n, hd⟩ := id hl
  have line : (100000 : Nat) < sizeLine := by decide
  unfold Builtin.«itertools.combinations.__new__»
  refine wpAny_bind ?_
  wp_delta
  refine wpAny_bind (classRest ?_)
  dsimp only
  rw [bindNamed2]
  refine wpAny_bind (wpAny_pure ?_)
  dsimp only
  refine wpAny_bind (ssize_int (by omega) (by omega) ?_)
  refine wpAny_bind (wpAny_collect_seq l (.inl rfl) ho hc hd (fun h1 k1 => ?_) (by rw [List.size_toArray]; omega))
  refine wpAny_ite_false (decide_eq_false (by omega)) ?_
  have tm : Builtin.Itertools.itTooMany (r : Nat) = false := by
    unfold Builtin.Itertools.itTooMany
    exact decide_eq_false (by omega)
  dsimp only
  rw [tm]
  simp only [Bool.false_eq_true, if_false]
  refine wpAny_bind (wpAny_newTuple (wpAny_pure ?_) (by omega))
  dsimp only
  have nr : ¬ ((r : Int).toNat > us.length) := by omega
  rw [if_neg nr, Int.toNat_natCast]
  refine wpAny_bind ?_
  unfold Builtin.Itertools.itNewRecord
  rw [noDict]
  refine wpAny_ite_true rfl ?_
  refine wpAny_newObj_type ?_ ?_
  · refine wpAny_pure ?_
    have hP : (h1.push { cls := .type "tuple", data := .seq us.toArray }).get? h1.objs.size = some { cls := .type "tuple", data := .seq us.toArray } := Heap.get?_push_size _ rfl
    have hC : ((h1.push { cls := .type "tuple", data := .seq us.toArray }).push ({ cls := .type cT, dict := none, data := .fields ([.ref h1.objs.size, rawInt 0, Value.none] ++ (List.range r).map fun (i : Nat) => rawInt i).toArray, slots := #[] } : Obj)).get? (h1.push { cls := .type "tuple", data := .seq us.toArray }).objs.size = some _ := Heap.get?_push_size _ rfl
    show Q (.done (.ret (.ref (h1.push { cls := .type "tuple", data := .seq us.toArray }).objs.size))) _
    rw [Heap.size_push] at hC ⊢
    exact hQ h1 _ k1 (fun b o q => Heap.get?_push_of_some _ (Heap.get?_push_of_some _ q)) (Heap.get?_push_of_some _ hP) hC
  · show _ ≤ _
    simp only [List.size_toArray, List.length_append, List.length_map, List.length_range, List.length_cons, List.length_nil]
    omega
theorem meets_new (l : Addr) (us : List Value) (r : Nat) (t : Tok) (hr : r ≤ us.length) (hz : us.length ≤ 1000) :
    Meets (Builtin.«itertools.combinations.__new__» ⟨[.type cT, .ref l, .int (r : Nat) t], []⟩)
      (fun _ R s => s.heap.IsList l us.toArray ∧ ∀ (h1 h' : Heap), (∀ b o, s.heap.get? b = some o → h1.get? b = some o) → (∀ b o, h1.get? b = some o → h'.get? b = some o) → IsPool h' h1.objs.size us → IsC h' (h1.objs.size + 1) h1.objs.size 0 .none (List.range r) →
        R (.ok (.ret (.ref (h1.objs.size + 1)))) { s with heap := h' }) :=
  .of_wp fun prog w A R s ⟨hl, h⟩ => new_comb hr hz hl fun h1 h' a b c d => ⟨_, rfl, h h1 h' a b c d⟩
theorem call_comb {l : Addr} {us : List Value} {r : Nat} {t : Tok} {Q : Value → Shared → Prop} (hr : r ≤ us.length) (hz : us.length ≤ 1000) (hl : s.heap.IsList l us.toArray)
    (hQ : ∀ (h1 h' : Heap), (∀ b o, s.heap.get? b = some o → h1.get? b = some o) → (∀ b o, h1.get? b = some o → h'.get? b = some o) → IsPool h' h1.objs.size us → IsC h' (h1.objs.size + 1) h1.objs.size 0 .none (List.range r) → Q (.ref (h1.objs.size + 1)) { s with heap := h' }) :
    wpAny (model prog w) A (call (.type cT) [.ref l, .int (r : Nat) t]) Q E s := by
  refine callType_new called_c (by decide +kernel) (typeCall_2 _ _) (newCall_2 _ _) (fun obj => F.args_object_init_3 obj _ _) entry_new (meets_new l us r t hr hz) ⟨hl, fun h1 h' a b c d => ?_⟩
  exact ⟨⟨_, d, rfl⟩, hQ h1 h' a b c d⟩
theorem iter_comb {it P : Addr} {st : Int} {la : Value} {ix : List Nat} {Q : Value → Shared → Prop} (hit : IsC s.heap it P st la ix) (h : Q (.ref it) s) : wpAny (model prog w) A (pyIter (.ref it)) Q E s := by
  have hT : s.TypeIs (.ref it) cT := ⟨_, hit, rfl⟩
  refine wpAny_pyIter_slot hT slot_iter (wpAny_call_entry slot_iter hT entry_iter ?_ (args_iter _))
  show wpAny _ _ (ret (.ref it)) _ _ s
  exact wpAny_pure ⟨_, rfl, cT, _, hT, slot_next.lookup, h⟩
theorem numbers {it P : Addr} {st : Int} {la : Value} {ix : List Nat} {Q : List Nat → Shared → Prop} (hit : IsC s.heap it P st la ix) (h : Q ix s) : wpAny (model prog w) A (Builtin.Itertools.itNumbersFrom (.ref it) 3) Q E s := by
  unfold Builtin.Itertools.itNumbersFrom
  dsimp only
  refine wpAny_bind (wpAny_load hit ?_)
  dsimp only
  refine wpAny_pure ?_
  have e : ∀ ix : List Nat, (([Value.ref P, rawInt st, la] ++ ix.map fun (i : Nat) => rawInt i).drop 3).map (fun | .int n _ => n.toNat | _ => 0) = ix := by
    intro ix
    simp only [List.cons_append, List.nil_append, List.drop_succ_cons, List.drop_zero, List.map_map]
    induction ix with
    | nil => rfl
    | cons a t ih =>
      rw [List.map_cons, ih]
      exact congrArg (· :: t) (Int.toNat_natCast a)
  exact (congrArg (fun z => Q z s) (e ix)).mpr h
theorem setK {it P : Addr} {st : Int} {la x : Value} {ix : List Nat} {Q : Unit → Shared → Prop} (hit : IsC s.heap it P st la ix) (h : ∀ h', IsC h' it P st x ix → Heap.SameBut it s.heap h' → Q () { s with heap := h' }) : wpAny (model prog w) A (setField (.ref it) 2 x) Q E s :=
  wpAny_setField_rec hit (by simp) fun h' e sb => h h' (by rw [List.setIfInBounds_toArray] at e; exact e) sb
theorem setS {it P : Addr} {st st' : Int} {la : Value} {ix : List Nat} {Q : Unit → Shared → Prop} (hit : IsC s.heap it P st la ix) (h : ∀ h', IsC h' it P st' la ix → Heap.SameBut it s.heap h' → Q () { s with heap := h' }) : wpAny (model prog w) A (setField (.ref it) 1 (rawInt st')) Q E s :=
  wpAny_setField_rec hit (by simp) fun h' e sb => h h' (by rw [List.setIfInBounds_toArray] at e; exact e) sb
theorem setN {it P : Addr} {st : Int} {la : Value} {ix ix' : List Nat} {Q : Unit → Shared → Prop} (hz : ix'.length ≤ 1000) (hit : IsC s.heap it P st la ix) (h : ∀ h', IsC h' it P st la ix' → Heap.SameBut it s.heap h' → Q () { s with heap := h' }) : wpAny (model prog w) A (Builtin.Itertools.itSetNumbersFrom (.ref it) 3 ix') Q E s := by
  have line : (100000 : Nat) < sizeLine := by decide
  unfold Builtin.Itertools.itSetNumbersFrom
  have e : ([Value.ref P, rawInt st, la] ++ ix.map fun (i : Nat) => rawInt i).toArray.extract 0 3 ++ (ix'.map fun (i : Nat) => rawInt i).toArray = ([Value.ref P, rawInt st, la] ++ ix'.map fun (i : Nat) => rawInt i).toArray := by
    simp
  refine wpAny_updateFields hit rfl (h _ ?_ (Heap.SameBut.update ..)) ?_
  · have z := Heap.get?_update_self (Obj.mapFields fun fs => fs.extract 0 3 ++ (ix'.map fun (n : Nat) => rawInt n).toArray) hit rfl
    refine z.trans ?_
    show some _ = some _
    rw [← e]
    rfl
  · rw [e]
    simp
    omega
theorem handOut {it P : Addr} {st : Int} {la : Value} {us : List Value} {ix : List Nat} {Q : Fin → Shared → Prop} (hne : P ≠ it) (hP : IsPool s.heap P us) (hit : IsC s.heap it P st la ix) (hz : ix.length ≤ 1000)
    (hQ : ∀ (h' : Heap), h'.get? s.heap.objs.size = some { cls := .type "tuple", data := .seq (ix.map fun i => us.getD i .none).toArray } → IsC h' it P st (.ref s.heap.objs.size) ix → (∀ b o, b ≠ it → s.heap.get? b = some o → h'.get? b = some o) → Q (.done (.ret (.ref s.heap.objs.size))) { s with heap := h' }) :
    wpAny (model prog w) A (do
      let result ← (do
        let items ← Builtin.Itertools.itPoolItems (.ref P)
        newTuple (ix.map fun i => items.getD i .none))
      let before ← field (.ref it) 2
      setField (.ref it) 2 result
      letGo [before] [result]
      ret result) Q E s := by
  have line : (100000 : Nat) < sizeLine := by decide
  refine wpAny_bind (wpAny_bind ?_)
  unfold Builtin.Itertools.itPoolItems
  refine wpAny_bind (wpAny_seqItems hP rfl (wpAny_pure ?_))
  refine wpAny_newTuple ?_ (by rw [List.length_map]; omega)
  have hit2 : IsC (s.heap.push { cls := .type "tuple", data := .seq (ix.map fun i => us.toArray.getD i .none).toArray }) it P st la ix := Heap.get?_push_of_some _ hit
  have hlt : it < s.heap.objs.size := Heap.lt_size hit
  refine wpAny_bind (wpAny_field hit2 rfl (x := la) rfl ?_)
  refine wpAny_bind (setK hit2 fun h' hit3 sb => ?_)
  refine wpAny_bind (wpAny_letGo (wpAny_pure ?_))
  have e : (ix.map fun i => us.toArray.getD i .none) = ix.map fun i => us.getD i .none := by
    refine List.map_congr_left fun i _ => ?_
    simp [Array.getD_eq_getD_getElem?, List.getD_eq_getElem?_getD]
  refine hQ h' ?_ hit3 fun b o hb q => (sb.2 b hb).trans (Heap.get?_push_of_some _ q)
  rw [← e]
  exact (sb.2 _ (Nat.ne_of_gt hlt)).trans (Heap.get?_push_size _ rfl)
theorem next_first {it P : Addr} {la : Value} {us : List Value} {ix : List Nat} {Q : Fin → Shared → Prop} (hne : P ≠ it) (hP : IsPool s.heap P us) (hit : IsC s.heap it P 0 la ix) (hz : ix.length ≤ 1000)
    (hQ : ∀ (h' : Heap), h'.get? s.heap.objs.size = some { cls := .type "tuple", data := .seq (ix.map fun i => us.getD i .none).toArray } → IsC h' it P 1 (.ref s.heap.objs.size) ix → (∀ b o, b ≠ it → s.heap.get? b = some o → h'.get? b = some o) → Q (.done (.ret (.ref s.heap.objs.size))) { s with heap := h' }) :
    wpAny (model prog w) A (Builtin.«itertools.combinations.__next__» ⟨[.ref it], []⟩) Q E s := by
  unfold Builtin.«itertools.combinations.__next__»
  wp_delta
  show wpAny _ _ (field (.ref it) 0 >>= _) _ _ s
  refine wpAny_bind (wpAny_field hit rfl (x := .ref P) rfl ?_)
  refine wpAny_bind (numbers hit ?_)
  show wpAny _ _ ((field (.ref it) 1 >>= _) >>= _) _ _ s
  refine wpAny_bind (wpAny_bind (wpAny_field hit rfl (x := .int 0 0) rfl (wpAny_pure ?_)))
  refine wpAny_bind (setS (st' := 1) hit fun h1 hit1 sb => ?_)
  have sz : h1.objs.size = s.heap.objs.size := sb.1
  refine handOut hne ((sb.2 _ hne).trans hP) hit1 hz fun h' a b c => ?_
  show Q (.done (.ret (.ref h1.objs.size))) _
  rw [show ({ s with heap := h1 } : Shared).heap.objs.size = s.heap.objs.size from sz] at a b
  rw [sz]
  exact hQ h' a b fun b o hb q => c b o hb ((sb.2 b hb).trans q)
/-- the model's next combination, by its own words -/
def nx (n : Nat) (ix : List Nat) : Option (List Nat) :=
  match (List.range ix.length).reverse.find? fun i => ix.getD i 0 != i + n - ix.length with
  | none => none
  | some i => some (ix.take i ++ (List.range (ix.length - i)).map (ix.getD i 0 + 1 + ·))
theorem next_more {it P : Addr} {la : Value} {us : List Value} {ix ix' : List Nat} {Q : Fin → Shared → Prop} (hn : nx us.length ix = some ix') (hne : P ≠ it) (hP : IsPool s.heap P us) (hit : IsC s.heap it P 1 la ix) (hz : ix'.length ≤ 1000)
    (hQ : ∀ (h' : Heap), h'.get? s.heap.objs.size = some { cls := .type "tuple", data := .seq (ix'.map fun i => us.getD i .none).toArray } → IsC h' it P 1 (.ref s.heap.objs.size) ix' → (∀ b o, b ≠ it → s.heap.get? b = some o → h'.get? b = some o) → Q (.done (.ret (.ref s.heap.objs.size))) { s with heap := h' }) :
    wpAny (model prog w) A (Builtin.«itertools.combinations.__next__» ⟨[.ref it], []⟩) Q E s := by
  unfold Builtin.«itertools.combinations.__next__»
  wp_delta
  show wpAny _ _ (field (.ref it) 0 >>= _) _ _ s
  refine wpAny_bind (wpAny_field hit rfl (x := .ref P) rfl ?_)
  refine wpAny_bind (numbers hit ?_)
  show wpAny _ _ ((field (.ref it) 1 >>= _) >>= _) _ _ s
  refine wpAny_bind (wpAny_bind (wpAny_field hit rfl (x := .int 1 0) rfl (wpAny_pure ?_)))
  show wpAny _ _ (Builtin.Itertools.itPoolItems (.ref P) >>= _) _ _ s
  refine wpAny_bind ?_
  unfold Builtin.Itertools.itPoolItems
  refine wpAny_bind (wpAny_seqItems hP rfl (wpAny_pure ?_))
  show wpAny _ _ (match nx us.length ix with | some next => _ | none => _) _ _ s
  rw [hn]
  dsimp only
  refine wpAny_bind (setN hz hit fun h1 hit1 sb => ?_)
  have sz : h1.objs.size = s.heap.objs.size := sb.1
  refine handOut hne ((sb.2 _ hne).trans hP) hit1 hz fun h' a b c => ?_
  show Q (.done (.ret (.ref h1.objs.size))) _
  rw [show ({ s with heap := h1 } : Shared).heap.objs.size = s.heap.objs.size from sz] at a b
  rw [sz]
  exact hQ h' a b fun b o hb q => c b o hb ((sb.2 b hb).trans q)
theorem next_end {it P : Addr} {la : Value} {us : List Value} {ix : List Nat} {Q : Fin → Shared → Prop} (hh : A.handled = none) (hn : nx us.length ix = none) (hne : P ≠ it) (hP : IsPool s.heap P us) (hit : IsC s.heap it P 1 la ix)
    (hE : ∀ h' e, Heap.ExtBut it s.heap h' → (∃ o, h'.get? e = some o ∧ o.cls = .type "StopIteration") → E (.ref e) { s with heap := h' }) :
    wpAny (model prog w) A (Builtin.«itertools.combinations.__next__» ⟨[.ref it], []⟩) Q E s := by
  unfold Builtin.«itertools.combinations.__next__»
  wp_delta
  show wpAny _ _ (field (.ref it) 0 >>= _) _ _ s
  refine wpAny_bind (wpAny_field hit rfl (x := .ref P) rfl ?_)
  refine wpAny_bind (numbers hit ?_)
  show wpAny _ _ ((field (.ref it) 1 >>= _) >>= _) _ _ s
  refine wpAny_bind (wpAny_bind (wpAny_field hit rfl (x := .int 1 0) rfl (wpAny_pure ?_)))
  show wpAny _ _ (Builtin.Itertools.itPoolItems (.ref P) >>= _) _ _ s
  refine wpAny_bind ?_
  unfold Builtin.Itertools.itPoolItems
  refine wpAny_bind (wpAny_seqItems hP rfl (wpAny_pure ?_))
  show wpAny _ _ (match nx us.length ix with | some next => _ | none => _) _ _ s
  rw [hn]
  dsimp only
  refine wpAny_bind (setS (st' := 2) hit fun h1 hit1 sb => ?_)
  unfold Builtin.Itertools.itStop
  show wpAny _ _ (newExc (.type "StopIteration") [] >>= _) _ _ _
  refine wpAny_bind ?_
  simp only [newExc, newTuple]
  refine wpAny_bind (wpAny_newObj_type ?_ (by size_fits))
  refine wpAny_bind (m := firstArgMember _ _) (wpAny_of_eq (a := Value.none) (by first | rfl | (simp only [firstArgMember]; rfl)) ?_)
  refine wpAny_newObj_type ?_ (by size_fits)
  simp only [raiseNew]
  refine wpAny_bind (wpAny_handled ?_)
  first | rw [show A.in1.handled = none from hh] | rw [hh]
  refine wpAny_bind (wpAny_pure (wpAny_throw ?_))
  exact hE _ _ ((sb.extBut.push _).push _) ⟨_, Heap.get?_push_size _ rfl, rfl⟩
theorem pyNext_of {it P : Addr} {st : Int} {la : Value} {ix : List Nat} {Q : Option Value → Shared → Prop} (hit : IsC s.heap it P st la ix)
    (h : wpAny (model prog w) A.in1 (Builtin.«itertools.combinations.__next__» ⟨[.ref it], []⟩) (fun fin s' => ∃ v, fin = .done (.ret v) ∧ Q (some v) s')
      (fun e s' => (∃ a o, e = .ref a ∧ s'.heap.get? a = some o ∧ o.cls = .type "StopIteration") ∧ Q none s') s) : wpAny (model prog w) A (pyNext (.ref it)) Q E s := by
  have hT : s.TypeIs (.ref it) cT := ⟨_, hit, rfl⟩
  unfold pyNext
  refine wpAny_bind (wpAny_attempt (wpAny_callSpecial?_slot (name := Str.ofString "__next__") hT slot_next (wpAny_call_entry slot_next hT entry_next (wpAny_mono h (fun fin s' hq => ?_) fun e s' he => ?_) (args_next _))))
  · obtain ⟨v, rfl, hq⟩ := hq
    exact ⟨v, rfl, wpAny_pure hq⟩
  · obtain ⟨⟨a, o, rfl, ho, hc⟩, hq⟩ := he
    refine wpAny_bind (wpAny_isInstance (T := "StopIteration") (b := true) ⟨o, ho, hc⟩ isSubtype_stop ?_)
    exact wpAny_pure hq
end
end CmK
set_option maxHeartbeats 2000000
namespace CmK
open PySem PySem.Spec PyProof.Rows L2
theorem nx_len {n : Nat} {ix ix' : List Nat} (h : nx n ix = some ix') : ix'.length = ix.length := by
  unfold nx at h
  split at h
  · cases h
  · next i e =>
    have hm := List.mem_of_find?_eq_some e
    have hi : i < ix.length := by simpa using hm
    cases h
    simp only [List.length_append, List.length_take, List.length_map, List.length_range]
    omega
/-- the combination at turn i, of n items r -/
def cAt (n r : Nat) : Nat → Option (List Nat)
  | 0 => some (List.range r)
  | i + 1 => (cAt n r i).bind (nx n)
theorem cAt_len {n r : Nat} : ∀ {i : Nat} {c : List Nat}, cAt n r i = some c → c.length = r
  | 0, c, h => by
    cases h
    exact List.length_range
  | i + 1, c, h => by
    obtain ⟨b, hb, hc⟩ := Option.bind_eq_some_iff.mp h
    rw [nx_len hc, cAt_len hb]
def ItC (xs : List V) (r : Nat) : It :=
  ⟨fun i _ => (cAt xs.length r i).isSome = true,
   fun i H v H' => ∃ T c, cAt xs.length r i = some c ∧ v = .ref T ∧ H T = none ∧ H' = upd H T (.tup (c.map fun k => xs.getD k .non)),
   fun i _ => cAt xs.length r i = none⟩
theorem vals_getD {xs : List V} {us : List Value} (h : Vals xs us) (k : Nat) : RelV (xs.getD k .non) (us.getD k .none) := by
  induction h generalizing k with
  | nil => rfl
  | cons a t ih =>
    cases k with
    | zero => exact a
    | succ k => exact ih k
theorem vals_pick {xs : List V} {us : List Value} (h : Vals xs us) : ∀ c : List Nat, Vals (c.map fun k => xs.getD k .non) (c.map fun k => us.getD k .none)
  | [] => .nil
  | k :: c => .cons (vals_getD h k) (vals_pick h c)
/-- how the object stands ahead of turn i -/
def AtC (n r : Nat) (it P : Addr) (us : List Value) (i : Nat) (h : Heap) : Prop :=
  IsPool h P us ∧ ((i = 0 ∧ ∃ la, IsC h it P 0 la (List.range r)) ∨ ∃ j c la, i = j + 1 ∧ cAt n r j = some c ∧ IsC h it P 1 la c)
theorem AtC.obj {n r : Nat} {it P : Addr} {us : List Value} {i : Nat} {h : Heap} (a : AtC n r it P us i h) : ∃ st la ix, IsC h it P st la ix := by
  rcases a.2 with ⟨_, la, c⟩ | ⟨j, c, la, _, _, q⟩
  · exact ⟨_, _, _, c⟩
  · exact ⟨_, _, _, q⟩
theorem turn_comb {Pr : Program} {w : World} {K : PySem.W.Frag} {tg : Expr} {it P : Addr} {xs : List V} {us : List Value} {r : Nat} (hv : Vals xs us) (hne : P ≠ it) (hr : r ≤ 1000) :
    Turn Pr w K tg (ItC xs r) [it, P] it (AtC xs.length r it P us) where
  mem := by simp
  obj := fun i h st b hb => by
    obtain ⟨st', la, ix, q⟩ := st.obj
    have e : b = it ∨ b = P := by simpa using hb
    rcases e with e | e
    · rw [e]; exact ⟨_, q, fun v z => nomatch z⟩
    · rw [e]; exact ⟨_, st.1, fun v z => nomatch z⟩
  keep := fun i h h' st k => by
    obtain ⟨hp, q⟩ := st
    refine ⟨k P (by simp) _ hp, ?_⟩
    rcases q with ⟨e, la, c⟩ | ⟨j, c, la, e, hc, q⟩
    · exact .inl ⟨e, la, k it (by simp) _ c⟩
    · exact .inr ⟨j, c, la, e, hc, k it (by simp) _ q⟩
  item := by
    intro X hP hw hK hcalm i pins s σ H E I hf st hg
    subst hP hw hK
    have line : (100000 : Nat) < sizeLine := by decide
    obtain ⟨c, hc⟩ := Option.isSome_iff_exists.mp hg
    have hl : us.length = xs.length := hv.length.symm
    have cl : c.length = r := cAt_len hc
    obtain ⟨st', la, ix, q0⟩ := st.obj
    have key : wpAny (model X.prog X.w) X.A (pyNext (.ref it)) (fun o s1 => ∃ h', o = some (.ref s.heap.objs.size) ∧ s1 = { s with heap := h' } ∧ h'.get? s.heap.objs.size = some { cls := .type "tuple", data := .seq (c.map fun i => us.getD i .none).toArray } ∧ IsC h' it P 1 (.ref s.heap.objs.size) c ∧ (∀ b o, b ≠ it → s.heap.get? b = some o → h'.get? b = some o)) E s := by
      refine pyNext_of q0 ?_
      rcases st.2 with ⟨e, la, q⟩ | ⟨j, c0, la, e, hc0, q⟩
      · subst e
        have ec : List.range r = c := Option.some.inj hc
        subst ec
        exact next_first hne st.1 q (by omega) fun h' a b k => ⟨_, rfl, h', rfl, rfl, a, b, k⟩
      · subst e
        have hn : nx us.length c0 = some c := by
          rw [hl]
          have z : (cAt xs.length r j).bind (nx xs.length) = some c := hc
          rw [hc0] at z
          exact z
        exact next_more hn hne st.1 q (by omega) fun h' a b k => ⟨_, rfl, h', rfl, rfl, a, b, k⟩
    refine wpAny_mono key (fun o s1 ⟨h', eo, es, a, b, k⟩ => ?_) fun _ _ z => z
    subst eo es
    refine ⟨_, rfl, go_of (s := { s with heap := h' }) (n := cT) b rfl rfl (by decide) ?_⟩
    have hlt : it < s.heap.objs.size := Heap.lt_size q0
    have hltP : P < s.heap.objs.size := Heap.lt_size st.1
    have new : ObjOk X.prog X.w (upd H s.heap.objs.size (.tup (c.map fun k => xs.getD k .non))) h' s.heap.objs.size (.tup (c.map fun k => xs.getD k .non)) :=
      ⟨by show (c.map _).length ≤ sizeLine
          rw [List.length_map]; omega, _, vals_pick hv c, ⟨_, a, rfl, _, rfl⟩⟩
    have I1 : Inv X pins σ (upd H s.heap.objs.size (.tup (c.map fun k => xs.getD k .non))) { s with heap := h' } :=
      I.turnedNew (t' := s.toks) (ch := [it, P]) (fun b o hb q => k b o (fun z => hb (by simp [z])) q) hf (Nat.le_refl _) new
    refine ⟨.ref s.heap.objs.size, _, I1, rfl, ⟨_, c, hc, rfl, I.hok.fresh (Nat.le_refl _), rfl⟩, ⟨k P _ hne st.1, .inr ⟨i, c, _, rfl, hc, b⟩⟩, fun b hb => ?_⟩
    have e : b = it ∨ b = P := by simpa using hb
    rw [upd_ne (by rcases e with e | e <;> rw [e] <;> exact Nat.ne_of_lt (by assumption))]
    exact (hf b hb).1
  done := by
    intro X hP hw hK hcalm i pins s σ H E I hf st hg
    subst hP hw hK
    have hl : us.length = xs.length := hv.length.symm
    obtain ⟨st', la0, ix, q0⟩ := st.obj
    refine pyNext_of q0 ?_
    rcases st.2 with ⟨e, la, q⟩ | ⟨j, c0, la, e, hc0, q⟩
    · subst e
      cases hg
    · subst e
      have hn : nx us.length c0 = none := by
        rw [hl]
        have z : (cAt xs.length r j).bind (nx xs.length) = none := hg
        rw [hc0] at z
        exact z
      refine next_end (I.ok.hd hcalm) hn hne st.1 q fun h' e eb ⟨o, ho, hc⟩ => ⟨⟨e, o, rfl, ho, hc⟩, rfl, ?_⟩
      exact I.turnedL (t' := s.toks) (ch := [it, P]) (fun b o hb q => eb b o (fun z => hb (by simp [z])) q) hf
  self := fun A i s Q E st h => by
    obtain ⟨st', la, ix, q⟩ := st.obj
    exact iter_comb q h
def iComb (K : PySem.W.Frag) (ta : TA) : TI := fun σ H R => ta σ H fun vs H1 => ∃ (a : Addr) (xs : List V) (r : Nat), vs = [.ref a, .int r] ∧ SqL K H1 a xs ∧ r ≤ xs.length ∧ xs.length ≤ 1000 ∧ R (ItC xs r) H1
theorem pi_comb {X : Cx} {tg e e2 : Expr} {ta : TA} {p pos : Pos} (hg : Gl X "combinations") (hm : X.mg "combinations" = some (.type cT)) (ha : PA X [e, e2] ta)
    (hs : starEach [e, e2] X.env = (false, eval e X.env) :: starEach [e2] X.env := by rfl) (hpl : (backTo pos (starEach [e2] X.env)).any (·.1) = false := by rfl) :
    PI X tg (.Call (.Name "combinations" p) [e, e2] [] pos) (iComb X.K ta) := by
  refine ⟨fun pins s σ H R I h => ?_⟩
  refine Call_ (ld_glob I hg hm (PyProof.Rows.callWith_type1 (thn (ha.run pos pins s σ H _ I h) fun us s1 ⟨vs, H1, I1, r1, q1⟩ => ?_) hs hpl))
  obtain ⟨a, xs, r, ex, hq, hr, hz, q⟩ := q1
  subst ex
  cases r1 with
  | cons ra rr =>
    cases rr with
    | cons rb rr =>
      cases rr
      cases ra
      obtain ⟨t, rfl⟩ := rb
      obtain ⟨its, rv, p1, _⟩ := I1.list hq
      have hl := rv.length
      refine call_comb (us := its) (by omega) (by omega) (by simpa using p1.isList) fun h1 h' k1 k2 hP hC => ?_
      refine iter_comb hC ?_
      have I2 : Inv X pins σ H1 { s1 with heap := h1 } := I1.kept (t' := s1.toks) k1
      have I3 : Inv X pins σ H1 { s1 with heap := h' } := I2.kept (t' := s1.toks) k2
      refine ⟨h1.objs.size + 1, [h1.objs.size + 1, h1.objs.size], _, _, H1, rfl, I3, turn_comb rv (Nat.ne_of_lt (Nat.lt_succ_self _)) (by omega), ⟨hP, .inl ⟨rfl, _, hC⟩⟩, fun b hb => ?_, q⟩
      have e : b = h1.objs.size + 1 ∨ b = h1.objs.size := by simpa using hb
      have hle : ({ s1 with heap := h1 } : Shared).heap.objs.size ≤ b := by
        rcases e with e | e
        · rw [e]; exact Nat.le_succ _
        · rw [e]; exact Nat.le_refl _
      exact I2.fpOk hle (I2.hok.fresh hle)
end CmK
set_option maxHeartbeats 2000000
namespace CmK
open PySem PySem.Spec PyProof.Rows L2
/-- ascending places from lo on, below n -/
def Ok (n : Nat) : Nat → List Nat → Prop
  | _, [] => True
  | lo, a :: x => lo ≤ a ∧ a < n ∧ Ok n (a + 1) x
def LtL : List Nat → List Nat → Prop
  | a :: x, b :: y => a < b ∨ (a = b ∧ LtL x y)
  | _, _ => False
theorem Ok.mono {n : Nat} : ∀ {lo lo' : Nat} {c : List Nat}, Ok n lo c → lo' ≤ lo → Ok n lo' c
  | _, _, [], _, _ => trivial
  | _, _, a :: x, ⟨h1, h2, h3⟩, hl => ⟨Nat.le_trans hl h1, h2, h3⟩
theorem Ok.len {n : Nat} : ∀ {lo : Nat} {c : List Nat}, Ok n lo c → c ≠ [] → lo + c.length ≤ n
  | _, [], _, h => absurd rfl h
  | lo, [a], ⟨h1, h2, _⟩, _ => by show lo + 1 ≤ n; omega
  | lo, a :: b :: x, ⟨h1, h2, h3⟩, _ => by
    have := Ok.len h3 (by simp)
    simp only [List.length_cons] at this ⊢
    omega
theorem Ok.lt {n : Nat} : ∀ {lo : Nat} {c : List Nat}, Ok n lo c → ∀ k ∈ c, lo ≤ k ∧ k < n
  | _, [], _, k, h => by cases h
  | lo, a :: x, ⟨h1, h2, h3⟩, k, h => by
    rcases List.mem_cons.mp h with e | e
    · subst e; exact ⟨h1, h2⟩
    · have := Ok.lt h3 k e
      omega
theorem Ok.nodup {n : Nat} : ∀ {lo : Nat} {c : List Nat}, Ok n lo c → c.Nodup
  | _, [], _ => .nil
  | lo, a :: x, ⟨h1, h2, h3⟩ => List.nodup_cons.mpr ⟨fun hm => by have := Ok.lt h3 a hm; omega, Ok.nodup h3⟩
theorem ok_from {n : Nat} : ∀ {r lo : Nat}, lo + r ≤ n → Ok n lo ((List.range r).map (lo + ·))
  | 0, _, _ => trivial
  | r + 1, lo, h => by
    rw [List.range_succ_eq_map, List.map_cons, List.map_map]
    refine ⟨Nat.le_refl _, by simp; omega, ?_⟩
    have e : (List.range r).map ((lo + ·) ∘ Nat.succ) = (List.range r).map (lo + 0 + 1 + ·) := List.map_congr_left fun i _ => by show lo + (i + 1) = lo + 0 + 1 + i; omega
    rw [e]
    exact ok_from (by omega)
theorem first_le {n : Nat} : ∀ {r lo : Nat} {d : List Nat}, Ok n lo d → d.length = r → d = (List.range r).map (lo + ·) ∨ LtL ((List.range r).map (lo + ·)) d
  | 0, lo, d, _, h => .inl (by rw [List.length_eq_zero_iff.mp h]; rfl)
  | r + 1, lo, [], _, h => by cases h
  | r + 1, lo, b :: y, ⟨h1, h2, h3⟩, h => by
    have e : (List.range (r + 1)).map (lo + ·) = lo :: (List.range r).map (lo + 1 + ·) := by
      rw [List.range_succ_eq_map, List.map_cons, List.map_map]
      exact congrArg _ (List.map_congr_left fun i _ => by show lo + (i + 1) = lo + 1 + i; omega)
    rw [e]
    by_cases hb : lo = b
    · subst hb
      rcases first_le h3 (by simpa using h) with e | e
      · exact .inl (by rw [e])
      · exact .inr (.inr ⟨rfl, e⟩)
    · exact .inr (.inl (by omega))
theorem nx_cons (n a : Nat) (x : List Nat) : nx n (a :: x) = match nx n x with
    | some x' => some (a :: x')
    | none => if a = n - (x.length + 1) then none else some ((List.range (x.length + 1)).map (a + 1 + ·)) := by
  have hf : (List.range (x.length + 1)).reverse.find? (fun i => (a :: x).getD i 0 != i + n - (x.length + 1)) =
      match (List.range x.length).reverse.find? (fun i => x.getD i 0 != i + n - x.length) with
      | some i => some (i + 1)
      | none => if a = n - (x.length + 1) then none else some 0 := by
    rw [List.range_succ_eq_map, List.reverse_cons, List.find?_append, ← List.map_reverse, List.find?_map]
    have e : ((fun i => (a :: x).getD i 0 != i + n - (x.length + 1)) ∘ Nat.succ) = fun i => x.getD i 0 != i + n - x.length := by
      funext i
      show ((a :: x).getD (i + 1) 0 != i + 1 + n - (x.length + 1)) = _
      rw [List.getD_cons_succ, show i + 1 + n - (x.length + 1) = i + n - x.length by omega]
    rw [e]
    cases (List.range x.length).reverse.find? (fun i => x.getD i 0 != i + n - x.length) with
    | some i => rfl
    | none =>
      rw [Option.map_none, Option.none_or, List.find?_cons]
      by_cases h : a = n - (x.length + 1)
      · rw [if_pos h]
        have : ((a :: x).getD 0 0 != 0 + n - (x.length + 1)) = false := by
          rw [List.getD_cons_zero, Nat.zero_add, ← h]; simp
        rw [this]; rfl
      · rw [if_neg h]
        have : ((a :: x).getD 0 0 != 0 + n - (x.length + 1)) = true := by
          rw [List.getD_cons_zero, Nat.zero_add]; simpa using h
        rw [this]
  unfold nx
  rw [List.length_cons, hf]
  cases (List.range x.length).reverse.find? (fun i => x.getD i 0 != i + n - x.length) with
  | some i =>
    simp only [List.take_succ_cons, List.getD_cons_succ, Nat.add_sub_add_right, List.cons_append]
  | none =>
    simp only
    by_cases h : a = n - (x.length + 1)
    · simp only [if_pos h]
    · simp only [if_neg h, List.take_zero, List.nil_append, List.getD_cons_zero, Nat.sub_zero]
theorem nx_spec {n : Nat} : ∀ {c : List Nat} {lo : Nat}, Ok n lo c →
    (∀ c', nx n c = some c' → Ok n lo c' ∧ LtL c c' ∧ ∀ d, Ok n lo d → d.length = c.length → LtL c d → d = c' ∨ LtL c' d) ∧ (nx n c = none → ∀ d, Ok n lo d → d.length = c.length → ¬ LtL c d)
  | [], lo, _ => ⟨fun c' h => (by cases h), fun _ d _ hl h => by cases d <;> exact h⟩
  | a :: x, lo, ⟨h1, h2, h3⟩ => by
    obtain ⟨ih1, ih2⟩ := nx_spec h3
    have hlen := Ok.len (c := a :: x) (n := n) (lo := a) ⟨Nat.le_refl _, h2, h3⟩ (by simp)
    rw [List.length_cons] at hlen
    rw [nx_cons]
    cases e : nx n x with
    | some x' =>
      obtain ⟨q1, q2, q3⟩ := ih1 x' e
      refine ⟨fun c' h => ?_, fun h => nomatch h⟩
      cases h
      refine ⟨⟨h1, h2, q1⟩, .inr ⟨rfl, q2⟩, fun d hd hl hlt => ?_⟩
      cases d with
      | nil => cases hl
      | cons b y =>
        obtain ⟨d1, d2, d3⟩ := hd
        rcases hlt with z | ⟨z, z2⟩
        · exact .inr (.inl z)
        · subst z
          rcases q3 y d3 (by simpa using hl) z2 with w | w
          · exact .inl (by rw [w])
          · exact .inr (.inr ⟨rfl, w⟩)
    | none =>
      have no := ih2 e
      by_cases h : a = n - (x.length + 1)
      · rw [if_pos h]
        refine ⟨fun c' h => (nomatch h), fun _ d hd hl hlt => ?_⟩
        cases d with
        | nil => cases hl
        | cons b y =>
          obtain ⟨d1, d2, d3⟩ := hd
          have hy : y.length = x.length := by simpa using hl
          rcases hlt with z | ⟨z, z2⟩
          · have := Ok.len (c := b :: y) (n := n) (lo := b) ⟨Nat.le_refl _, d2, d3⟩ (by simp)
            rw [List.length_cons] at this
            omega
          · subst z
            exact no y d3 hy z2
      · rw [if_neg h]
        refine ⟨fun c' hc => ?_, fun h => nomatch h⟩
        cases hc
        refine ⟨(ok_from (by omega)).mono (by omega), ?_, fun d hd hl hlt => ?_⟩
        · rw [List.range_succ_eq_map, List.map_cons]
          exact .inl (by show a < a + 1 + 0; omega)
        · cases d with
          | nil => cases hl
          | cons b y =>
            obtain ⟨d1, d2, d3⟩ := hd
            have hy : y.length = x.length := by simpa using hl
            rcases hlt with z | ⟨z, z2⟩
            · exact first_le (lo := a + 1) ⟨z, d2, d3⟩ (by simpa using hl)
            · subst z
              exact absurd z2 (no y d3 hy)
theorem tri : ∀ {c d : List Nat}, c.length = d.length → LtL c d ∨ c = d ∨ LtL d c
  | [], [], _ => .inr (.inl rfl)
  | [], _ :: _, h => by cases h
  | _ :: _, [], h => by cases h
  | a :: x, b :: y, h => by
    rcases Nat.lt_trichotomy a b with z | z | z
    · exact .inl (.inl z)
    · subst z
      rcases tri (c := x) (d := y) (by simpa using h) with w | w | w
      · exact .inl (.inr ⟨rfl, w⟩)
      · exact .inr (.inl (by rw [w]))
      · exact .inr (.inr (.inr ⟨rfl, w⟩))
    · exact .inr (.inr (.inl z))
/-- a number that grows with the order -/
def code (n : Nat) : List Nat → Nat
  | [] => 0
  | a :: x => a * n ^ x.length + code n x
theorem code_lt {n : Nat} : ∀ {c : List Nat}, (∀ k ∈ c, k < n) → code n c < n ^ c.length
  | [], _ => by show 0 < n ^ 0; simp
  | a :: x, h => by
    have ih := code_lt (c := x) fun k hk => h k (List.mem_cons_of_mem _ hk)
    have ha := h a (List.mem_cons_self ..)
    show a * n ^ x.length + code n x < n ^ (x.length + 1)
    have : (a + 1) * n ^ x.length ≤ n * n ^ x.length := Nat.mul_le_mul_right _ ha
    rw [Nat.pow_succ, Nat.mul_comm (n ^ x.length) n]
    rw [Nat.add_mul, Nat.one_mul] at this
    omega
theorem code_mono {n : Nat} : ∀ {c d : List Nat}, c.length = d.length → (∀ k ∈ c, k < n) → (∀ k ∈ d, k < n) → LtL c d → code n c < code n d
  | [], _, _, _, _, h => by cases h
  | a :: x, [], hl, _, _, h => by cases hl
  | a :: x, b :: y, hl, hc, hd, h => by
    have hl' : x.length = y.length := by simpa using hl
    show a * n ^ x.length + code n x < b * n ^ y.length + code n y
    rw [hl']
    rcases h with z | ⟨z, z2⟩
    · have := code_lt (c := x) fun k hk => hc k (List.mem_cons_of_mem _ hk)
      rw [hl'] at this
      have w : (a + 1) * n ^ y.length ≤ b * n ^ y.length := Nat.mul_le_mul_right _ z
      rw [Nat.add_mul, Nat.one_mul] at w
      omega
    · subst z
      have := code_mono hl' (fun k hk => hc k (List.mem_cons_of_mem _ hk)) (fun k hk => hd k (List.mem_cons_of_mem _ hk)) z2
      omega
/-- for c in combinations(xs, r): Bad is what is known of each one that has been tried -/
theorem for_comb {xs : List V} {r : Nat} {g : TG} {tb : TS} {D : Ends} {σ : L2.St} {H : Hp} (hr : r ≤ xs.length) (Pv : L2.St → Hp → Prop) (Bad : List Nat → Prop) (h0 : Pv σ H)
    (hs : ∀ c T σ H, Ok xs.length 0 c → c.length = r → Pv σ H → H T = none → g (.ref T) σ (upd H T (.tup (c.map fun k => xs.getD k .non))) fun σ2 H2 => tb { D with nx := fun σ' H' => Bad c ∧ Pv σ' H', ct := fun σ' H' => Bad c ∧ Pv σ' H', bk := D.nx } σ2 H2)
    (hd : ∀ σ H, (∀ c, Ok xs.length 0 c → c.length = r → Bad c) → Pv σ H → D.nx σ H) :
    ∃ W : Nat → Nat → L2.St → Hp → Prop, (∃ m, W 0 m σ H) ∧ ∀ i m σ H, W i m σ H →
      ((ItC xs r).stop i H ∧ D.nx σ H) ∨ ((ItC xs r).go i H ∧ ∃ N : L2.St → Hp → Prop, (∀ σ' H', N σ' H' → ∃ m', m' < m ∧ W (i + 1) m' σ' H') ∧ ∀ x H', (ItC xs r).yld i H x H' → g x σ H' fun σ2 H2 => tb { D with nx := N, ct := N, bk := D.nx } σ2 H2) := by
  let n := xs.length
  refine ⟨fun i m σ H => Pv σ H ∧ ((∃ c, cAt n r i = some c ∧ Ok n 0 c ∧ c.length = r ∧ m = 1 + (n ^ r - code n c) ∧ ∀ d, Ok n 0 d → d.length = r → LtL d c → Bad d) ∨ (cAt n r i = none ∧ m = 0 ∧ ∀ d, Ok n 0 d → d.length = r → Bad d)), ⟨1 + (n ^ r - code n (List.range r)), h0, .inl ⟨_, rfl, ?_, List.length_range, rfl, fun d hd hl hlt => ?_⟩⟩, ?_⟩
  · have := ok_from (n := n) (r := r) (lo := 0) (by omega)
    simpa using this
  · exfalso
    have f := first_le (lo := 0) hd hl
    have e : (List.range r).map (0 + ·) = List.range r := by simp
    rw [e] at f
    have irr : ∀ {c d : List Nat}, LtL c d → LtL d c → False := by
      intro c
      induction c with
      | nil => intro d h; cases h
      | cons a x ih =>
        intro d h h'
        cases d with
        | nil => cases h
        | cons b y =>
          rcases h with z | ⟨z, z2⟩ <;> rcases h' with w | ⟨w, w2⟩
          · omega
          · omega
          · omega
          · exact ih z2 w2
    rcases f with f | f
    · rw [f] at hlt; exact irr hlt hlt
    · exact irr f hlt
  · rintro i m σ H ⟨p, q⟩
    rcases q with ⟨c, hc, ok, cl, rfl, seen⟩ | ⟨hn, rfl, all⟩
    · refine .inr ⟨by show (cAt n r i).isSome = true; rw [hc]; rfl, fun σ' H' => Bad c ∧ Pv σ' H', fun σ' H' ⟨bad, p'⟩ => ?_, fun x H' y => ?_⟩
      · have step : cAt n r (i + 1) = nx n c := by
          show (cAt n r i).bind (nx n) = _
          rw [hc]; rfl
        obtain ⟨s1, s2⟩ := nx_spec ok
        cases e : nx n c with
        | none =>
          refine ⟨0, by omega, p', .inr ⟨step.trans e, rfl, fun d hd hl => ?_⟩⟩
          rcases tri (c := c) (d := d) (by rw [cl, hl]) with z | z | z
          · exact absurd z (s2 e d hd (by rw [hl, cl]))
          · exact z ▸ bad
          · exact seen d hd hl z
        | some c' =>
          obtain ⟨o1, o2, o3⟩ := s1 c' e
          have cl' : c'.length = r := by rw [nx_len e, cl]
          have lt := code_mono (n := n) (by rw [cl, cl']) (fun k hk => (Ok.lt ok k hk).2) (fun k hk => (Ok.lt o1 k hk).2) o2
          have lt2 := code_lt (n := n) (c := c') fun k hk => (Ok.lt o1 k hk).2
          rw [cl'] at lt2
          refine ⟨1 + (n ^ r - code n c'), by omega, p', .inl ⟨c', step.trans e, o1, cl', rfl, fun d hd hl hlt => ?_⟩⟩
          rcases tri (c := c) (d := d) (by rw [cl, hl]) with z | z | z
          · exfalso
            have irr : ∀ {c d : List Nat}, LtL c d → LtL d c → False := by
              intro c
              induction c with
              | nil => intro d h; cases h
              | cons a x ih =>
                intro d h h'
                cases d with
                | nil => cases h
                | cons b y =>
                  rcases h with z | ⟨z, z2⟩ <;> rcases h' with w | ⟨w, w2⟩
                  · omega
                  · omega
                  · omega
                  · exact ih z2 w2
            rcases o3 d hd (by rw [hl, cl]) z with w | w
            · rw [w] at hlt; exact irr hlt hlt
            · exact irr w hlt
          · exact z ▸ bad
          · exact seen d hd hl z
      · obtain ⟨T, c2, hc2, rfl, hT, rfl⟩ := y
        have hc2' : cAt n r i = some c2 := hc2
        rw [hc] at hc2'
        cases hc2'
        exact hs c T σ H ok cl p hT
    · exact .inl ⟨hn, hd σ H all p⟩
end CmK
set_option maxHeartbeats 2000000
namespace ZpS
open PySem PySem.Spec PyProof.Rows L2
theorem typeCall_n (l : List Value) : checkTypeCall "zip" ⟨l, []⟩ = pure () := by kernel_rfl
theorem newCall_n : ∀ (l : List Value), l ≠ [] → l.length ≤ 4 → checkBuiltinCall "zip.__new__" ⟨.type "zip" :: l, []⟩ = pure ()
  | [], h, _ => absurd rfl h
  | [_], _, _ => by kernel_rfl
  | [_, _], _, _ => by kernel_rfl
  | [_, _, _], _, _ => by kernel_rfl
  | [_, _, _, _], _, _ => by kernel_rfl
  | _ :: _ :: _ :: _ :: _ :: _, _, h => by simp at h
theorem init_n : ∀ (v : Value) (l : List Value), l ≠ [] → l.length ≤ 4 → argsOk "object.__init__" ⟨v :: l, []⟩
  | v, [], h, _ => absurd rfl h
  | v, [_], _, _ => by unfold argsOk; rw [signature?_of (id := "object.__init__") (n := ['_', '_', 't', 'i', 'n', 'i', '_', '_']) (o := ['t', 'c', 'e', 'j', 'b', 'o']) (by kernel_rfl) F.owner_object]; kernel_rfl
  | v, [_, _], _, _ => by unfold argsOk; rw [signature?_of (id := "object.__init__") (n := ['_', '_', 't', 'i', 'n', 'i', '_', '_']) (o := ['t', 'c', 'e', 'j', 'b', 'o']) (by kernel_rfl) F.owner_object]; kernel_rfl
  | v, [_, _, _], _, _ => by unfold argsOk; rw [signature?_of (id := "object.__init__") (n := ['_', '_', 't', 'i', 'n', 'i', '_', '_']) (o := ['t', 'c', 'e', 'j', 'b', 'o']) (by kernel_rfl) F.owner_object]; kernel_rfl
  | v, [_, _, _, _], _, _ => by unfold argsOk; rw [signature?_of (id := "object.__init__") (n := ['_', '_', 't', 'i', 'n', 'i', '_', '_']) (o := ['t', 'c', 'e', 'j', 'b', 'o']) (by kernel_rfl) F.owner_object]; kernel_rfl
  | v, _ :: _ :: _ :: _ :: _ :: _, _, h => by simp at h

abbrev IsZ (h : Heap) (z TI TO : Addr) (f0 : Value) (c : Bool) : Prop := h.get? z = some { cls := .type "zip", dict := none, data := .fields #[f0, .bool c, .bool false, .ref TI, .ref TO], slots := #[] }
abbrev IsTp (h : Heap) (T : Addr) (vs : List Value) : Prop := h.get? T = some { cls := .type "tuple", data := .seq vs.toArray }
/-- a row that is walked: its iterator, its tuple, the items -/
structure Rw where
  it : Nat
  l : Nat
  items : List Value
structure Apart (z TI TO : Nat) (Z : List Rw) : Prop where
  TIz : TI ≠ z
  TOz : TO ≠ z
  TITO : TI ≠ TO
  iz : ∀ q ∈ Z, q.it ≠ z ∧ q.it ≠ TI ∧ q.it ≠ TO
  nd : (Z.map (·.it)).Nodup
  lz : ∀ q ∈ Z, q.l ≠ z ∧ q.l ≠ TO ∧ ∀ q' ∈ Z, q.l ≠ q'.it
section
variable {prog : Program} {w : World} {A : Around} {E : Value → Shared → Prop} {s : Shared}
theorem isFree {z TI TO : Addr} {f0 : Value} {c : Bool} {Q : Bool → Shared → Prop} (hz : IsZ s.heap z TI TO f0 c) (hf : f0 = .none ∨ ∃ a : Nat, f0 = rawInt a)
    (h : ∀ (b : Bool) (h' : Heap) (c' : Bool), IsZ h' z TI TO f0 c' → Heap.SameBut z s.heap h' → Q b { s with heap := h' }) : wpAny (model prog w) A (Builtin.SmallTypes.ownedTupleIsFree (.ref z)) Q E s := by
  unfold Builtin.SmallTypes.ownedTupleIsFree
  refine wpAny_bind (wpAny_field hz rfl (x := f0) rfl ?_)
  rcases hf with e | ⟨a, e⟩
  · subst e
    exact wpAny_pure (h true s.heap c hz (Heap.SameBut.refl ..))
  · subst e
    show wpAny _ _ (loadIfAlive ((a : Int).toNat) >>= _) _ _ _
    refine wpAny_bind (fun Γ p hp => ?_)
    rw [loadIfAlive, Sem.wp_loadIfAlive]
    refine (show wpAny (model prog w) A (Sem.pure (s.heap.get? ((a : Int).toNat))) _ E s from ?_) Γ p hp
    refine wpAny_pure ?_
    cases e : s.heap.get? ((a : Int).toNat) with
    | none => exact wpAny_pure (h true s.heap c hz (Heap.SameBut.refl ..))
    | some o =>
      show wpAny _ _ (field (.ref z) 1 >>= _) _ _ _
      refine wpAny_bind (wpAny_field hz rfl (x := .bool c) rfl ?_)
      cases c with
      | true => exact wpAny_pure (h false s.heap true hz (Heap.SameBut.refl ..))
      | false =>
        show wpAny _ _ (setField (.ref z) 1 (.bool true) >>= _) _ _ _
        exact wpAny_bind (wpAny_setField_rec hz (by simp) fun h' z' sb => wpAny_pure (h false h' true z' sb))
end
end ZpS
set_option maxHeartbeats 2000000
namespace ZpS
open PySem PySem.Spec PyProof.Rows L2
/-- the iterators of all rows stand at place k; the item there -/
structure RowsAt (h : Heap) (Z : List Rw) (k : Nat) : Prop where
  it : ∀ q ∈ Z, h.IsTupleIter q.it q.l k
  tp : ∀ q ∈ Z, h.IsTuple q.l q.items.toArray
section
variable {prog : Program} {w : World} {A : Around} {E : Value → Shared → Prop} {s : Shared}
/-- how the heap stands amid a turn: the rows of B are still to come -/
structure Mid (h0 h : Heap) (z TO : Addr) (own : Bool) (Z Aa B : List Rw) (k : Nat) : Prop where
  split : Z = Aa ++ B
  size : h.objs.size = h0.objs.size
  done : ∀ q ∈ Aa, h.IsTupleIter q.it q.l (k + 1)
  todo : ∀ q ∈ B, h.IsTupleIter q.it q.l k
  keep : ∀ c o, c ≠ z → c ≠ TO → (∀ q ∈ Z, c ≠ q.it) → h0.get? c = some o → h.get? c = some o
theorem nodup_mid {Z Aa B : List Rw} {q : Rw} (nd : (Z.map (·.it)).Nodup) (e : Z = Aa ++ q :: B) : (∀ q' ∈ Aa, q'.it ≠ q.it) ∧ ∀ q' ∈ B, q'.it ≠ q.it := by
  subst e
  rw [List.map_append, List.map_cons] at nd
  have h := List.nodup_append.mp nd
  refine ⟨fun q' m z => ?_, fun q' m z => ?_⟩
  · exact h.2.2 q'.it (List.mem_map_of_mem m) q.it (List.mem_cons_self ..) z
  · exact (List.nodup_cons.mp h.2.1).1 (by rw [← z]; exact List.mem_map_of_mem m)
theorem mid_turn {h0 h h' : Heap} {z TO : Addr} {own : Bool} {Z Aa B : List Rw} {q : Rw} {k : Nat} {TI : Addr} (D : Apart z TI TO Z) (M : Mid h0 h z TO own Z Aa (q :: B) k) (hq : h'.IsTupleIter q.it q.l (k + 1)) (sz : h'.objs.size = h.objs.size)
    (kp : ∀ c o, c ≠ z → c ≠ TO → c ≠ q.it → h.get? c = some o → h'.get? c = some o) : Mid h0 h' z TO own Z (Aa ++ [q]) B k where
  split := by rw [M.split]; simp
  size := sz.trans M.size
  done := fun q' m => by
    rcases List.mem_append.mp m with m | m
    · have hm : q' ∈ Z := by rw [M.split]; exact List.mem_append_left _ m
      have i := D.iz q' hm
      exact (M.done q' m).at fun o e => kp _ o i.1 i.2.2 ((nodup_mid D.nd M.split).1 q' m) e
    · rw [List.mem_singleton.mp m]; exact hq
  todo := fun q' m => by
    have hm : q' ∈ Z := by rw [M.split]; exact List.mem_append_right _ (List.mem_cons_of_mem _ m)
    have i := D.iz q' hm
    exact (M.todo q' (List.mem_cons_of_mem _ m)).at fun o e => kp _ o i.1 i.2.2 ((nodup_mid D.nd M.split).2 q' m) e
  keep := fun c o c1 c2 c3 e => kp c o c1 c2 (c3 q (by rw [M.split]; simp)) (M.keep c o c1 c2 c3 e)
def at' (k : Nat) (q : Rw) : Value := q.items.getD k .none
theorem zip_item {z TI TO : Addr} {Z : List Rw} {f0 : Value} {c : Bool} {kept : List Value} {k : Nat} {Q : Value → Shared → Prop} (D : Apart z TI TO Z) (hne : Z ≠ []) (hl : Z.length ≤ 1000)
    (hf : f0 = .none ∨ ∃ a : Nat, f0 = rawInt a) (hz : IsZ s.heap z TI TO f0 c) (hTI : IsTp s.heap TI (Z.map fun q => .ref q.it)) (hTO : IsTp s.heap TO kept) (hk : kept.length = Z.length) (R : RowsAt s.heap Z k) (hx : ∀ q ∈ Z, k < q.items.length)
    (hQ : ∀ (h' : Heap) (f0' : Value) (c' : Bool) (kept' : List Value), (f0' = .none ∨ ∃ a : Nat, f0' = rawInt a) → IsZ h' z TI TO f0' c' → IsTp h' TO kept' → kept'.length = Z.length → (∀ q ∈ Z, h'.IsTupleIter q.it q.l (k + 1)) → IsTp h' s.heap.objs.size (Z.map (at' k)) → h'.objs.size = s.heap.objs.size + 1 →
      (∀ c o, c ≠ z → c ≠ TO → (∀ q ∈ Z, c ≠ q.it) → s.heap.get? c = some o → h'.get? c = some o) → Q (.ref s.heap.objs.size) { s with heap := h' }) :
    wpAny (model prog w) A (Builtin.«zip.__next__» ⟨[.ref z], []⟩) (fun fin s' => ∃ v, fin = .done (.ret v) ∧ Q v s') E s := by
  have line : (100000 : Nat) < sizeLine := by decide
  have hlz : z < s.heap.objs.size := Heap.lt_size hz
  show wpAny _ _ (field (.ref z) 2 >>= _) _ _ _
  refine wpAny_bind (wpAny_field hz rfl (x := .bool false) rfl ?_)
  show wpAny _ _ (field (.ref z) 3 >>= _) _ _ _
  refine wpAny_bind (wpAny_field hz rfl (x := .ref TI) rfl ?_)
  refine wpAny_bind (wpAny_seqItems hTI rfl ?_)
  have ne : (Z.map fun q => Value.ref q.it).toArray.isEmpty = false := by
    cases Z with
    | nil => exact absurd rfl hne
    | cons q Z => rfl
  dsimp only
  rw [ne]
  refine wpAny_ite_false rfl ?_
  refine wpAny_bind (isFree hz hf fun b h1 c1 hz1 sb1 => ?_)
  have hTI1 : IsTp h1 TI (Z.map fun q => .ref q.it) := (sb1.2 _ D.TIz).trans hTI
  have hTO1 : IsTp h1 TO kept := (sb1.2 _ D.TOz).trans hTO
  have R1 : RowsAt h1 Z k := ⟨fun q m => (R.it q m).at fun o e => (sb1.2 _ (D.iz q m).1).trans e, fun q m => by
    obtain ⟨o, ho, r⟩ := R.tp q m
    exact ⟨o, (sb1.2 _ (D.lz q m).1).trans ho, r⟩⟩
  cases b with
  | true =>
    refine wpAny_ite_true rfl ?_
    refine wpAny_bind (wpAny_rule ?_)
    refine wpAny_bind (wpAny_field hz1 rfl (x := .ref TO) rfl ?_)
    refine wpAny_bind (wpAny_setField_rec hz1 (by simp) fun h2 hz2 sb2 => ?_)
    replace hz2 : IsZ h2 z TI TO .ellipsis c1 := hz2
    refine wpAny_bind (wpAny_forIn_list _ (fun rest b s' => b = (none, ()) ∧ ∃ (h : Heap) (Aa B : List Rw), s' = { s with heap := h } ∧ rest = (B.map fun q => Value.ref q.it).zipIdx Aa.length ∧ Mid s.heap h z TO true Z Aa B k ∧ IsZ h z TI TO .ellipsis c1 ∧ IsTp h TI (Z.map fun q => .ref q.it) ∧
      ∃ tail, IsTp h TO (Aa.map (at' k) ++ tail) ∧ tail.length = B.length) _ ?turn ?fin _ _ ?start)
    case start =>
      refine ⟨rfl, h2, [], Z, rfl, rfl, ⟨rfl, sb2.1.trans sb1.1, fun q m => (by cases m), fun q m => (R1.it q m).at fun o e => (sb2.2 _ (D.iz q m).1).trans e, fun c o c1 c2 c3 e => (sb2.2 _ c1).trans ((sb1.2 _ c1).trans e)⟩, hz2, (sb2.2 _ D.TIz).trans hTI1, kept, (sb2.2 _ D.TOz).trans hTO1, hk⟩
    case turn =>
      rintro x rest b s' ⟨rfl, h, Aa, B, rfl, er, M, hzh, hTIh, tail, hTOh, ht⟩
      cases B with
      | nil => cases er
      | cons q B =>
        have hm : q ∈ Z := by rw [M.split]; simp
        rw [List.map_cons, List.zipIdx_cons] at er
        cases er
        have iz := D.iz q hm
        have lz := D.lz q hm
        have htup : h.IsTuple q.l q.items.toArray := by
          obtain ⟨o, ho, r⟩ := R.tp q hm
          exact ⟨o, M.keep _ _ lz.1 lz.2.1 lz.2.2 ho, r⟩
        have hlt := hx q hm
        have hit : q.items.toArray[k]? = some (at' k q) := by
          rw [List.getElem?_toArray, List.getElem?_eq_getElem hlt]
          show some _ = some (q.items.getD k .none)
          rw [List.getD_eq_getElem?_getD, List.getElem?_eq_getElem hlt]
          rfl
        refine wpAny_bind (wpAny_onRaise ?_)
        show wpAny _ _ (Builtin.SmallTypes.nextOf (.ref q.it) >>= _) _ _ _
        refine wpAny_bind (RZ.nextOf_tuple_item (s := { s with heap := h }) (M.todo q (List.mem_cons_self ..)) htup hit fun h3 hit3 sb3 => wpAny_pure ?_)
        have hTO3 : IsTp h3 TO (Aa.map (at' k) ++ tail) := (sb3.2 _ iz.2.2.symm).trans hTOh
        refine wpAny_bind (wpAny_seqItems hTO3 rfl ?_)
        cases tail with
        | nil => cases ht
        | cons y tail =>
        have hsz : (Aa.map (at' k) ++ y :: tail).length ≤ 1000 := by
          have e := congrArg List.length M.split
          have ht' : tail.length = B.length := by simpa using ht
          rw [List.length_append, List.length_cons] at e
          rw [List.length_append, List.length_map, List.length_cons]
          omega
        refine wpAny_bind (wpAny_updateSeq hTO3 rfl ?_ (by rw [List.size_toArray]; omega) (by rw [Array.size_setIfInBounds, List.size_toArray]; omega))
        have hTO4 : IsTp (h3.update TO (Obj.mapSeq (·.setIfInBounds Aa.length (at' k q)))) TO ((Aa ++ [q]).map (at' k) ++ tail) := by
          have z := Heap.get?_update_self (Obj.mapSeq (·.setIfInBounds Aa.length (at' k q))) hTO3 rfl
          refine z.trans ?_
          have e : (Aa.map (at' k) ++ y :: tail).toArray.setIfInBounds Aa.length (at' k q) = ((Aa ++ [q]).map (at' k) ++ tail).toArray := by
            rw [List.setIfInBounds_toArray, List.set_append_right _ _ (by rw [List.length_map]; exact Nat.le_refl _), List.length_map, Nat.sub_self, List.set_cons_zero]
            simp
          have e2 : (((Aa ++ [q]).map (at' k) ++ tail).toArray.size == (Aa.map (at' k) ++ y :: tail).toArray.size) = true := by simp
          simp only [Obj.mapSeq, e]
          rw [if_pos e2]
        have sb4 : Heap.SameBut TO h3 (h3.update TO (Obj.mapSeq (·.setIfInBounds Aa.length (at' k q)))) := Heap.SameBut.update ..
        refine wpAny_bind (wpAny_letGo (wpAny_pure ?_))
        refine ⟨rfl, _, Aa ++ [q], B, rfl, by simp, mid_turn (own := true) D M (hit3.at fun o e => (sb4.2 _ iz.2.2).trans e) (sb4.1.trans sb3.1) fun c o c1 c2 c3 e => (sb4.2 _ c2).trans ((sb3.2 _ c3).trans e), ?_, ?_, tail, hTO4, by simpa using ht⟩
        · exact (sb4.2 _ D.TOz.symm).trans ((sb3.2 _ iz.1.symm).trans hzh)
        · exact (sb4.2 _ D.TITO).trans ((sb3.2 _ iz.2.1.symm).trans hTIh)
    case fin =>
      rintro b s' ⟨rfl, h, Aa, B, rfl, er, M, hzh, hTIh, tail, hTOh, ht⟩
      cases B with
      | cons q B => rw [List.map_cons, List.zipIdx_cons] at er; cases er
      | nil =>
      have tn : tail = [] := List.length_eq_zero_iff.mp ht
      subst tn
      have eZ : Z = Aa := by rw [M.split]; simp
      rw [List.append_nil, ← eZ] at hTOh
      refine wpAny_bind (wpAny_seqItems hTOh rfl ?_)
      refine wpAny_bind (wpAny_newTuple ?_ (by rw [List.toList_toArray, List.length_map]; omega))
      unfold Builtin.SmallTypes.ownedTupleHandOut
      have hz6 : IsZ (h.push { cls := .type "tuple", data := .seq (Z.map (at' k)).toArray.toList.toArray }) z TI TO .ellipsis c1 := Heap.get?_push_of_some _ hzh
      show wpAny _ _ ((setField (.ref z) 0 (rawInt h.objs.size) >>= fun _ => setField (.ref z) 1 (.bool false)) >>= _) _ _ _
      refine wpAny_bind (wpAny_bind (wpAny_setField_rec hz6 (by simp) fun h7 hz7 sb7 => ?_))
      replace hz7 : IsZ h7 z TI TO (rawInt h.objs.size) c1 := hz7
      refine wpAny_setField_rec hz7 (by simp) fun h8 hz8 sb8 => ?_
      replace hz8 : IsZ h8 z TI TO (rawInt h.objs.size) false := hz8
      have hsz : h.objs.size = s.heap.objs.size := M.size
      have zlt : z < h.objs.size := Heap.lt_size hzh
      have up : ∀ c o, c ≠ z → h.get? c = some o → h8.get? c = some o := fun c o c1 e => (sb8.2 _ c1).trans ((sb7.2 _ c1).trans (Heap.get?_push_of_some _ e))
      have hT8 : IsTp h8 h.objs.size (Z.map (at' k)) := (sb8.2 _ (Nat.ne_of_gt zlt)).trans ((sb7.2 _ (Nat.ne_of_gt zlt)).trans (Heap.get?_push_size h rfl))
      have hz8s : h8.objs.size = h.objs.size + 1 := by rw [sb8.1, sb7.1, Heap.size_push]
      refine wpAny_pure ⟨_, rfl, ?_⟩
      show Q (.ref h.objs.size) _
      rw [hsz] at hz8 hT8 hz8s ⊢
      refine hQ h8 _ false _ (.inr ⟨_, rfl⟩) hz8 (up _ _ D.TOz hTOh) (by rw [List.length_map]) (fun q m => ?_) hT8 hz8s fun c o c1 c2 c3 e => up c o c1 (M.keep c o c1 c2 c3 e)
      exact (M.done q (by rw [← eZ]; exact m)).at fun o e => up _ o (D.iz q m).1 e
  | false =>
    refine wpAny_ite_false rfl ?_
    refine wpAny_bind (PySem.MeetsSeq2.wpAny_forIn_array _ (fun rest b s' => b.1 = none ∧ ∃ (h : Heap) (Aa B : List Rw), s' = { s with heap := h } ∧ rest = (B.map fun q => Value.ref q.it) ∧ b.2 = (Aa.map (at' k)).toArray ∧ Mid s.heap h z TO false Z Aa B k ∧ IsZ h z TI TO f0 c1 ∧ IsTp h TO kept) _ ?turn ?fin _ _ ?start)
    case start =>
      refine ⟨rfl, h1, [], Z, rfl, rfl, rfl, ⟨rfl, sb1.1, fun q m => (by cases m), fun q m => R1.it q m, fun c o c1 c2 c3 e => (sb1.2 _ c1).trans e⟩, hz1, hTO1⟩
    case turn =>
      rintro x rest ⟨b1, b2⟩ s' ⟨eb1, h, Aa, B, rfl, er, eb2, M, hzh, hTOh⟩
      cases B with
      | nil => cases er
      | cons q B =>
        have eb1' : b1 = none := eb1
        have eb2' : b2 = (Aa.map (at' k)).toArray := eb2
        subst eb1' eb2'
        have hm : q ∈ Z := by rw [M.split]; simp
        rw [List.map_cons] at er
        cases er
        have iz := D.iz q hm
        have lz := D.lz q hm
        have htup : h.IsTuple q.l q.items.toArray := by
          obtain ⟨o, ho, r⟩ := R.tp q hm
          exact ⟨o, M.keep _ _ lz.1 lz.2.1 lz.2.2 ho, r⟩
        have hlt := hx q hm
        have hit : q.items.toArray[k]? = some (at' k q) := by
          rw [List.getElem?_toArray, List.getElem?_eq_getElem hlt]
          show some _ = some (q.items.getD k .none)
          rw [List.getD_eq_getElem?_getD, List.getElem?_eq_getElem hlt]
          rfl
        refine wpAny_bind (wpAny_holding ?_)
        show wpAny _ _ (Builtin.SmallTypes.nextOf (.ref q.it) >>= _) _ _ _
        refine wpAny_bind (RZ.nextOf_tuple_item (s := { s with heap := h }) (M.todo q (List.mem_cons_self ..)) htup hit fun h3 hit3 sb3 => wpAny_pure ?_)
        refine wpAny_pure ?_
        refine ⟨rfl, _, Aa ++ [q], B, rfl, rfl, ?_, mid_turn (own := false) D M hit3 sb3.1 fun c o c1 c2 c3 e => (sb3.2 _ c3).trans e, ?_, ?_⟩
        · show (Aa.map (at' k)).toArray.push (at' k q) = ((Aa ++ [q]).map (at' k)).toArray
          rw [List.push_toArray, List.map_append]
          rfl
        · exact (sb3.2 _ iz.1.symm).trans hzh
        · exact (sb3.2 _ iz.2.2.symm).trans hTOh
    case fin =>
      rintro ⟨b1, b2⟩ s' ⟨eb1, h, Aa, B, rfl, er, eb2, M, hzh, hTOh⟩
      cases B with
      | cons q B => cases er
      | nil =>
      have eb1' : b1 = none := eb1
      have eb2' : b2 = (Aa.map (at' k)).toArray := eb2
      subst eb1' eb2'
      have eZ : Z = Aa := by rw [M.split]; simp
      subst eZ
      refine wpAny_bind (wpAny_newTuple ?_ (by rw [List.toList_toArray, List.length_map]; omega))
      refine wpAny_pure ⟨_, rfl, ?_⟩
      have hsz : h.objs.size = s.heap.objs.size := M.size
      have hT8 : IsTp (h.push { cls := .type "tuple", data := .seq (Z.map (at' k)).toArray.toList.toArray }) h.objs.size (Z.map (at' k)) := Heap.get?_push_size h rfl
      show Q (.ref h.objs.size) _
      have s8 : (h.push { cls := .type "tuple", data := .seq (Z.map (at' k)).toArray.toList.toArray }).objs.size = h.objs.size + 1 := Heap.size_push ..
      rw [hsz] at hT8 s8 ⊢
      refine hQ _ f0 c1 kept hf (Heap.get?_push_of_some _ hzh) (Heap.get?_push_of_some _ hTOh) hk (fun q m => ?_) hT8 s8 fun c o c1 c2 c3 e => Heap.get?_push_of_some _ (M.keep c o c1 c2 c3 e)
      exact (M.done q m).at fun o e => Heap.get?_push_of_some _ e
end
end ZpS
set_option maxHeartbeats 2000000
namespace ZpS
open PySem PySem.Spec PyProof.Rows L2
section
variable {prog : Program} {w : World} {A : Around} {E : Value → Shared → Prop} {s : Shared}
theorem zip_end {z TI TO : Addr} {q : Rw} {Z : List Rw} {f0 : Value} {c : Bool} {k : Nat} {Q : Fin → Shared → Prop} (hh : A.handled = none) (D : Apart z TI TO (q :: Z))
    (hf : f0 = .none ∨ ∃ a : Nat, f0 = rawInt a) (hz : IsZ s.heap z TI TO f0 c) (hTI : IsTp s.heap TI ((q :: Z).map fun q => .ref q.it)) (hit : s.heap.IsTupleIter q.it q.l k) (htp : s.heap.IsTuple q.l q.items.toArray) (hx : q.items.length ≤ k)
    (hE : ∀ h' e, (∀ c o, c ≠ z → c ≠ q.it → s.heap.get? c = some o → h'.get? c = some o) → (∃ o, h'.get? e = some o ∧ o.cls = .type "StopIteration") → E (.ref e) { s with heap := h' }) :
    wpAny (model prog w) A (Builtin.«zip.__next__» ⟨[.ref z], []⟩) Q E s := by
  have iz := D.iz q (List.mem_cons_self ..)
  have lz := D.lz q (List.mem_cons_self ..)
  have hnone : q.items.toArray[k]? = none := by rw [List.getElem?_toArray, List.getElem?_eq_none hx]
  show wpAny _ _ (field (.ref z) 2 >>= _) _ _ _
  refine wpAny_bind (wpAny_field hz rfl (x := .bool false) rfl ?_)
  show wpAny _ _ (field (.ref z) 3 >>= _) _ _ _
  refine wpAny_bind (wpAny_field hz rfl (x := .ref TI) rfl ?_)
  refine wpAny_bind (wpAny_seqItems hTI rfl ?_)
  have ne : ((q :: Z).map fun q => Value.ref q.it).toArray.isEmpty = false := rfl
  dsimp only
  rw [ne]
  refine wpAny_ite_false rfl ?_
  refine wpAny_bind (isFree hz hf fun b h1 c1 hz1 sb1 => ?_)
  have hit1 : h1.IsTupleIter q.it q.l k := hit.at fun o e => (sb1.2 _ iz.1).trans e
  have htp1 : h1.IsTuple q.l q.items.toArray := by
    obtain ⟨o, ho, r⟩ := htp
    exact ⟨o, (sb1.2 _ lz.1).trans ho, r⟩
  cases b with
  | true =>
    refine wpAny_ite_true rfl ?_
    refine wpAny_bind (wpAny_rule ?_)
    refine wpAny_bind (wpAny_field hz1 rfl (x := .ref TO) rfl ?_)
    refine wpAny_bind (wpAny_setField_rec hz1 (by simp) fun h2 hz2 sb2 => ?_)
    replace hz2 : IsZ h2 z TI TO .ellipsis c1 := hz2
    rw [List.map_cons, List.zipIdx_cons, List.forIn_cons]
    refine wpAny_bind (wpAny_bind (wpAny_bind (wpAny_onRaise ?_)))
    show wpAny _ _ (Builtin.SmallTypes.nextOf (.ref q.it) >>= _) _ _ _
    have htp2 : h2.IsTuple q.l q.items.toArray := by
      obtain ⟨o, ho, r⟩ := htp1
      exact ⟨o, (sb2.2 _ lz.1).trans ho, r⟩
    refine wpAny_bind (RZ.nextOf_tuple_end (s := { s with heap := h2 }) hh (hit1.at fun o e => (sb2.2 _ iz.1).trans e) htp2 hnone fun h3 e eb he => ?_)
    obtain ⟨oe, hoe, hce⟩ := he
    have hz3 : IsZ h3 z TI TO .ellipsis c1 := eb _ _ iz.1.symm hz2
    have hez : e ≠ z := fun x => by subst x; rw [hz3] at hoe; cases hoe; simp at hce
    refine wpAny_setField_rec hz3 (by simp) fun h4 _ sb4 => hE h4 e (fun c o c1 c3 x => (sb4.2 _ c1).trans (eb _ _ c3 ((sb2.2 _ c1).trans ((sb1.2 _ c1).trans x)))) ⟨oe, (sb4.2 _ hez).trans hoe, hce⟩
  | false =>
    refine wpAny_ite_false rfl ?_
    rw [← Array.forIn_toList, List.map_cons, List.forIn_cons]
    refine wpAny_bind (wpAny_bind (wpAny_bind (wpAny_holding ?_)))
    show wpAny _ _ (Builtin.SmallTypes.nextOf (.ref q.it) >>= _) _ _ _
    refine wpAny_bind (RZ.nextOf_tuple_end (s := { s with heap := h1 }) hh hit1 htp1 hnone fun h3 e eb he => ?_)
    exact hE h3 e (fun c o c1 c3 x => eb _ _ c3 ((sb1.2 _ c1).trans x)) he
theorem pyNext_of {z TI TO : Addr} {f0 : Value} {c : Bool} {Q : Option Value → Shared → Prop} (hz : IsZ s.heap z TI TO f0 c)
    (h : wpAny (model prog w) A.in1 (Builtin.«zip.__next__» ⟨[.ref z], []⟩) (fun fin s' => ∃ v, fin = .done (.ret v) ∧ Q (some v) s')
      (fun e s' => (∃ a o, e = .ref a ∧ s'.heap.get? a = some o ∧ o.cls = .type "StopIteration") ∧ Q none s') s) : wpAny (model prog w) A (pyNext (.ref z)) Q E s := by
  have hT : s.TypeIs (.ref z) "zip" := ⟨_, hz, rfl⟩
  unfold pyNext
  refine wpAny_bind (wpAny_attempt (wpAny_callSpecial?_slot (name := Str.ofString "__next__") hT F.slot_zip_next (wpAny_call_entry F.slot_zip_next hT F.entry_zip_next (wpAny_mono h (fun fin s' hq => ?_) fun e s' he => ?_) (F.args_zip_next_1 _))))
  · obtain ⟨v, rfl, hq⟩ := hq
    exact ⟨v, rfl, wpAny_pure hq⟩
  · obtain ⟨⟨a, o, rfl, ho, hc⟩, hq⟩ := he
    refine wpAny_bind (wpAny_isInstance (T := "StopIteration") (b := true) ⟨o, ho, hc⟩ isSubtype_stop ?_)
    exact wpAny_pure hq
theorem iter_zip {z TI TO : Addr} {f0 : Value} {c : Bool} {Q : Value → Shared → Prop} (hz : IsZ s.heap z TI TO f0 c) (h : Q (.ref z) s) : wpAny (model prog w) A (pyIter (.ref z)) Q E s := by
  have hT : s.TypeIs (.ref z) "zip" := ⟨_, hz, rfl⟩
  refine wpAny_pyIter_slot hT F.slot_zip_iter (wpAny_call_entry F.slot_zip_iter hT F.entry_zip_iter ?_ (F.args_zip_iter_1 _))
  show wpAny _ _ (ret (.ref z)) _ _ s
  exact wpAny_pure ⟨_, rfl, "zip", _, hT, F.slot_zip_next.lookup, h⟩
def mkZ : Nat → List (Nat × List Value) → List Rw
  | _, [] => []
  | n, (l, xs) :: t => ⟨n, l, xs⟩ :: mkZ (n + 1) t
theorem mkZ_append : ∀ (n : Nat) (a b : List (Nat × List Value)), mkZ n (a ++ b) = mkZ n a ++ mkZ (n + a.length) b
  | n, [], b => rfl
  | n, (l, xs) :: t, b => by
    show _ :: mkZ (n + 1) (t ++ b) = _ :: (mkZ (n + 1) t ++ mkZ (n + (t.length + 1)) b)
    rw [mkZ_append (n + 1) t b, show n + 1 + t.length = n + (t.length + 1) by omega]
theorem mkZ_len : ∀ (n : Nat) (a : List (Nat × List Value)), (mkZ n a).length = a.length
  | _, [] => rfl
  | n, _ :: t => congrArg (· + 1) (mkZ_len (n + 1) t)
theorem mkZ_mem : ∀ {n : Nat} {a : List (Nat × List Value)} {q : Rw}, q ∈ mkZ n a → n ≤ q.it ∧ q.it < n + a.length ∧ (q.l, q.items) ∈ a
  | _, [], _, h => by cases h
  | n, (l, xs) :: t, q, h => by
    rcases List.mem_cons.mp h with e | e
    · subst e
      exact ⟨Nat.le_refl _, by simp, List.mem_cons_self ..⟩
    · obtain ⟨h1, h2, h3⟩ := mkZ_mem e
      exact ⟨by omega, by simp only [List.length_cons]; omega, List.mem_cons_of_mem _ h3⟩
theorem mkZ_nodup : ∀ (n : Nat) (a : List (Nat × List Value)), ((mkZ n a).map (·.it)).Nodup
  | _, [] => .nil
  | n, (l, xs) :: t => by
    show (n :: (mkZ (n + 1) t).map (·.it)).Nodup
    refine List.nodup_cons.mpr ⟨fun h => ?_, mkZ_nodup (n + 1) t⟩
    obtain ⟨q, hq, e⟩ := List.mem_map.mp h
    have := mkZ_mem hq
    omega
theorem mkZ_apart {n N : Nat} {rows : List (Nat × List Value)} (hN : N = rows.length) (h : ∀ r ∈ rows, r.1 < n) : Apart (n + N + 2) (n + N) (n + N + 1) (mkZ n rows) where
  TIz := by omega
  TOz := by omega
  TITO := by omega
  iz := fun q m => by have := mkZ_mem m; omega
  nd := mkZ_nodup n rows
  lz := fun q m => by
    have z := mkZ_mem m
    have y := h _ z.2.2
    dsimp only at y
    exact ⟨by omega, by omega, fun q' m' => by have := mkZ_mem m'; omega⟩
theorem iterAll_tup {rows : List (Nat × List Value)} {Q : List Value → Shared → Prop} (hl : ∀ r ∈ rows, s.heap.IsTuple r.1 r.2.toArray)
    (hQ : ∀ h' : Heap, (∀ b o, s.heap.get? b = some o → h'.get? b = some o) → h'.objs.size = s.heap.objs.size + rows.length → (∀ q ∈ mkZ s.heap.objs.size rows, h'.IsTupleIter q.it q.l 0) → Q ((mkZ s.heap.objs.size rows).map fun q => .ref q.it) { s with heap := h' }) :
    wpAny (model prog w) A (Builtin.SmallTypes.iterAll (rows.map fun r => .ref r.1)) Q E s := by
  unfold Builtin.SmallTypes.iterAll
  refine wpAny_bind (wpAny_forIn_list _ (fun rest b s' => ∃ (h : Heap) (Aa B : List (Nat × List Value)), s' = { s with heap := h } ∧ rows = Aa ++ B ∧ rest = (B.map fun r => Value.ref r.1) ∧ b = ((mkZ s.heap.objs.size Aa).map fun q => Value.ref q.it).toArray ∧
    (∀ b o, s.heap.get? b = some o → h.get? b = some o) ∧ h.objs.size = s.heap.objs.size + Aa.length ∧ ∀ q ∈ mkZ s.heap.objs.size Aa, h.IsTupleIter q.it q.l 0) _ ?turn ?fin _ _ ?start)
  case start => exact ⟨s.heap, [], rows, rfl, rfl, rfl, rfl, fun _ _ e => e, rfl, fun q m => (by cases m)⟩
  case turn =>
    rintro x rest b s' ⟨h, Aa, B, rfl, er, e2, rfl, kp, sz, its⟩
    cases B with
    | nil => cases e2
    | cons r B =>
    rw [List.map_cons] at e2
    cases e2
    have hm : r ∈ rows := by rw [er]; simp
    have ht : h.IsTuple r.1 r.2.toArray := by
      obtain ⟨o, ho, z⟩ := hl r hm
      exact ⟨o, kp _ _ ho, z⟩
    refine wpAny_bind (wpAny_holding ?_)
    refine wpAny_pyIter_tuple (s := { s with heap := h }) ht ?_
    refine wpAny_pure ?_
    have ez : mkZ s.heap.objs.size (Aa ++ [r]) = mkZ s.heap.objs.size Aa ++ [⟨h.objs.size, r.1, r.2⟩] := by rw [mkZ_append, sz]; rfl
    refine ⟨_, Aa ++ [r], B, rfl, by rw [er]; simp, rfl, ?_, fun b o e => Heap.get?_push_of_some _ (kp b o e), ?_, fun q m => ?_⟩
    · rw [ez, List.map_append]
      simp only [List.push_toArray]
      rfl
    · rw [Heap.size_push, List.length_append, List.length_cons, List.length_nil]
      show h.objs.size + 1 = _
      rw [sz]
      rfl
    · rw [ez] at m
      rcases List.mem_append.mp m with m | m
      · exact (its q m).at fun o e => Heap.get?_push_of_some _ e
      · rw [List.mem_singleton.mp m]
        exact ⟨_, Heap.get?_push_size h rfl, rfl, rfl⟩
  case fin =>
    rintro b s' ⟨h, Aa, B, rfl, er, e2, rfl, kp, sz, its⟩
    cases B with
    | cons r B => cases e2
    | nil =>
    have er' : rows = Aa := by rw [er]; simp
    subst er'
    refine wpAny_pure ?_
    rw [List.toList_toArray]
    exact hQ h kp sz its
abbrev tO (L : List Value) : PySem.Obj := { cls := .type "tuple", data := .seq L.toArray }
abbrev zO (a b : Addr) : PySem.Obj := { cls := .type "zip", data := .fields #[.none, .bool false, .bool false, .ref a, .ref b] }
theorem new_zip {rows : List (Nat × List Value)} {Q : Fin → Shared → Prop} (hz : rows.length ≤ 1000) (hl : ∀ r ∈ rows, s.heap.IsTuple r.1 r.2.toArray)
    (hQ : ∀ h' : Heap, (∀ b o, s.heap.get? b = some o → h'.get? b = some o) → IsZ h' (s.heap.objs.size + rows.length + 2) (s.heap.objs.size + rows.length) (s.heap.objs.size + rows.length + 1) .none false →
      IsTp h' (s.heap.objs.size + rows.length) ((mkZ s.heap.objs.size rows).map fun q => .ref q.it) → IsTp h' (s.heap.objs.size + rows.length + 1) ((mkZ s.heap.objs.size rows).map fun _ => .none) → (∀ q ∈ mkZ s.heap.objs.size rows, h'.IsTupleIter q.it q.l 0) →
      Q (.done (.ret (.ref (s.heap.objs.size + rows.length + 2)))) { s with heap := h' }) :
    wpAny (model prog w) A (Builtin.«zip.__new__» ⟨.type "zip" :: rows.map fun r => .ref r.1, []⟩) Q E s := by
  have line : (100000 : Nat) < sizeLine := by decide
  have hsub := sub_zip
  unfold Builtin.«zip.__new__»
  refine wpAny_bind ?_
  unfold Builtin.SmallTypes.newClass
  wp_step
  wp_step
  wp_step
  wp_step
  wp_step
  wp_step
  wp_step
  wp_step
  wp_step
  wp_step
  refine iterAll_tup hl fun h1 kp sz its => ?_
  have hlen : (mkZ s.heap.objs.size rows).length = rows.length := mkZ_len _ _
  refine wpAny_bind (wpAny_newTuple ?_ (by rw [List.length_map, hlen]; omega))
  refine wpAny_bind (wpAny_newTuple ?_ (by rw [List.length_map, List.length_map, hlen]; omega))
  refine wpAny_bind ?_
  unfold Builtin.SmallTypes.newRecord
  refine wpAny_newObj_type (wpAny_pure ?_) (Nat.le_trans (show 5 ≤ 100000 by decide) (by show 100000 ≤ _; omega))
  rw [List.map_map]
  generalize hg1 : ((mkZ s.heap.objs.size rows).map fun q => Value.ref q.it) = L1
  generalize hg2 : ((mkZ s.heap.objs.size rows).map ((fun _ => Value.none) ∘ fun q => Value.ref q.it)) = L2
  have s2 : (h1.push (tO L1)).objs.size = s.heap.objs.size + rows.length + 1 := by rw [Heap.size_push, sz]
  have s3 : ((h1.push (tO L1)).push (tO L2)).objs.size = s.heap.objs.size + rows.length + 2 := by rw [Heap.size_push, s2]
  have gz : (((h1.push (tO L1)).push (tO L2)).push (zO h1.objs.size (h1.push (tO L1)).objs.size)).get? ((h1.push (tO L1)).push (tO L2)).objs.size = some (zO h1.objs.size (h1.push (tO L1)).objs.size) := Heap.get?_push_size _ rfl
  have g2 : (((h1.push (tO L1)).push (tO L2)).push (zO h1.objs.size (h1.push (tO L1)).objs.size)).get? (h1.push (tO L1)).objs.size = some (tO L2) := Heap.get?_push_of_some _ (Heap.get?_push_size _ rfl)
  have g1 : (((h1.push (tO L1)).push (tO L2)).push (zO h1.objs.size (h1.push (tO L1)).objs.size)).get? h1.objs.size = some (tO L1) := Heap.get?_push_of_some _ (Heap.get?_push_of_some _ (Heap.get?_push_size _ rfl))
  have kp3 : ∀ b o, s.heap.get? b = some o → (((h1.push (tO L1)).push (tO L2)).push (zO h1.objs.size (h1.push (tO L1)).objs.size)).get? b = some o := fun b o e => Heap.get?_push_of_some _ (Heap.get?_push_of_some _ (Heap.get?_push_of_some _ (kp b o e)))
  have it3 : ∀ q ∈ mkZ s.heap.objs.size rows, (((h1.push (tO L1)).push (tO L2)).push (zO h1.objs.size (h1.push (tO L1)).objs.size)).IsTupleIter q.it q.l 0 := fun q m => (its q m).at fun o e => Heap.get?_push_of_some _ (Heap.get?_push_of_some _ (Heap.get?_push_of_some _ e))
  show Q (.done (.ret (.ref ((h1.push (tO L1)).push (tO L2)).objs.size))) { s with heap := ((h1.push (tO L1)).push (tO L2)).push (zO h1.objs.size (h1.push (tO L1)).objs.size) }
  rw [s3] at gz ⊢
  generalize ((h1.push (tO L1)).push (tO L2)).push (zO h1.objs.size (h1.push (tO L1)).objs.size) = h3 at *
  rw [s2] at g2 gz
  rw [sz] at g1 gz
  refine hQ h3 kp3 gz ?_ ?_ it3
  · rw [hg1]; exact g1
  · rw [show ((mkZ s.heap.objs.size rows).map fun _ => Value.none) = L2 from hg2]; exact g2
theorem meets_zip (rows : List (Nat × List Value)) (hz : rows.length ≤ 1000) :
    Meets (Builtin.«zip.__new__» ⟨.type "zip" :: rows.map fun r => .ref r.1, []⟩)
      (fun _ R s => (∀ r ∈ rows, s.heap.IsTuple r.1 r.2.toArray) ∧ ∀ h' : Heap, (∀ b o, s.heap.get? b = some o → h'.get? b = some o) → IsZ h' (s.heap.objs.size + rows.length + 2) (s.heap.objs.size + rows.length) (s.heap.objs.size + rows.length + 1) .none false →
      IsTp h' (s.heap.objs.size + rows.length) ((mkZ s.heap.objs.size rows).map fun q => .ref q.it) → IsTp h' (s.heap.objs.size + rows.length + 1) ((mkZ s.heap.objs.size rows).map fun _ => .none) → (∀ q ∈ mkZ s.heap.objs.size rows, h'.IsTupleIter q.it q.l 0) →
        R (.ok (.ret (.ref (s.heap.objs.size + rows.length + 2)))) { s with heap := h' }) :=
  .of_wp fun prog w A R s ⟨hl, h⟩ => new_zip hz hl fun h' a b c d e => ⟨_, rfl, h h' a b c d e⟩
theorem call_zip {rows : List (Nat × List Value)} {Q : Value → Shared → Prop} (h0 : rows ≠ []) (h4 : rows.length ≤ 4) (hl : ∀ r ∈ rows, s.heap.IsTuple r.1 r.2.toArray)
    (hQ : ∀ h' : Heap, (∀ b o, s.heap.get? b = some o → h'.get? b = some o) → IsZ h' (s.heap.objs.size + rows.length + 2) (s.heap.objs.size + rows.length) (s.heap.objs.size + rows.length + 1) .none false →
      IsTp h' (s.heap.objs.size + rows.length) ((mkZ s.heap.objs.size rows).map fun q => .ref q.it) → IsTp h' (s.heap.objs.size + rows.length + 1) ((mkZ s.heap.objs.size rows).map fun _ => .none) → (∀ q ∈ mkZ s.heap.objs.size rows, h'.IsTupleIter q.it q.l 0) →
      Q (.ref (s.heap.objs.size + rows.length + 2)) { s with heap := h' }) :
    wpAny (model prog w) A (call (.type "zip") (rows.map fun r => .ref r.1)) Q E s := by
  have n0 : (rows.map fun r => Value.ref r.1) ≠ [] := by simpa using h0
  have n4 : (rows.map fun r => Value.ref r.1).length ≤ 4 := by simpa using h4
  refine callType_new F.called_zip (by decide) (typeCall_n _) (newCall_n _ n0 n4) (fun obj => init_n obj _ n0 n4) F.entry_zip_new (meets_zip rows (by omega)) ⟨hl, fun h' a b c d e => ?_⟩
  exact ⟨⟨_, b, rfl⟩, hQ h' a b c d e⟩
end
/-- zip called with what stands behind a star -/
theorem callWith_starT {M : Model} {A : Around} {E : Value → Shared → Prop} {s : Shared} {T : String} {env : Env} {pos p : Pos} {e : Expr} {Q : Value → Shared → Prop}
    (h : wpAny M A (eval e env) (fun v s₁ => PySem.W.StarOf M A E v (fun vs s₂ => wpAny M A (call (.type T) vs) Q E s₂) s₁) E s)
    (he : starEach [.Starred e p] env = [(true, eval e env)] := by rfl) :
    wpAny M A (callWith pos (.type T) [] (backTo pos (starEach [.Starred e p] env)) []) Q E s := by
  rw [he]
  exact PySem.W.ks_call (P := fun _ => True) rfl (fun h _ => ⟨Keeper.machine, .inr (.inl rfl), PySem.W.Looks.of_pure rfl⟩) (PySem.W.ks_lone (wpAny_mono h (fun v s1 z => wpAny_mono z (fun b s2 ⟨e, y⟩ => ⟨e, wpAny_mono y (fun vs s3 x => ⟨trivial, x⟩) fun _ _ z => z⟩) fun _ _ z => z) fun _ _ z => z))
end ZpS
set_option maxHeartbeats 2000000
namespace ZpS
open PySem PySem.Spec PyProof.Rows L2
abbrev Rows (K : PySem.W.Frag) (H : Hp) (ls : List Addr) (rows : List (List V)) : Prop := Paired (fun l xs => SqT K H l xs) ls rows
/-- the rows at ls as they stand at each turn; the i-th items of all in a new tuple -/
def ItS (K : PySem.W.Frag) (ls : List Addr) : It :=
  ⟨fun i H => ∃ rows : List (List V), Rows K H ls rows ∧ ∀ r ∈ rows, i < r.length,
   fun i H v H' => ∃ (T : Addr) (col : List V), v = .ref T ∧ H T = none ∧ H' = upd H T (.tup col) ∧ ∀ rows, Rows K H ls rows → col = rows.map fun r => r.getD i .non,
   fun i H => ∃ rows : List (List V), Rows K H ls rows ∧ ∀ r ∈ rows, r.length ≤ i⟩
structure ApartL (z TI TO : Nat) (its ls : List Addr) : Prop where
  TIz : TI ≠ z
  TOz : TO ≠ z
  TITO : TI ≠ TO
  iz : ∀ i ∈ its, i ≠ z ∧ i ≠ TI ∧ i ≠ TO
  nd : its.Nodup
  lz : ∀ l ∈ ls, l ≠ z ∧ l ≠ TO ∧ l ∉ its
theorem ApartL.of {z TI TO : Nat} {its ls : List Addr} {Z : List Rw} (D : ApartL z TI TO its ls) (h1 : Z.map (·.it) = its) (h2 : Z.map (·.l) = ls) : Apart z TI TO Z where
  TIz := D.TIz
  TOz := D.TOz
  TITO := D.TITO
  iz := fun q m => D.iz q.it (by rw [← h1]; exact List.mem_map_of_mem m)
  nd := by rw [h1]; exact D.nd
  lz := fun q m => by
    have z := D.lz q.l (by rw [← h2]; exact List.mem_map_of_mem m)
    exact ⟨z.1, z.2.1, fun q' m' e => z.2.2 (by rw [e, ← h1]; exact List.mem_map_of_mem m')⟩
section
variable {X : Cx} {pins : List (Addr × PySem.Obj)} {σ : L2.St} {H : Hp} {s : Shared}
theorem mkRows (I : Inv X pins σ H s) {k : Nat} : ∀ {its ls : List Addr} {rows : List (List V)}, Paired (fun i (l : Addr) => s.heap.IsTupleIter i l k) its ls → Rows X.K H ls rows →
    ∃ Z : List Rw, Z.map (·.it) = its ∧ Z.map (·.l) = ls ∧ RowsAt s.heap Z k ∧ (∀ n, (∀ r ∈ rows, n < r.length) → ∀ q ∈ Z, n < q.items.length) ∧ (∀ n, (∀ r ∈ rows, r.length ≤ n) → ∀ q ∈ Z, q.items.length ≤ n) ∧ ∀ n, Vals (rows.map fun r => r.getD n .non) (Z.map (at' n))
  | _, _, _, .nil, .nil => ⟨[], rfl, rfl, ⟨fun q m => (by cases m), fun q m => (by cases m)⟩, fun _ _ q m => (by cases m), fun _ _ q m => (by cases m), fun _ => .nil⟩
  | i :: its, l :: ls, r :: rows, .cons h1 t1, .cons h2 t2 => by
    obtain ⟨Z, e1, e2, R, b1, b2, b3⟩ := mkRows I t1 t2
    obtain ⟨us, rv, p, hz⟩ := I.tuple h2
    have hl := rv.length
    refine ⟨⟨i, l, us⟩ :: Z, by rw [List.map_cons, e1], by rw [List.map_cons, e2], ⟨fun q m => ?_, fun q m => ?_⟩, fun n h q m => ?_, fun n h q m => ?_, fun n => .cons (CmK.vals_getD rv n) (b3 n)⟩
    · rcases List.mem_cons.mp m with e | e
      · subst e; exact h1
      · exact R.it q e
    · rcases List.mem_cons.mp m with e | e
      · subst e; exact p
      · exact R.tp q e
    · rcases List.mem_cons.mp m with e | e
      · subst e
        have := h r (List.mem_cons_self ..)
        show n < us.length
        omega
      · exact b1 n (fun r m => h r (List.mem_cons_of_mem _ m)) q e
    · rcases List.mem_cons.mp m with e | e
      · subst e
        have := h r (List.mem_cons_self ..)
        show us.length ≤ n
        omega
      · exact b2 n (fun r m => h r (List.mem_cons_of_mem _ m)) q e
end
theorem paired_len {α : Type} {G : Addr → α → Prop} {as : List Addr} {l : List α} (h : Paired G as l) : as.length = l.length := by
  induction h with
  | nil => rfl
  | cons _ _ ih => rw [List.length_cons, List.length_cons, ih]
theorem paired_of {Z : List Rw} {G : Addr → Addr → Prop} (h : ∀ q ∈ Z, G q.it q.l) : Paired G (Z.map (·.it)) (Z.map (·.l)) := by
  induction Z with
  | nil => exact .nil
  | cons q Z ih => exact .cons (h q (List.mem_cons_self ..)) (ih fun q m => h q (List.mem_cons_of_mem _ m))
theorem paired_mono {α : Type} {G G' : Addr → α → Prop} {as : List Addr} {l : List α} (h : Paired G as l) (f : ∀ a ∈ as, ∀ b, G a b → G' a b) : Paired G' as l := by
  induction h with
  | nil => exact .nil
  | cons x _ ih => exact .cons (f _ (List.mem_cons_self ..) _ x) (ih fun a m => f a (List.mem_cons_of_mem _ m))
/-- how a zip stands ahead of turn i -/
def AtZ (z TI TO : Nat) (its ls : List Addr) (i : Nat) (h : Heap) : Prop :=
  ∃ (f0 : Value) (c : Bool) (kept : List Value), (f0 = .none ∨ ∃ a : Nat, f0 = rawInt a) ∧ IsZ h z TI TO f0 c ∧ IsTp h TI (its.map Value.ref) ∧ IsTp h TO kept ∧ kept.length = its.length ∧ Paired (fun j (l : Addr) => h.IsTupleIter j l i) its ls
theorem turn_zipS {Pr : Program} {w : World} {K : PySem.W.Frag} {nm : Str} {npos : Pos} {z TI TO : Nat} {its ls : List Addr} (D : ApartL z TI TO its ls) (h0 : ls ≠ []) (h4 : ls.length ≤ 4) :
    Turn Pr w K (.Name nm npos) (ItS K ls) (z :: TI :: TO :: its) z (AtZ z TI TO its ls) where
  mem := by simp
  obj := fun i h st b hb => by
    obtain ⟨f0, c, kept, hf, hz, hTI, hTO, hk, hp⟩ := st
    rcases List.mem_cons.mp hb with e | hb
    · rw [e]; exact ⟨_, hz, fun v z => nomatch z⟩
    · rcases List.mem_cons.mp hb with e | hb
      · rw [e]; exact ⟨_, hTI, fun v z => nomatch z⟩
      · rcases List.mem_cons.mp hb with e | hb
        · rw [e]; exact ⟨_, hTO, fun v z => nomatch z⟩
        · have : ∀ {its ls : List Addr}, Paired (fun j (l : Addr) => h.IsTupleIter j l i) its ls → ∀ b ∈ its, ∃ o, h.get? b = some o ∧ ∀ v, o.data ≠ .cell v := by
            intro its ls hp
            induction hp with
            | nil => intro b m; cases m
            | cons x _ ih =>
              intro b m
              rcases List.mem_cons.mp m with e | m
              · subst e
                obtain ⟨o, ho, _, d⟩ := x
                exact ⟨o, ho, fun v z => by rw [d] at z; cases z⟩
              · exact ih b m
          exact this hp b hb
  keep := fun i h h' st k => by
    obtain ⟨f0, c, kept, hf, hz, hTI, hTO, hk, hp⟩ := st
    exact ⟨f0, c, kept, hf, k z (by simp) _ hz, k TI (by simp) _ hTI, k TO (by simp) _ hTO, hk, paired_mono hp fun a m b x => x.at fun o q => k a (by simp [m]) o q⟩
  item := by
    intro X hP hw hK hcalm i pins s σ H E I hf st hg
    subst hP hw hK
    have line : (100000 : Nat) < sizeLine := by decide
    obtain ⟨f0, c, kept, hf0, hz, hTI, hTO, hk, hp⟩ := st
    obtain ⟨rows, hR, hlt⟩ := hg
    obtain ⟨Z, e1, e2, R, b1, b2, b3⟩ := mkRows I hp hR
    have DZ := D.of e1 e2
    have lZ : Z.length = its.length := by rw [← e1, List.length_map]
    have lZ2 : Z.length = ls.length := by rw [← e2, List.length_map]
    have hne : Z ≠ [] := fun e => h0 (by rw [← e2, e]; rfl)
    have hzl : z < s.heap.objs.size := Heap.lt_size hz
    refine wpAny_mono (pyNext_of (Q := fun o s1 => ∃ h', o = some (.ref s.heap.objs.size) ∧ s1 = { s with heap := h' } ∧ AtZ z TI TO its ls (i + 1) h' ∧ IsTp h' s.heap.objs.size (Z.map (at' i)) ∧ ∀ c o, c ≠ z → c ≠ TO → c ∉ its → s.heap.get? c = some o → h'.get? c = some o) hz (wpAny_mono
      (zip_item DZ hne (by omega) hf0 hz (by rw [show (Z.map fun q => Value.ref q.it) = (Z.map (·.it)).map Value.ref by rw [List.map_map]; rfl, e1]; exact hTI) hTO (by rw [hk, lZ]) R (b1 i hlt)
        (Q := fun v s1 => ∃ h', v = .ref s.heap.objs.size ∧ s1 = { s with heap := h' } ∧ AtZ z TI TO its ls (i + 1) h' ∧ IsTp h' s.heap.objs.size (Z.map (at' i)) ∧ ∀ c o, c ≠ z → c ≠ TO → c ∉ its → s.heap.get? c = some o → h'.get? c = some o)
        fun h' f0' c' kept' g1 g2 g3 g4 g5 g6 g7 g8 => ⟨h', rfl, rfl, ⟨f0', c', kept', g1, g2, ?_, g3, by rw [g4, lZ], ?_⟩, g6, fun c o c1 c2 c3 e => g8 c o c1 c2 (fun q m x => c3 (by rw [x, ← e1]; exact List.mem_map_of_mem m)) e⟩)
      (fun fin s1 hq => by obtain ⟨v, ev, h', e3, rest⟩ := hq; exact ⟨v, ev, h', by rw [e3], rest⟩) fun _ _ z => z)) (fun o s1 hq => ?_) fun _ _ z => z
    · exact g8 TI _ D.TIz D.TITO (fun q m x => (DZ.iz q m).2.1 x.symm) hTI
    · have := paired_of (G := fun j (l : Addr) => h'.IsTupleIter j l (i + 1)) g5
      rw [e1, e2] at this
      exact this
    · obtain ⟨h', eo, es, st', a, kp⟩ := hq
      subst eo es
      refine ⟨_, rfl, ?_⟩
      unfold letOwnedTupleGo
      refine wpAny_pure ?_
      have new : ObjOk X.prog X.w (upd H s.heap.objs.size (.tup (rows.map fun r => r.getD i .non))) h' s.heap.objs.size (.tup (rows.map fun r => r.getD i .non)) :=
        ⟨by show (rows.map _).length ≤ sizeLine
            rw [List.length_map, ← paired_len hR]; omega, _, b3 i, ⟨_, a, rfl, _, rfl⟩⟩
      have I1 : Inv X pins σ (upd H s.heap.objs.size (.tup (rows.map fun r => r.getD i .non))) { s with heap := h' } :=
        I.turnedNew (t' := s.toks) (ch := z :: TI :: TO :: its) (fun b o hb q => kp b o (fun x => hb (by simp [x])) (fun x => hb (by simp [x])) (fun x => hb (by simp [x])) q) hf (Nat.le_refl _) new
      refine ⟨.ref s.heap.objs.size, _, I1, rfl, ⟨_, _, rfl, I.hok.fresh (Nat.le_refl _), rfl, fun rows2 hR2 => ?_⟩, st', fun b hb => ?_⟩
      · have : ∀ {ls : List Addr} {rows rows2 : List (List V)}, Rows X.K H ls rows → Rows X.K H ls rows2 → rows = rows2 := by
          intro ls rows rows2 h1
          induction h1 generalizing rows2 with
          | nil => intro h2; cases h2; rfl
          | cons x _ ih =>
            intro h2
            cases h2 with
            | cons y t2 => rw [ih t2, I.tuple_inj x y]
        rw [this hR hR2]
      · have hlt2 : b < s.heap.objs.size := by
          rcases List.mem_cons.mp hb with e | hb
          · rw [e]; exact hzl
          · rcases List.mem_cons.mp hb with e | hb
            · rw [e]; exact Heap.lt_size hTI
            · rcases List.mem_cons.mp hb with e | hb
              · rw [e]; exact Heap.lt_size hTO
              · rw [← e1] at hb
                obtain ⟨q, m, eq⟩ := List.mem_map.mp hb
                obtain ⟨o, ho, _⟩ := R.it q m
                rw [← eq]
                exact Heap.lt_size ho
        rw [upd_ne (Nat.ne_of_lt hlt2)]
        exact (hf b hb).1
  done := by
    intro X hP hw hK hcalm i pins s σ H E I hf st hg
    subst hP hw hK
    obtain ⟨f0, c, kept, hf0, hz, hTI, hTO, hk, hp⟩ := st
    obtain ⟨rows, hR, hle⟩ := hg
    obtain ⟨Z, e1, e2, R, b1, b2, b3⟩ := mkRows I hp hR
    have DZ := D.of e1 e2
    cases Z with
    | nil => exact absurd (show ls = [] by rw [← e2]; rfl) h0
    | cons q Z =>
      refine pyNext_of hz (zip_end (I.ok.hd hcalm) DZ hf0 hz (by rw [show ((q :: Z).map fun q => Value.ref q.it) = ((q :: Z).map (·.it)).map Value.ref by rw [List.map_map]; rfl, e1]; exact hTI) (R.it q (List.mem_cons_self ..)) (R.tp q (List.mem_cons_self ..)) (b2 i hle q (List.mem_cons_self ..)) fun h' e kp ⟨o, ho, hc⟩ => ⟨⟨e, o, rfl, ho, hc⟩, rfl, ?_⟩)
      refine I.turnedL (t' := s.toks) (ch := z :: TI :: TO :: its) (fun b o hb y => kp b o (fun x => hb (by simp [x])) (fun x => hb ?_) y) hf
      rw [x, ← e1]
      simp
  self := fun A i s Q E st h => by
    obtain ⟨f0, c, kept, hf, hz, hTI, hTO, hk, hp⟩ := st
    exact iter_zip hz h
theorem tupRows {X : Cx} {pins : List (Addr × PySem.Obj)} {σ : L2.St} {H : Hp} {s : Shared} (I : Inv X pins σ H s) : ∀ {ls : List Addr} {rows : List (List V)}, Rows X.K H ls rows →
    ∃ rw' : List (Nat × List Value), rw'.map (·.1) = ls ∧ ∀ r ∈ rw', s.heap.IsTuple r.1 r.2.toArray
  | _, _, .nil => ⟨[], rfl, fun r m => (by cases m)⟩
  | l :: ls, r :: rows, .cons h t => by
    obtain ⟨rw', e, ht⟩ := tupRows I t
    obtain ⟨us, rv, p, hz⟩ := I.tuple h
    refine ⟨(l, us) :: rw', by rw [List.map_cons, e], fun r m => ?_⟩
    rcases List.mem_cons.mp m with e | m
    · subst e; exact p
    · exact ht r m
def iZipS (K : PySem.W.Frag) (te : TE) : TI := fun σ H R => te σ H fun x H1 => ∃ (a : Addr) (ls : List Addr) (rows : List (List V)), x = .ref a ∧ SqT K H1 a (ls.map V.ref) ∧ Rows K H1 ls rows ∧ ls ≠ [] ∧ ls.length ≤ 4 ∧ R (ItS K ls) H1
theorem pi_zipS {X : Cx} {nm : Str} {npos : Pos} {e : Expr} {te : TE} {p pos sp : Pos} (hg : Gl X "zip") (hm : X.mg "zip" = none) (he : PE X e te)
    (hst : starEach [.Starred e sp] X.env = [(true, eval e X.env)] := by rfl) :
    PI X (.Name nm npos) (.Call (.Name "zip" p) [.Starred e sp] [] pos) (iZipS X.K te) := by
  refine ⟨fun pins s σ H R I h => ?_⟩
  refine Call_ (ld_blt I hg hm PyProof.Rows.boot_zip (callWith_starT (thn (he.run pins s σ H _ I h) fun v s1 ⟨x, H1, I1, r1, q1⟩ => ?_) hst))
  obtain ⟨a, ls, rows, ex, hq, hR, h0, h4, q⟩ := q1
  subst ex
  obtain rfl : v = Value.ref a := r1
  refine StX.star_any I1 (.inl hq) fun us s2 I2 rv => ?_
  have eu : us = ls.map Value.ref := by
    clear hq hR q h0 h4
    induction ls generalizing us with
    | nil => cases rv; rfl
    | cons l ls ih =>
      cases rv with
      | cons r t =>
        cases r
        rw [List.map_cons, ih _ t]
  subst eu
  obtain ⟨rw', e1, ht⟩ := tupRows I2 hR
  have el : ls.length = rw'.length := by rw [← e1, List.length_map]
  have hn : rw' ≠ [] := fun e => h0 (by rw [← e1, e]; rfl)
  have eargs : ls.map Value.ref = rw'.map fun r => Value.ref r.1 := by rw [← e1, List.map_map]; rfl
  rw [eargs]
  refine call_zip hn (by omega) ht fun h' kp hz hTI hTO its => iter_zip hz ?_
  have I3 : Inv X pins σ H1 { s2 with heap := h' } := I2.kept (t' := s2.toks) kp
  have mk1 : (mkZ s2.heap.objs.size rw').map (·.l) = ls := by
    rw [← e1]
    have : ∀ (n : Nat) (r : List (Nat × List Value)), (mkZ n r).map (·.l) = r.map (·.1) := by
      intro n r
      induction r generalizing n with
      | nil => rfl
      | cons a t ih => exact congrArg (a.1 :: ·) (ih (n + 1))
    exact this _ _
  have lt : ∀ r ∈ rw', r.1 < s2.heap.objs.size := fun r m => by
    obtain ⟨o, ho, _⟩ := ht r m
    exact Heap.lt_size ho
  have D : ApartL (s2.heap.objs.size + rw'.length + 2) (s2.heap.objs.size + rw'.length) (s2.heap.objs.size + rw'.length + 1) ((mkZ s2.heap.objs.size rw').map (·.it)) ls := by
    have D := mkZ_apart (n := s2.heap.objs.size) (N := rw'.length) rfl lt
    refine ⟨D.TIz, D.TOz, D.TITO, fun i m => ?_, D.nd, fun l m => ?_⟩
    · obtain ⟨q, hq, e⟩ := List.mem_map.mp m
      rw [← e]
      exact D.iz q hq
    · rw [← mk1] at m
      obtain ⟨q, hq, e⟩ := List.mem_map.mp m
      rw [← e]
      have z := D.lz q hq
      exact ⟨z.1, z.2.1, fun m' => by
        obtain ⟨q', hq', e'⟩ := List.mem_map.mp m'
        exact z.2.2 q' hq' e'.symm⟩
  have hit : Paired (fun j (l : Addr) => h'.IsTupleIter j l 0) ((mkZ s2.heap.objs.size rw').map (·.it)) ls := by
    have := paired_of (G := fun j (l : Addr) => h'.IsTupleIter j l 0) its
    rw [mk1] at this
    exact this
  refine ⟨s2.heap.objs.size + rw'.length + 2, _, _, _, H1, rfl, I3, turn_zipS D h0 h4, ⟨.none, false, _, .inl rfl, hz, ?_, hTO, by rw [List.length_map, List.length_map], hit⟩, fun b hb => ?_, q⟩
  · rw [List.map_map]
    exact hTI
  · have hle : s2.heap.objs.size ≤ b := by
      rcases List.mem_cons.mp hb with e | hb
      · rw [e]; exact Nat.le_trans (Nat.le_add_right _ rw'.length) (Nat.le_add_right _ 2)
      · rcases List.mem_cons.mp hb with e | hb
        · rw [e]; exact Nat.le_add_right _ _
        · rcases List.mem_cons.mp hb with e | hb
          · rw [e]; exact Nat.le_trans (Nat.le_add_right _ rw'.length) (Nat.le_add_right _ 1)
          · obtain ⟨r, hr, e⟩ := List.mem_map.mp hb
            rw [← e]
            exact (mkZ_mem hr).1
    exact I2.fpOk hle (I2.hok.fresh hle)
end ZpS
namespace Z
open PySem PySem.Spec PyProof.Rows L2
section
variable {X : Cx} (K : PySem.W.Frag)
theorem pi_combK {tg e e2 : Expr} {ta : TA} {p pos : Pos} (hg : Gl X "combinations") (hm : X.mg "combinations" = some (.type CmK.cT)) (ha : PA X [e, e2] ta)
    (hs : starEach [e, e2] X.env = (false, eval e X.env) :: starEach [e2] X.env := by rfl) (hpl : (backTo pos (starEach [e2] X.env)).any (·.1) = false := by rfl) (ek : X.K = K := by rfl) :
    PI X tg (.Call (.Name "combinations" p) [e, e2] [] pos) (CmK.iComb K ta) := by subst ek; exact CmK.pi_comb hg hm ha hs hpl
theorem pi_zipSK {nm : Str} {npos : Pos} {e : Expr} {te : TE} {p pos sp : Pos} (hg : Gl X "zip") (hm : X.mg "zip" = none) (he : PE X e te)
    (hst : starEach [.Starred e sp] X.env = [(true, eval e X.env)] := by rfl) (ek : X.K = K := by rfl) :
    PI X (.Name nm npos) (.Call (.Name "zip" p) [.Starred e sp] [] pos) (ZpS.iZipS K te) := by subst ek; exact ZpS.pi_zipS hg hm he hst
def rLst (K : PySem.W.Frag) : List V → Hp → VK → Prop := fun xs H Q => ∃ p ys, xs = [.ref p] ∧ (SqL K H p ys ∨ SqT K H p ys) ∧ ∀ l, H l = none → Q (.ref l) (upd H l (.lst ys))
theorem c_lstK (e : X.K = K := by rfl) : CallR X (.type "list") (rLst K) := by subst e; exact call_list_of
end
section
variable {K : PySem.W.Frag} {σ : L2.St} {H : Hp} {r : VK} {n : L2.St → Hp → Prop} {Q : VK}
def WlkC (K : PySem.W.Frag) (vs : List V) (H : Hp) (R : It → Hp → Prop) : Prop := ∃ (a : Addr) (xs : List V) (k : Nat), vs = [.ref a, .int k] ∧ SqL K H a xs ∧ k ≤ xs.length ∧ xs.length ≤ 1000 ∧ R (CmK.ItC xs k) H
theorem s_icomb {ta : TA} {R : It → Hp → Prop} (h : ta σ H fun vs H1 => WlkC K vs H1 R) : CmK.iComb K ta σ H R := h
theorem s_icombv {a : Addr} {xs : List V} {k : Nat} {R : It → Hp → Prop} (hx : SqL K H a xs) (h1 : k ≤ xs.length) (h2 : xs.length ≤ 1000) (h : R (CmK.ItC xs k) H) : WlkC K [.ref a, .int k] H R := ⟨a, xs, k, rfl, hx, h1, h2, h⟩
theorem w_comb {g : TG} {tb : TS} {xs : List V} {k : Nat} (hk : k ≤ xs.length) (Pv : L2.St → Hp → Prop) (Bad : List Nat → Prop) (h0 : Pv σ H)
    (hs : ∀ c T σ H H', CmK.Ok xs.length 0 c → c.length = k → Pv σ H → H T = none → Same H H' → H' T = some (.tup (c.map fun j => xs.getD j .non)) → g (.ref T) σ H' fun σ2 H2 => tb ⟨fun σ' H' => Bad c ∧ Pv σ' H', r, n, fun σ' H' => Bad c ∧ Pv σ' H'⟩ σ2 H2)
    (hd : ∀ σ H, (∀ c, CmK.Ok xs.length 0 c → c.length = k → Bad c) → Pv σ H → n σ H) : ForW g tb r n (CmK.ItC xs k) σ H :=
  CmK.for_comb (D := ⟨n, r, fun _ _ => False, fun _ _ => False⟩) hk Pv Bad h0 (fun c T σ H ok hl p hT => hs c T σ H _ ok hl p hT (Same.new hT) upd_same) hd
def WlkS (K : PySem.W.Frag) (x : V) (H : Hp) (R : It → Hp → Prop) : Prop := ∃ (a : Addr) (ls : List Addr) (rows : List (List V)), x = .ref a ∧ SqT K H a (ls.map V.ref) ∧ ZpS.Rows K H ls rows ∧ ls ≠ [] ∧ ls.length ≤ 4 ∧ R (ZpS.ItS K ls) H
theorem s_izip {te : TE} {R : It → Hp → Prop} (h : te σ H fun x H1 => WlkS K x H1 R) : ZpS.iZipS K te σ H R := h
theorem s_izipv {a : Addr} {ls : List Addr} {rows : List (List V)} {R : It → Hp → Prop} (hx : SqT K H a (ls.map V.ref)) (hr : ZpS.Rows K H ls rows) (h1 : ls ≠ []) (h2 : ls.length ≤ 4) (h : R (ZpS.ItS K ls) H) : WlkS K (.ref a) H R := ⟨a, ls, rows, rfl, hx, hr, h1, h2, h⟩
theorem rows_same {H H' : Hp} {ls : List Addr} {rows : List (List V)} (h : ZpS.Rows K H ls rows) (s : Same H H') : ZpS.Rows K H' ls rows := L2.Paired.mapP h fun a xs h => sqt_same s h
theorem l_mapZ {g : TG} {tt : TT} {te : TE} {vs : List Nat} {ls : List Addr} {rows : List (List V)} {m : Nat} (F : Nat → V) (hx : ZpS.Rows K H ls rows) (hm : ∀ r ∈ rows, r.length = m) (hz : m ≤ 100000)
    (hs : ∀ (D : Addr) (N : Hp → Prop) (i : Nat) (T : Addr) (H' : Hp), i < m → Same H H' → H' T = some (.tup (rows.map fun r => r.getD i .non)) → (∀ H4, Same H' H4 → LcEnd D N (F i) H4) → g (.ref T) (wipe σ vs) H' fun σ2 H2 => wipe σ2 vs = wipe σ vs ∧ tt σ2 H2 fun b H3 => if b = true then te σ2 H3 fun y H4 => LcEnd D N y H4 else N H3)
    (hd : ∀ D H', H D = none → Same H H' → H' D = some (.lst ((List.range m).map F)) → Q (.ref D) H') : LcW g tt te vs Q σ (ZpS.ItS K ls) H := by
  have line : (100000 : Nat) < sizeLine := by decide
  intro D nD
  have wk : Walk (ZpS.ItS K ls) m (fun H' => Same H H') (fun i H' x H'' => ∃ T, x = .ref T ∧ Same H' H'' ∧ H'' T = some (.tup (rows.map fun r => r.getD i .non))) := by
    refine ⟨fun i H' hi sm => ⟨rows, rows_same hx sm, fun r mr => by rw [hm r mr]; exact hi⟩, fun H' sm => ⟨rows, rows_same hx sm, fun r mr => by rw [hm r mr]; exact Nat.le_refl _⟩, fun i H' x H'' hi sm y => ?_⟩
    obtain ⟨T, col, rfl, hT, rfl, hc⟩ := y
    refine ⟨T, rfl, Same.new hT, ?_⟩
    rw [← hc rows (rows_same hx sm)]
    exact upd_same
  refine lc_it wk (fun i H' => H D = none ∧ Same H H' ∧ H' D = some (.lst ((List.range i).map F))) ⟨nD, Same.new nD, upd_same⟩ (fun i H' _ p => p.2.1) ?_ fun H' p => hd D H' p.1 p.2.1 p.2.2
  rintro i x H' H'' hi ⟨n, sm, eD⟩ ⟨T, rfl, s2, hT⟩
  refine hs D (fun H' => H D = none ∧ Same H H' ∧ H' D = some (.lst ((List.range (i + 1)).map F))) i T H'' hi (sm.trans s2) hT fun H4 s4 => ?_
  refine s_lcEnd (s4 _ _ (s2 _ _ eD)) (by rw [List.length_map, List.length_range]; omega) fun H5 b5 e5 => ⟨n, But.same b5 ((sm.trans s2).trans s4) n, ?_⟩
  rw [map_range_succ]
  exact e5
theorem s_lstT {p : Addr} {xs : List V} (hx : SqT K H p xs) (h : ∀ q H', H q = none → Same H H' → H' q = some (.lst xs) → Q (.ref q) H') : rLst K [.ref p] H Q := ⟨p, xs, rfl, .inr hx, s_new h⟩
theorem s_lstL {p : Addr} {xs : List V} (hx : SqL K H p xs) (h : ∀ q H', H q = none → Same H H' → H' q = some (.lst xs) → Q (.ref q) H') : rLst K [.ref p] H Q := ⟨p, xs, rfl, .inl hx, s_new h⟩
end
end Z
section
open PySem PySem.Spec PyProof.Rows L2 Z
local macro_rules | `(tactic| ktr_room) => `(tactic| first
  | assumption
  | (apply SqT.of; assumption)
  | (apply SqL.of; assumption)
  | (apply sqt_same; assumption; ktr_room)
  | (apply sql_same; assumption; ktr_room)
  | (apply sqt_but; assumption; assumption; ktr_room)
  | (apply sql_but; assumption; assumption; ktr_room)
  | (apply Same.of_; assumption; ktr_room)
  | (apply But.of_; assumption; assumption; ktr_room)
  | exact same_refl
  | exact but_refl
  | (apply same_tr; assumption; ktr_room)
  | (apply same_but; assumption; ktr_room; assumption)
  | (apply but_tr; assumption; ktr_room)
  | (apply but_trB; assumption; ktr_room))
local macro_rules | `(tactic| ktr_units) => `(tactic| first | with_reducible assumption | omega | rfl | exact ⟨by omega, by omega⟩ | exact .inl ⟨by omega, by omega⟩ | exact .inr ⟨by omega, by omega⟩ | exact ⟨by decide, by decide, by decide⟩ | exact Nat.le_of_ble_eq_true rfl | decide)
local macro_rules | `(tactic| kc_close) => `(tactic| repeat (with_reducible first
  | refine s_var (by with_unfolding_all rfl) ?_
  | refine s_c ?_
  | refine s_op ?_
  | refine s_rI0 ?_
  | refine s_asg ?_
  | refine s_gname ?_
  | refine s_seq ?_
  | refine s_cons ?_
  | refine s_nil ?_
  | refine s_call ?_
  | refine s_ret ?_
  | o_fieldsN
  | refine s_test ?_
  | refine s_bl ?_
  | refine s_rI (by with_unfolding_all (ktr_units)) ?_
  | refine s_rEq rfl ?_
  | refine s_rNe rfl ?_
  | refine s_cb ?_
  | refine s_int1 ?_
  | refine s_intB ?_
  | refine s_max2 ?_
  | refine s_min2 ?_
  | refine s_tup ?_
  | refine s_lst ?_
  | refine s_newT (by with_unfolding_all first | decide | exact Nat.le_of_ble_eq_true rfl) ?_
  | refine s_newL (by with_unfolding_all first | decide | exact Nat.le_of_ble_eq_true rfl) ?_
  | refine s_ixT (by ktr_room) (by with_unfolding_all rfl) ?_
  | refine s_ixL (by ktr_room) (by with_unfolding_all rfl) ?_
  | refine s_lenT (by ktr_room) ?_
  | refine s_lenL (by ktr_room) ?_
  | refine s_un ?_
  | refine s_rU ?_
  | refine s_and ?_
  | refine s_or ?_
  | refine s_not ?_
  | refine s_tB ?_
  | refine s_tru ?_
  | refine s_drop ?_
  | refine s_next ?_
  | refine s_for ?_
  | refine s_rng1 ?_
  | refine s_rng2 ?_
  | refine s_rng3 ?_
  | refine s_ilist ?_
  | refine s_itup ?_
  | refine s_iany ?_
  | refine s_ienum ?_
  | refine s_irev ?_
  | refine s_gcons ?_
  | refine s_gnil ?_
  | refine s_gtup (by ktr_room) (by with_unfolding_all rfl) ?_
  | refine s_gsub ?_
  | refine s_augS ?_
  | refine s_aug (by with_unfolding_all rfl) ?_
  | refine s_ipI ?_
  | refine s_bm ?_
  | refine s_bm0 ?_
  | refine s_tyL (by ktr_room) ?_
  | refine s_tyL0 (by ktr_room) ?_
  | refine s_sl ?_
  | refine s_part ?_
  | refine s_partv ?_
  | refine s_noPart ?_
  | refine s_lc ?_
  | refine s_yes ?_
  | refine s_wipe (by with_unfolding_all rfl) ?_
  | refine iteT ?_
  | refine s_retN ?_
  | refine s_isN ?_
  | refine s_truB ?_
  | refine s_isB2 ?_
  | refine s_notB2 ?_
  | refine s_revT ?_
  | refine s_andV ?_
  | refine s_orV ?_
  | refine s_ifE ?_
  | refine s_notK ?_
  | refine s_notN ?_
  | refine s_truL (by ktr_room) ?_
  | refine s_truT (by ktr_room) ?_))
namespace K1
def topS (i : Nat) : Stmt := PySem.Challenge.pw_sortes_k15_scripts_at_their_bounds.main.body.getD i (.Pass ⟨0, 0, 0, 0⟩)
structure NoB (mg : Str → Option Value) : Prop where
  n_all : mg "all" = none
  n_bool : mg "bool" = none
  n_int : mg "int" = none
  n_isinstance : mg "isinstance" = none
  n_len : mg "len" = none
  n_list : mg "list" = none
  n_range : mg "range" = none
  n_sorted : mg "sorted" = none
  n_str : mg "str" = none
  n_tuple : mg "tuple" = none
  n_zip : mg "zip" = none
structure Gs (K : PySem.W.Frag) (mg : Str → Option Value) : Prop where
  g_DIFFERENT : ∃ u, mg "DIFFERENT" = some u ∧ RelV (.ref (refAt mg "DIFFERENT")) u
  w_DIFFERENT : ∃ b0 b1 b2 b3 : Addr, WInt K (refAt mg "DIFFERENT") [(1, b0), (2, b1), (3, b2), (4, b3)] ∧ WTup K b0 [.int 1, .int 2] ∧ WTup K b1 [.int 1, .int 2] ∧ WTup K b2 [.int 1, .int 4] ∧ WTup K b3 [.int 3, .int 4]
  g_FORMS : ∃ u, mg "FORMS" = some u ∧ RelV (.ref (refAt mg "FORMS")) u
  w_FORMS : ∃ b0 b1 b2 b3 b4 b5 b6 b7 : Addr, WInt K (refAt mg "FORMS") [(1, b0), (2, b1), (3, b2), (4, b3), (5, b4), (6, b5), (7, b6), (8, b7)] ∧ WTup K b0 [.str "party", .str "party", .str "index", .str "place"] ∧ WTup K b1 [.str "party", .str "party", .str "party", .str "index"] ∧ WTup K b2 [.str "party", .str "board", .str "party", .str "party"] ∧ WTup K b3 [.str "party", .str "board", .str "party", .str "party", .str "index"] ∧ WTup K b4 [.str "party", .str "board", .str "party"] ∧ WTup K b5 [.str "party", .str "board", .str "party", .str "index", .str "place"] ∧ WTup K b6 [.str "party", .str "board", .str "party"] ∧ WTup K b7 [.str "party", .str "board", .str "index"]
  g_MOST_RULES : ∃ u, mg "MOST_RULES" = some u ∧ RelV (.int 40) u
end K1
end
section
open PySem PySem.Spec PyProof.Rows L2 Z
local macro_rules | `(tactic| ktr_room) => `(tactic| first
  | assumption
  | (apply SqT.of; assumption)
  | (apply SqL.of; assumption)
  | (apply sqt_same; assumption; ktr_room)
  | (apply sql_same; assumption; ktr_room)
  | (apply sqt_but; assumption; assumption; ktr_room)
  | (apply sql_but; assumption; assumption; ktr_room)
  | (apply Same.of_; assumption; ktr_room)
  | (apply But.of_; assumption; assumption; ktr_room)
  | exact same_refl
  | exact but_refl
  | (apply same_tr; assumption; ktr_room)
  | (apply same_but; assumption; ktr_room; assumption)
  | (apply but_tr; assumption; ktr_room)
  | (apply but_trB; assumption; ktr_room))
local macro_rules | `(tactic| ktr_units) => `(tactic| first | with_reducible assumption | omega | rfl | exact ⟨by omega, by omega⟩ | exact .inl ⟨by omega, by omega⟩ | exact .inr ⟨by omega, by omega⟩ | exact ⟨by decide, by decide, by decide⟩ | exact Nat.le_of_ble_eq_true rfl | decide)
local macro_rules | `(tactic| kc_close) => `(tactic| repeat (with_reducible first
  | refine s_var (by with_unfolding_all rfl) ?_
  | refine s_c ?_
  | refine s_op ?_
  | refine s_rI0 ?_
  | refine s_asg ?_
  | refine s_gname ?_
  | refine s_seq ?_
  | refine s_cons ?_
  | refine s_nil ?_
  | refine s_call ?_
  | refine s_ret ?_
  | o_fieldsN
  | refine s_test ?_
  | refine s_bl ?_
  | refine s_rI (by with_unfolding_all (ktr_units)) ?_
  | refine s_rEq rfl ?_
  | refine s_rNe rfl ?_
  | refine s_cb ?_
  | refine s_int1 ?_
  | refine s_intB ?_
  | refine s_max2 ?_
  | refine s_min2 ?_
  | refine s_tup ?_
  | refine s_lst ?_
  | refine s_newT (by with_unfolding_all first | decide | exact Nat.le_of_ble_eq_true rfl) ?_
  | refine s_newL (by with_unfolding_all first | decide | exact Nat.le_of_ble_eq_true rfl) ?_
  | refine s_ixT (by ktr_room) (by with_unfolding_all rfl) ?_
  | refine s_ixL (by ktr_room) (by with_unfolding_all rfl) ?_
  | refine s_lenT (by ktr_room) ?_
  | refine s_lenL (by ktr_room) ?_
  | refine s_un ?_
  | refine s_rU ?_
  | refine s_and ?_
  | refine s_or ?_
  | refine s_not ?_
  | refine s_tB ?_
  | refine s_tru ?_
  | refine s_drop ?_
  | refine s_next ?_
  | refine s_for ?_
  | refine s_rng1 ?_
  | refine s_rng2 ?_
  | refine s_rng3 ?_
  | refine s_ilist ?_
  | refine s_itup ?_
  | refine s_iany ?_
  | refine s_ienum ?_
  | refine s_irev ?_
  | refine s_gcons ?_
  | refine s_gnil ?_
  | refine s_gtup (by ktr_room) (by with_unfolding_all rfl) ?_
  | refine s_gsub ?_
  | refine s_augS ?_
  | refine s_aug (by with_unfolding_all rfl) ?_
  | refine s_ipI ?_
  | refine s_bm ?_
  | refine s_bm0 ?_
  | refine s_tyL (by ktr_room) ?_
  | refine s_tyL0 (by ktr_room) ?_
  | refine s_sl ?_
  | refine s_part ?_
  | refine s_partv ?_
  | refine s_noPart ?_
  | refine s_lc ?_
  | refine s_yes ?_
  | refine s_wipe (by with_unfolding_all rfl) ?_
  | refine iteT ?_
  | refine s_retN ?_
  | refine s_isN ?_
  | refine s_truB ?_
  | refine s_isB2 ?_
  | refine s_notB2 ?_
  | refine s_revT ?_
  | refine s_andV ?_
  | refine s_orV ?_
  | refine s_ifE ?_
  | refine s_notK ?_
  | refine s_notN ?_
  | refine s_truL (by ktr_room) ?_
  | refine s_truT (by ktr_room) ?_))
open K1
local macro_rules | `(tactic| ktr_room) => `(tactic| first
  | (apply DR.same; assumption; ktr_room)
  | (apply sqt_butD; assumption; ktr_room; ktr_room))
namespace K1
section
variable {P : Program} {w : World} {K : PySem.W.Frag} {mg : Str → Option Value} {base : Heap}
/-- the store of draws at c: the script's numbers at L, the next one's place, what is left of the last, how many there were -/
def DR (H : Hp) (c L : Addr) : Prop := ∃ (ns : List Int) (i r n : Int), H c = some (.lst [.ref L, .int i, .int r, .int n]) ∧ H L = some (.lst (ns.map V.int)) ∧ L ≠ c ∧ 0 ≤ i
theorem DR.same {H H' : Hp} {c L : Addr} (s : Same H H') (h : DR H c L) : DR H' c L := by
  obtain ⟨ns, i, r, n, e, hL, ne, h0⟩ := h
  exact ⟨ns, i, r, n, s _ _ e, s _ _ hL, ne, h0⟩
theorem DR.but {H H' : Hp} {c L D : Addr} (b : But D H H') (h : DR H c L) (n1 : D ≠ c) (n2 : D ≠ L) : DR H' c L := by
  obtain ⟨ns, i, r, n, e, hL, ne, h0⟩ := h
  exact ⟨ns, i, r, n, b _ _ (Ne.symm n1) e, b _ _ (Ne.symm n2) hL, ne, h0⟩
theorem DR.ne {H : Hp} {c L D : Addr} (d : DR H c L) (n : H D = none) : D ≠ c := by
  obtain ⟨ns, i, r, m, e, _⟩ := d
  intro z
  subst z
  rw [e] at n
  cases n
theorem DR.neL {H : Hp} {c L D : Addr} (d : DR H c L) (n : H D = none) : D ≠ L := by
  obtain ⟨ns, i, r, m, _, e, _⟩ := d
  intro z
  subst z
  rw [e] at n
  cases n
def spFill : Sp := fun vs H Q _ => ∃ c : Addr, vs = [.ref c] ∧ ∃ L, DR H c L ∧ ∀ H' v, But c H H' → DR H' c L → Q (.int v) H'
def spTake : Sp := fun vs H Q _ => ∃ (c : Addr) (m : Int), vs = [.ref c, .int m] ∧ ∃ L, DR H c L ∧ 0 < m ∧ m < 1073741824 ∧ ∀ H' d, But c H H' → DR H' c L → 0 ≤ d → d < m → Q (.int d) H'
theorem ok__law_fill (T : NoB mg) (h : Has K mg "_law_fill" (topS 18) ["d"]) : Good P w K mg base 1 "_law_fill" ["d"] (spFill) := by
  have sc : FnScope ["d", "number"] ["d"] (defScope (topS 18)) := ⟨rfl, rfl, rfl, by decide +kernel, rfl, by decide +kernel, by decide +kernel⟩
  have nd := sc.nd
  refine h.good sc (fun vs H Q E h => by obtain ⟨c, rfl, _⟩ := h; rfl) (fun f cdv A outer s H vs Q E hr h => ?_)
  obtain ⟨c, rfl, hyp⟩ := h
  refine ⟨_, (pss_cons (ps_asg (pe_op op_add (pe_ix (ix_listK K) (pv 0) pe_int (fun _ _ => rfl)) pe_int) (pg_sub (pv 0) pe_int set_list))
  (pss_cons (ps_set (i := 1) nd rfl (by first | exact .inl rfl | exact .inr rfl) (pe_op op_add (pe_op op_mul (pe_ix (ix_listK K) (pv 0) pe_int (fun _ _ => rfl)) pe_int) pe_int))
  (pss_cons (ps_if (pt_cmpR op_lt (pe_ix (ix_listK K) (pv 0) pe_int (fun _ _ => rfl)) (pe_callB (c_lenK K) (by rfl) T.n_len (by decide +kernel) (pa_cons (pe_ix (ix_listK K) (pv 0) pe_int (fun _ _ => rfl)) pa_nil)) (nomark _))
  (pss_cons (ps_set (i := 1) nd rfl (by first | exact .inl rfl | exact .inr rfl) (pe_ix (ix_listK K) (pe_ix (ix_listK K) (pv 0) pe_int (fun _ _ => rfl)) (pe_ix (ix_listK K) (pv 0) pe_int (fun _ _ => rfl)) (fun _ _ => rfl)))
  (pss_cons (ps_asg (pe_op op_add (pe_ix (ix_listK K) (pv 0) pe_int (fun _ _ => rfl)) pe_int) (pg_sub (pv 0) pe_int set_list))
  (pss_cons (ps_if (pt_cmpR op_lt (pv 1) pe_int (nomark _))
  (pss_one (ps_set (i := 1) nd rfl (by first | exact .inl rfl | exact .inr rfl) (pe_op op_sub (pe_un un_neg pe_int) (pv 1)))) pss_nil)
  (pss_one (ps_if (pt_cmpR op_ge (pv 1) (pe_op op_pow pe_int pe_int) (nomark _))
  (pss_one (ps_ret (pv 1))) pss_nil))))) pss_nil)
  (pss_cons (ps_if (PW.pt (pw_and (pt_truK K (pe_ix (ix_listK K) (pv 0) pe_int (fun _ _ => rfl)) (by intro _; rfl)) (pw_and1 (pt_cmpR op_ge (pe_ix (ix_listK K) (pv 0) pe_int (fun _ _ => rfl)) (pe_callB (c_lenK K) (by rfl) T.n_len (by decide +kernel) (pa_cons (pe_ix (ix_listK K) (pv 0) pe_int (fun _ _ => rfl)) pa_nil)) (nomark _)))))
  (pss_one (ps_set (i := 1) nd rfl (by first | exact .inl rfl | exact .inr rfl) (pe_op op_add (pv 1) (pe_op op_mod (pe_callTy c_int1 (by rfl) T.n_int (by decide +kernel) (pa_cons (pe_ix (ix_listK K) (pe_ix (ix_listK K) (pv 0) pe_int (fun _ _ => rfl)) (pe_un un_neg pe_int) (fun _ _ => rfl)) pa_nil)) pe_int)))) pss_nil)
  (pss_cons (ps_set (i := 1) nd rfl (by first | exact .inl rfl | exact .inr rfl) (pe_op op_mod (pe_callTy c_int1 (by rfl) T.n_int (by decide +kernel) (pa_cons (pe_op op_add (pe_op op_mul (pv 1) pe_int) (pe_op op_mul (pe_ix (ix_listK K) (pv 0) pe_int (fun _ _ => rfl)) pe_int)) pa_nil)) pe_int))
  (pss_one (ps_ret (pe_op op_add (pe_op op_mod (pe_callTy c_int1 (by rfl) T.n_int (by decide +kernel) (pa_cons (pe_op op_add (pe_op op_add (pe_op op_mul (pv 1) (pv 1)) (pe_op op_mul (pe_ix (ix_listK K) (pv 0) pe_int (fun _ _ => rfl)) pe_int)) pe_int) pa_nil)) pe_int) pe_int)))))))), ?_⟩
  try dsimp only [cxOf, Cx.wish]
  obtain ⟨L, ⟨ns, i, r, n, ec, hL, nL, h0⟩, q⟩ := hyp
  kc_close
  refine s_setL ec rfl fun H1 b1 e1 => ?_
  have hL1 : H1 L = some (.lst (ns.map V.int)) := b1 _ _ nL hL
  have kL : IsL K H L ns := SqL.of hL
  have kL1 : IsL K H1 L ns := SqL.of hL1
  kc_close
  refine s_cut (fun σ' H' => ∃ (v i' r' n' : Int), σ' = [some (.ref c), some (.int v)] ∧ But c H H' ∧ H' c = some (.lst [.ref L, .int i', .int r', .int n']) ∧ H' L = some (.lst (ns.map V.int)) ∧ 0 ≤ i') (fun N hN => ?_) ?_
  · refine s_if ?_
    kc_close
    refine ifP (fun hi => ?_) (fun hi => ?_)
    · rw [List.length_map] at hi
      kc_close
      refine s_ixL kL1 (at_nat h0 hi) ?_
      kc_close
      refine s_setL e1 rfl fun H2 b2 e2 => ?_
      have hL2 : H2 L = some (.lst (ns.map V.int)) := b2 _ _ nL hL1
      have kL2 : IsL K H2 L ns := SqL.of hL2
      have fin : ∀ v : Int, N [some (.ref c), some (.int v)] H2 := fun v => hN _ _ ⟨v, _, _, _, rfl, b1.trans b2, e2, hL2, by omega⟩
      kc_close
      refine s_cut (fun σ' H' => ∃ v : Int, σ' = [some (.ref c), some (.int v)] ∧ H' = H2) (fun N' hN' => ?_) ?_
      · refine s_if ?_
        kc_close
        refine ifP (fun _ => ?_) (fun _ => ?_)
        · kc_close
          exact hN' _ _ ⟨_, rfl, rfl⟩
        · kc_close
          exact hN' _ _ ⟨_, rfl, rfl⟩
      · rintro _ _ ⟨v, rfl, rfl⟩
        kc_close
        refine s_if ?_
        kc_close
        refine ifP (fun _ => ?_) (fun _ => ?_)
        · kc_close
          exact q _ _ (b1.trans b2) ⟨ns, _, _, _, e2, hL2, nL, by omega⟩
        · kc_close
          exact fin v
    · kc_close
      exact hN _ _ ⟨_, _, _, _, rfl, b1, e1, hL1, h0⟩
  rintro _ H2 ⟨v, i', r', n', rfl, b2, e2, hL2, h2⟩
  have kL2 : IsL K H2 L ns := SqL.of hL2
  kc_close
  refine s_cut (fun σ' H' => ∃ v : Int, σ' = [some (.ref c), some (.int v)] ∧ H' = H2) (fun N' hN' => ?_) ?_
  · refine s_if ?_
    kc_close
    by_cases hn : ns = []
    · refine ifFalse (by rw [hn]; rfl) (iteF ?_)
      kc_close
      exact hN' _ _ ⟨_, rfl, rfl⟩
    · obtain ⟨z, ez⟩ := at_end hn
      refine ifTrue (by cases ns with | nil => exact absurd rfl hn | cons _ _ => rfl) ?_
      kc_close
      refine ifP (fun _ => ?_) (fun _ => ?_)
      · kc_close
        refine s_ixL kL2 ez ?_
        kc_close
        exact hN' _ _ ⟨_, rfl, rfl⟩
      · kc_close
        exact hN' _ _ ⟨_, rfl, rfl⟩
  rintro _ _ ⟨v2, rfl, rfl⟩
  kc_close
  exact q _ _ b2 ⟨ns, _, _, _, e2, hL2, nL, h2⟩
theorem ok__law_take (T : NoB mg) (h : Has K mg "_law_take" (topS 19) ["d", "many"]) (G__law_fill : Good P w K mg base 1 "_law_fill" ["d"] (spFill)) : Good P w K mg base 2 "_law_take" ["d", "many"] (spTake) := by
  have sc : FnScope ["d", "many", "digit"] ["d", "many"] (defScope (topS 19)) := ⟨rfl, rfl, rfl, by decide +kernel, rfl, by decide +kernel, by decide +kernel⟩
  have nd := sc.nd
  refine h.good sc (fun vs H Q E h => by obtain ⟨c, m, rfl, _⟩ := h; rfl) (fun f cdv A outer s H vs Q E hr h => ?_)
  obtain ⟨c, m, rfl, hyp⟩ := h
  refine ⟨_, (pss_cons (ps_if (pt_cmpR op_lt (pe_ix (ix_listK K) (pv 0) pe_int (fun _ _ => rfl)) (pv 1) (nomark _))
  (pss_one (ps_asg (pe_callG G__law_fill (hr.mono (by first | decide | omega)) (by rfl) (pa_cons (pv 0) pa_nil)) (pg_sub (pv 0) pe_int set_list))) pss_nil)
  (pss_cons (ps_set (i := 2) nd rfl (by first | exact .inl rfl | exact .inr rfl) (pe_op op_mod (pe_callTy c_int1 (by rfl) T.n_int (by decide +kernel) (pa_cons (pe_ix (ix_listK K) (pv 0) pe_int (fun _ _ => rfl)) pa_nil)) (pv 1)))
  (pss_cons (ps_asg (pe_op op_fdiv (pe_ix (ix_listK K) (pv 0) pe_int (fun _ _ => rfl)) (pv 1)) (pg_sub (pv 0) pe_int set_list))
  (pss_one (ps_ret (pv 2)))))), ?_⟩
  try dsimp only [cxOf, Cx.wish]
  obtain ⟨L, ⟨ns, i, r, n, ec, hL, nL, h0⟩, hm, hm2, q⟩ := hyp
  have hL' : IsL K H L ns := SqL.of hL
  kc_close
  refine s_cut (fun σ' H' => ∃ (i' r' n' : Int) (ns : List Int), σ' = [some (.ref c), some (.int m), none] ∧ But c H H' ∧ H' c = some (.lst [.ref L, .int i', .int r', .int n']) ∧ H' L = some (.lst (ns.map V.int)) ∧ 0 ≤ i') (fun N hN => ?_) ?_
  · refine s_if ?_
    kc_close
    refine ifP (fun _ => ?_) (fun _ => ?_)
    · kc_close
      refine ⟨c, rfl, L, ⟨ns, i, r, n, ec, hL, nL, h0⟩, fun H1 v b1 d1 => ?_⟩
      obtain ⟨ns1, i1, r1, n1, e1, hL1, nL1, h1⟩ := d1
      kc_close
      refine s_setL e1 rfl fun H2 b2 e2 => ?_
      exact hN _ _ ⟨_, _, _, ns1, rfl, b1.trans b2, e2, b2 _ _ nL1 hL1, h1⟩
    · kc_close
      exact hN _ _ ⟨_, _, _, ns, rfl, But.refl c H, ec, hL, h0⟩
  rintro _ H1 ⟨i1, r1, n1, ns1, rfl, b1, e1, hL1, h1⟩
  kc_close
  refine s_setL e1 rfl fun H2 b2 e2 => ?_
  kc_close
  exact q _ _ (b1.trans b2) ⟨ns1, _, _, _, e2, b2 _ _ nL hL1, nL, h1⟩ (Int.emod_nonneg _ (by omega)) (Int.emod_lt_of_pos _ hm)
def spStart (K : PySem.W.Frag) : Sp := fun vs H Q _ => ∃ s : Addr, vs = [.ref s] ∧ (∃ ns : List Int, IsL K H s ns ∧ ns.length ≤ 63) ∧ ∀ H' c L, Same H H' → DR H' c L → Q (.ref c) H'
theorem ok__law_start (T : NoB mg) (h : Has K mg "_law_start" (topS 17) ["script"]) : Good P w K mg base 1 "_law_start" ["script"] (spStart K) := by
  have sc : FnScope ["script", "cell"] ["script"] (defScope (topS 17)) := ⟨rfl, rfl, rfl, by decide +kernel, rfl, by decide +kernel, by decide +kernel⟩
  have nd := sc.nd
  refine h.good sc (fun vs H Q E h => by obtain ⟨s0, rfl, _⟩ := h; rfl) (fun f cdv A outer s H vs Q E hr h => ?_)
  obtain ⟨s0, rfl, hyp⟩ := h
  refine ⟨_, (pss_one (ps_ret (pe_lst (pa_cons (pe_lc (own := [("cell", 1)]) rfl nd (pi_listK K (pe_slice (sl_listK K) (pv 0) po_none (po_some pe_int))) (blkOk_by (own := [("cell", 1)]) (N := ["script", "cell"]) (by kernel_rfl)) (fun _ _ _ _ _ => (pg_name (i := 1) nd rfl (by first | exact .inl rfl | exact .inr rfl))) (fun _ _ _ _ _ => pts_nil) (fun _ _ _ _ _ => (pe_callTy c_int1 (by rfl) T.n_int (by decide +kernel) (pa_cons (pv 1) pa_nil)))) (pa_cons pe_int (pa_cons pe_int (pa_cons pe_int pa_nil))))))), ?_⟩
  try dsimp only [cxOf, Cx.wish]
  obtain ⟨⟨ns, hs, hz⟩, q⟩ := hyp
  kc_close
  refine s_slL hs fun z H1 nz s1 e1 => ?_
  rw [show (some 63 : Option Int) = some ((63 : Nat) : Int) from rfl, cut_to, ← List.map_take] at e1
  refine s_ilistv (SqL.of e1) (l_mapL (fun i => V.int ((ns.take 63).getD i 0)) (SqL.of e1) (by rw [List.length_map, List.length_take]; omega) ?_ ?_)
  · intro D N i x H' e sm k
    obtain ⟨rfl, hi⟩ := item_int e
    kc_close
    exact k _ (Same.refl _)
  intro D H2 nD s2 eD
  rw [List.length_map, range_map (fun x => x)] at eD
  kc_close
  intro c H3 nc s3 ec
  have nD3 : D ≠ c := by
    intro z
    subst z
    rw [eD] at nc
    cases nc
  exact q H3 c D ((s1.trans s2).trans s3) ⟨_, 0, 0, 0, ec, s3 _ _ eD, nD3, Int.le_refl _⟩
end
end K1
end
section
open PySem PySem.Spec PyProof.Rows L2 Z
local macro_rules | `(tactic| ktr_room) => `(tactic| first
  | assumption
  | (apply SqT.of; assumption)
  | (apply SqL.of; assumption)
  | (apply sqt_same; assumption; ktr_room)
  | (apply sql_same; assumption; ktr_room)
  | (apply sqt_but; assumption; assumption; ktr_room)
  | (apply sql_but; assumption; assumption; ktr_room)
  | (apply Same.of_; assumption; ktr_room)
  | (apply But.of_; assumption; assumption; ktr_room)
  | exact same_refl
  | exact but_refl
  | (apply same_tr; assumption; ktr_room)
  | (apply same_but; assumption; ktr_room; assumption)
  | (apply but_tr; assumption; ktr_room)
  | (apply but_trB; assumption; ktr_room))
local macro_rules | `(tactic| ktr_units) => `(tactic| first | with_reducible assumption | omega | rfl | exact ⟨by omega, by omega⟩ | exact .inl ⟨by omega, by omega⟩ | exact .inr ⟨by omega, by omega⟩ | exact ⟨by decide, by decide, by decide⟩ | exact Nat.le_of_ble_eq_true rfl | decide)
local macro_rules | `(tactic| kc_close) => `(tactic| repeat (with_reducible first
  | refine s_var (by with_unfolding_all rfl) ?_
  | refine s_c ?_
  | refine s_op ?_
  | refine s_rI0 ?_
  | refine s_asg ?_
  | refine s_gname ?_
  | refine s_seq ?_
  | refine s_cons ?_
  | refine s_nil ?_
  | refine s_call ?_
  | refine s_ret ?_
  | o_fieldsN
  | refine s_test ?_
  | refine s_bl ?_
  | refine s_rI (by with_unfolding_all (ktr_units)) ?_
  | refine s_rEq rfl ?_
  | refine s_rNe rfl ?_
  | refine s_cb ?_
  | refine s_int1 ?_
  | refine s_intB ?_
  | refine s_max2 ?_
  | refine s_min2 ?_
  | refine s_tup ?_
  | refine s_lst ?_
  | refine s_newT (by with_unfolding_all first | decide | exact Nat.le_of_ble_eq_true rfl) ?_
  | refine s_newL (by with_unfolding_all first | decide | exact Nat.le_of_ble_eq_true rfl) ?_
  | refine s_ixT (by ktr_room) (by with_unfolding_all rfl) ?_
  | refine s_ixL (by ktr_room) (by with_unfolding_all rfl) ?_
  | refine s_lenT (by ktr_room) ?_
  | refine s_lenL (by ktr_room) ?_
  | refine s_un ?_
  | refine s_rU ?_
  | refine s_and ?_
  | refine s_or ?_
  | refine s_not ?_
  | refine s_tB ?_
  | refine s_tru ?_
  | refine s_drop ?_
  | refine s_next ?_
  | refine s_for ?_
  | refine s_rng1 ?_
  | refine s_rng2 ?_
  | refine s_rng3 ?_
  | refine s_ilist ?_
  | refine s_itup ?_
  | refine s_iany ?_
  | refine s_ienum ?_
  | refine s_irev ?_
  | refine s_gcons ?_
  | refine s_gnil ?_
  | refine s_gtup (by ktr_room) (by with_unfolding_all rfl) ?_
  | refine s_gsub ?_
  | refine s_augS ?_
  | refine s_aug (by with_unfolding_all rfl) ?_
  | refine s_ipI ?_
  | refine s_bm ?_
  | refine s_bm0 ?_
  | refine s_tyL (by ktr_room) ?_
  | refine s_tyL0 (by ktr_room) ?_
  | refine s_sl ?_
  | refine s_part ?_
  | refine s_partv ?_
  | refine s_noPart ?_
  | refine s_lc ?_
  | refine s_yes ?_
  | refine s_wipe (by with_unfolding_all rfl) ?_
  | refine iteT ?_
  | refine s_retN ?_
  | refine s_isN ?_
  | refine s_truB ?_
  | refine s_isB2 ?_
  | refine s_notB2 ?_
  | refine s_revT ?_
  | refine s_andV ?_
  | refine s_orV ?_
  | refine s_ifE ?_
  | refine s_notK ?_
  | refine s_notN ?_
  | refine s_truL (by ktr_room) ?_
  | refine s_truT (by ktr_room) ?_))
open K1
local macro_rules | `(tactic| ktr_room) => `(tactic| first
  | (apply DR.same; assumption; ktr_room)
  | (apply sqt_butD; assumption; ktr_room; ktr_room))
namespace K1
theorem sqt_butD {K : PySem.W.Frag} {c L : Addr} {H H' : Hp} {a : Addr} {xs : List V} (e : But c H H') (d : DR H c L) (h : SqT K H a xs) : SqT K H' a xs := by
  obtain ⟨ns, i, r, m, ec, _⟩ := d
  exact sqt_but e ec h
/-- a list of draws, made by a comprehension over a range -/
theorem l_draws {g : TG} {tt : TT} {te : TE} {vs : List Nat} {σ : L2.St} {Q : VK} {H : Hp} {C L : Addr} {m : Nat} {lo : Int} (Pr : Int → Prop) (d0 : DR H C L) (hz : m ≤ 1000)
    (hs : ∀ (D : Addr) (N : Hp → Prop) (i : Nat) (H' : Hp), i < m → But C H H' → DR H' C L → (∀ H4 v, But C H' H4 → DR H4 C L → Pr v → LcEnd D N (.int v) H4) → g (.int (lo + i)) (wipe σ vs) H' fun σ2 H2 => wipe σ2 vs = wipe σ vs ∧ tt σ2 H2 fun b H3 => if b = true then te σ2 H3 fun y H4 => LcEnd D N y H4 else N H3)
    (hd : ∀ (D : Addr) (H' : Hp) (ls : List Int), H D = none → D ≠ C → D ≠ L → But C H H' → DR H' C L → ls.length = m → (∀ v ∈ ls, Pr v) → H' D = some (.lst (ls.map V.int)) → Q (.ref D) H') : LcW g tt te vs Q σ (Itr lo m) H := by
  have line : (1000 : Nat) < sizeLine := by decide
  refine l_range (fun D i H' => H D = none ∧ But C H H' ∧ DR H' C L ∧ ∃ ls : List Int, ls.length = i ∧ (∀ v ∈ ls, Pr v) ∧ H' D = some (.lst (ls.map V.int)))
    (fun D H' n sm e => ⟨n, But.of sm, d0.same sm, [], rfl, fun v h => (by cases h), e⟩) ?_ ?_
  · rintro D i H' hi ⟨n, b, d, ls, hl, hp, eD⟩
    refine hs D _ i H' hi b d fun H4 v b4 d4 pv => ?_
    have nC := d0.ne n
    have nL := d0.neL n
    refine s_lcEnd (b4 _ _ nC eD) (by rw [List.length_map, hl]; omega) fun H5 b5 e5 => ⟨n, But.sameN b5 (b.trans b4) n, d4.but b5 nC nL, ls ++ [v], by rw [List.length_append, hl]; rfl, fun x hx => ?_, ?_⟩
    · rcases List.mem_append.mp hx with hx | hx
      · exact hp x hx
      · rw [List.mem_singleton.mp hx]
        exact pv
    · rw [List.map_append]
      exact e5
  · rintro D H' ⟨n, b, d, ls, hl, hp, eD⟩
    exact hd D H' ls n (d0.ne n) (d0.neL n) b d hl hp eD
theorem ints5 {d : Int} (h0 : 0 ≤ d) (h1 : d < 5) : ∃ p : Int, M.PR p ∧ atI [V.int 11, .int 13, .int 17, .int 31, .int 101] d = some (.int p) := by
  rcases (show d = 0 ∨ d = 1 ∨ d = 2 ∨ d = 3 ∨ d = 4 by omega) with rfl | rfl | rfl | rfl | rfl
  · exact ⟨11, .inl rfl, rfl⟩
  · exact ⟨13, .inr (.inl rfl), rfl⟩
  · exact ⟨17, .inr (.inr (.inl rfl)), rfl⟩
  · exact ⟨31, .inr (.inr (.inr (.inl rfl))), rfl⟩
  · exact ⟨101, .inr (.inr (.inr (.inr rfl))), rfl⟩
theorem ints2 {d x y : Int} (h0 : 0 ≤ d) (h1 : d < 2) : ∃ k : Int, (k = x ∨ k = y) ∧ atI [V.int x, .int y] d = some (.int k) := by
  rcases (show d = 0 ∨ d = 1 by omega) with rfl | rfl
  · exact ⟨x, .inl rfl, rfl⟩
  · exact ⟨y, .inr rfl, rfl⟩
theorem ints3 {d x y z : Int} (h0 : 0 ≤ d) (h1 : d < 3) : ∃ k : Int, (k = x ∨ k = y ∨ k = z) ∧ atI [V.int x, .int y, .int z] d = some (.int k) := by
  rcases (show d = 0 ∨ d = 1 ∨ d = 2 by omega) with rfl | rfl | rfl
  · exact ⟨x, .inl rfl, rfl⟩
  · exact ⟨y, .inr (.inl rfl), rfl⟩
  · exact ⟨z, .inr (.inr rfl), rfl⟩
section
variable {P : Program} {w : World} {K : PySem.W.Frag} {mg : Str → Option Value} {base : Heap}
theorem u_start {s : Addr} {ns : List Int} {H : Hp} {Q : VK} {E : XK} (hs : IsL K H s ns) (hz : ns.length ≤ 63) (q : ∀ H' c L, Same H H' → DR H' c L → Q (.ref c) H') : spStart K [.ref s] H Q E := ⟨s, rfl, ⟨ns, hs, hz⟩, q⟩
theorem u_take {c L : Addr} {m : Int} {H : Hp} {Q : VK} {E : XK} (d : DR H c L) (h0 : 0 < m) (h1 : m < 1073741824) (q : ∀ H' d, But c H H' → DR H' c L → 0 ≤ d → d < m → Q (.int d) H') : spTake [.ref c, .int m] H Q E := ⟨c, m, rfl, L, d, h0, h1, q⟩
def spLaw (K : PySem.W.Frag) : Sp := fun vs H Q _ => ∃ s : Addr, vs = [.ref s] ∧ (∃ ns : List Int, IsL K H s ns ∧ ns.length ≤ 63) ∧ ∀ H', Q (.bl true) H'
end
end K1
end
section
open PySem PySem.Spec PyProof.Rows L2 Z
local macro_rules | `(tactic| ktr_room) => `(tactic| first
  | assumption
  | (apply SqT.of; assumption)
  | (apply SqL.of; assumption)
  | (apply sqt_same; assumption; ktr_room)
  | (apply sql_same; assumption; ktr_room)
  | (apply sqt_but; assumption; assumption; ktr_room)
  | (apply sql_but; assumption; assumption; ktr_room)
  | (apply Same.of_; assumption; ktr_room)
  | (apply But.of_; assumption; assumption; ktr_room)
  | exact same_refl
  | exact but_refl
  | (apply same_tr; assumption; ktr_room)
  | (apply same_but; assumption; ktr_room; assumption)
  | (apply but_tr; assumption; ktr_room)
  | (apply but_trB; assumption; ktr_room))
local macro_rules | `(tactic| ktr_units) => `(tactic| first | with_reducible assumption | omega | rfl | exact ⟨by omega, by omega⟩ | exact .inl ⟨by omega, by omega⟩ | exact .inr ⟨by omega, by omega⟩ | exact ⟨by decide, by decide, by decide⟩ | exact Nat.le_of_ble_eq_true rfl | decide)
local macro_rules | `(tactic| kc_close) => `(tactic| repeat (with_reducible first
  | refine s_var (by with_unfolding_all rfl) ?_
  | refine s_c ?_
  | refine s_op ?_
  | refine s_rI0 ?_
  | refine s_asg ?_
  | refine s_gname ?_
  | refine s_seq ?_
  | refine s_cons ?_
  | refine s_nil ?_
  | refine s_call ?_
  | refine s_ret ?_
  | o_fieldsN
  | refine s_test ?_
  | refine s_bl ?_
  | refine s_rI (by with_unfolding_all (ktr_units)) ?_
  | refine s_rEq rfl ?_
  | refine s_rNe rfl ?_
  | refine s_cb ?_
  | refine s_int1 ?_
  | refine s_intB ?_
  | refine s_max2 ?_
  | refine s_min2 ?_
  | refine s_tup ?_
  | refine s_lst ?_
  | refine s_newT (by with_unfolding_all first | decide | exact Nat.le_of_ble_eq_true rfl) ?_
  | refine s_newL (by with_unfolding_all first | decide | exact Nat.le_of_ble_eq_true rfl) ?_
  | refine s_ixT (by ktr_room) (by with_unfolding_all rfl) ?_
  | refine s_ixL (by ktr_room) (by with_unfolding_all rfl) ?_
  | refine s_lenT (by ktr_room) ?_
  | refine s_lenL (by ktr_room) ?_
  | refine s_un ?_
  | refine s_rU ?_
  | refine s_and ?_
  | refine s_or ?_
  | refine s_not ?_
  | refine s_tB ?_
  | refine s_tru ?_
  | refine s_drop ?_
  | refine s_next ?_
  | refine s_for ?_
  | refine s_rng1 ?_
  | refine s_rng2 ?_
  | refine s_rng3 ?_
  | refine s_ilist ?_
  | refine s_itup ?_
  | refine s_iany ?_
  | refine s_ienum ?_
  | refine s_irev ?_
  | refine s_gcons ?_
  | refine s_gnil ?_
  | refine s_gtup (by ktr_room) (by with_unfolding_all rfl) ?_
  | refine s_gsub ?_
  | refine s_augS ?_
  | refine s_aug (by with_unfolding_all rfl) ?_
  | refine s_ipI ?_
  | refine s_bm ?_
  | refine s_bm0 ?_
  | refine s_tyL (by ktr_room) ?_
  | refine s_tyL0 (by ktr_room) ?_
  | refine s_sl ?_
  | refine s_part ?_
  | refine s_partv ?_
  | refine s_noPart ?_
  | refine s_lc ?_
  | refine s_yes ?_
  | refine s_wipe (by with_unfolding_all rfl) ?_
  | refine iteT ?_
  | refine s_retN ?_
  | refine s_isN ?_
  | refine s_truB ?_
  | refine s_isB2 ?_
  | refine s_notB2 ?_
  | refine s_revT ?_
  | refine s_andV ?_
  | refine s_orV ?_
  | refine s_ifE ?_
  | refine s_notK ?_
  | refine s_notN ?_
  | refine s_truL (by ktr_room) ?_
  | refine s_truT (by ktr_room) ?_))
open K1
local macro_rules | `(tactic| ktr_room) => `(tactic| first
  | (apply DR.same; assumption; ktr_room)
  | (apply sqt_butD; assumption; ktr_room; ktr_room))
namespace K1
section
variable {P : Program} {w : World} {K : PySem.W.Frag} {mg : Str → Option Value} {base : Heap}
theorem tk_butD {K : PySem.W.Frag} {c L : Addr} {H H' : Hp} (e : But c H H') (d : DR H c L) : TK K H H' := fun _ _ h => sqt_butD e d h
abbrev SU (K : PySem.W.Frag) (H : Hp) (s : Addr) (p n t m : Int) : Prop := SqT K H s [.int p, .int n, .int t, .int m]
theorem at3n {t : Int} (h0 : 0 ≤ t) (h1 : t < 3) : ∃ m l : Int, 0 < m ∧ m < 8 ∧ l = 3 * t + 1 ∧ l + m ≤ 8 ∧ atI [V.int 7, .int 4, .int 1] t = some (.int m) ∧ atI [V.int 1, .int 4, .int 7] t = some (.int l) := by
  rcases (show t = 0 ∨ t = 1 ∨ t = 2 by omega) with rfl | rfl | rfl
  · exact ⟨7, 1, by omega, by omega, by omega, by omega, rfl, rfl⟩
  · exact ⟨4, 4, by omega, by omega, by omega, by omega, rfl, rfl⟩
  · exact ⟨1, 7, by omega, by omega, by omega, by omega, rfl, rfl⟩
def spSetup (K : PySem.W.Frag) : Sp := fun vs H Q _ => ∃ (c : Addr) (mo : Int), vs = [.ref c, .int mo] ∧ ∃ L, DR H c L ∧ 1 ≤ mo ∧ mo ≤ 6 ∧ ∀ H' q p n t m, But c H H' → DR H' c L → SU K H' q p n t m → M.SetOk p n t m → Q (.ref q) H'
theorem ok__law_setup (h : Has K mg "_law_setup" (topS 20) ["d", "most"]) (G__law_take : Good P w K mg base 2 "_law_take" ["d", "many"] (spTake)) : Good P w K mg base 3 "_law_setup" ["d", "most"] (spSetup K) := by
  have sc : FnScope ["d", "most", "t", "least", "n"] ["d", "most"] (defScope (topS 20)) := ⟨rfl, rfl, rfl, by decide +kernel, rfl, by decide +kernel, by decide +kernel⟩
  have nd := sc.nd
  refine h.good sc (fun vs H Q E h => by obtain ⟨c, mo, rfl, _⟩ := h; rfl) (fun f cdv A outer s H vs Q E hr h => ?_)
  obtain ⟨c, mo, rfl, hyp⟩ := h
  refine ⟨_, (pss_cons (ps_set (i := 2) nd rfl (by first | exact .inl rfl | exact .inr rfl) (pe_callG G__law_take (hr.mono (by first | decide | omega)) (by rfl) (pa_cons (pv 0) (pa_cons pe_int pa_nil))))
  (pss_cons (ps_set (i := 3) nd rfl (by first | exact .inl rfl | exact .inr rfl) (pe_ix (ix_listK K) (pe_lst (pa_cons pe_int (pa_cons pe_int (pa_cons pe_int pa_nil)))) (pv 2) (fun _ _ => rfl)))
  (pss_cons (ps_set (i := 4) nd rfl (by first | exact .inl rfl | exact .inr rfl) (pe_op op_add (pv 3) (pe_callG G__law_take (hr.mono (by first | decide | omega)) (by rfl) (pa_cons (pv 0) (pa_cons (pe_ix (ix_listK K) (pe_lst (pa_cons pe_int (pa_cons pe_int (pa_cons pe_int pa_nil)))) (pv 2) (fun _ _ => rfl)) pa_nil)))))
  (pss_one (ps_ret (pe_tup (pa_cons (pe_ix (ix_listK K) (pe_lst (pa_cons pe_int (pa_cons pe_int (pa_cons pe_int (pa_cons pe_int (pa_cons pe_int pa_nil)))))) (pe_callG G__law_take (hr.mono (by first | decide | omega)) (by rfl) (pa_cons (pv 0) (pa_cons pe_int pa_nil))) (fun _ _ => rfl)) (pa_cons (pv 4) (pa_cons (pv 2) (pa_cons (pe_op op_add pe_int (pe_callG G__law_take (hr.mono (by first | decide | omega)) (by rfl) (pa_cons (pv 0) (pa_cons (pv 1) pa_nil)))) pa_nil)))))))))), ?_⟩
  try dsimp only [cxOf, Cx.wish]
  obtain ⟨L, d0, m1, m6, q⟩ := hyp
  kc_close
  refine u_take d0 (by omega) (by omega) fun H2 t b2 d2 t0 t3 => ?_
  obtain ⟨m, l, k0, k1, rfl, k2, ek, el⟩ := at3n t0 t3
  kc_close
  intro l1 H3 nl1 s3 el1
  kc_close
  refine s_ixL (SqL.of el1) el ?_
  kc_close
  intro l2 H4 nl2 s4 el2
  kc_close
  refine s_ixL (SqL.of el2) ek ?_
  kc_close
  refine u_take ((d2.same s3).same s4) (by omega) (by omega) fun H5 dn b5 d5 g2 g3 => ?_
  kc_close
  intro l3 H6 nl3 s6 el3
  have dl3 := d5.ne nl3
  kc_close
  refine u_take (by ktr_room) (by omega) (by omega) fun H7 x b7 d7 g4 g5 => ?_
  obtain ⟨p, hp, ep⟩ := ints5 g4 g5
  kc_close
  refine s_ixL (by ktr_room) ep ?_
  kc_close
  refine u_take d7 (by omega) (by omega) fun H8 y b8 d8 g6 g7 => ?_
  kc_close
  intro r H9 nr s9 er
  exact q H9 r p _ t _ ((b2.trans ((But.of (s3.trans s4)).trans b5)).trans (((But.of s6).trans b7).trans (b8.trans (But.of s9)))) (d8.same s9) (SqT.of er) ⟨hp, t0, by omega, by omega, by omega, by omega, by omega⟩
/-- foes in ascending order -/
structure FoesOk (n t : Int) (fs : List Int) : Prop where
  asc : fs.Pairwise (· < ·)
  pty : ∀ i ∈ fs, M.Pty n i
  few : (fs.length : Int) ≤ t
def spFoes (K : PySem.W.Frag) : Sp := fun vs H Q _ => ∃ (c su : Addr), vs = [.ref c, .ref su] ∧ ∃ L p n t m, DR H c L ∧ SU K H su p n t m ∧ M.SetOk p n t m ∧
  ∀ H' q fs, But c H H' → DR H' c L → IsT K H' q fs → FoesOk n t fs → Q (.ref q) H'
theorem ok__law_foes (T : NoB mg) (h : Has K mg "_law_foes" (topS 23) ["d", "setup"]) (G__law_take : Good P w K mg base 2 "_law_take" ["d", "many"] (spTake)) : Good P w K mg base 3 "_law_foes" ["d", "setup"] (spFoes K) := by
  have sc : FnScope ["d", "setup", "found", "k", "i"] ["d", "setup"] (defScope (topS 23)) := ⟨rfl, rfl, rfl, by decide +kernel, rfl, by decide +kernel, by decide +kernel⟩
  have nd := sc.nd
  refine h.good sc (fun vs H Q E h => by obtain ⟨c, su, rfl, _⟩ := h; rfl) (fun f cdv A outer s H vs Q E hr h => ?_)
  obtain ⟨c, su, rfl, hyp⟩ := h
  refine ⟨_, (pss_cons (ps_set (i := 2) nd rfl (by first | exact .inl rfl | exact .inr rfl) (pe_lst pa_nil))
  (pss_cons (ps_for PassesOwn.never rfl (pi_range1 rfl T.n_range (pa_cons (pe_callG G__law_take (hr.mono (by first | decide | omega)) (by rfl) (pa_cons (pv 0) (pa_cons (pe_op op_add (pe_ix (ix_tupK K) (pv 1) pe_int (fun _ _ => rfl)) pe_int) pa_nil))) pa_nil)) (pg_name (i := 3) nd rfl (by first | exact .inl rfl | exact .inr rfl))
  (pss_cons (ps_set (i := 4) nd rfl (by first | exact .inl rfl | exact .inr rfl) (pe_op op_add pe_int (pe_callG G__law_take (hr.mono (by first | decide | omega)) (by rfl) (pa_cons (pv 0) (pa_cons (pe_ix (ix_tupK K) (pv 1) pe_int (fun _ _ => rfl)) pa_nil)))))
  (pss_one (ps_if (pt_cmpR (op_notInK K) (pv 4) (pv 2) (by rfl))
  (pss_one (ps_expr (pe_bmK K PySem.F.plainAttrs_list PySem.F.slot_list_append PySem.F.type_list_append mt_append (pv 2) (pa_cons (pv 4) pa_nil)))) pss_nil))))
  (pss_one (ps_ret (pe_callTy (c_tupK K) (by rfl) T.n_tuple (by decide +kernel) (pa_cons (pe_callB (cr_sortedK K) (by rfl) T.n_sorted (by decide +kernel) (pa_cons (pv 2) pa_nil)) pa_nil)))))), ?_⟩
  try dsimp only [cxOf, Cx.wish]
  obtain ⟨L, p, n, t, m, d0, hs, ok, q⟩ := hyp
  have ot0 := ok.t0
  have ot2 := ok.t2
  have ont := ok.nt
  have on7 := ok.n7
  have line : (100000 : Nat) < sizeLine := by decide
  kc_close
  intro D H1 nD s1 eD
  have nDC := d0.ne nD
  have nDL := d0.neL nD
  have hs1 : SU K H1 su p n t m := sqt_same s1 hs
  kc_close
  refine u_take (d0.same s1) (by omega) (by omega) fun H2 x2 b2 d2 g0 g1 => ?_
  kc_close
  refine s_rng1v (by omega) (by omega) ?_
  refine w_range (fun i σ' H' => ∃ (y3 y4 : Option V) (fs : List Int), σ' = [some (.ref c), some (.ref su), some (.ref D), y3, y4] ∧ But c H H' ∧ DR H' c L ∧ H' D = some (.lst (fs.map V.int)) ∧ fs.Nodup ∧ (∀ i ∈ fs, M.Pty n i) ∧ fs.length ≤ i) ⟨none, none, [], rfl, (But.of s1).trans b2, d2, b2 _ _ nDC eD, List.nodup_nil, fun i h => (by cases h), Nat.le_refl _⟩ ?_ ?_
  · rintro i _ H4 hi ⟨y3, y4, fs, rfl, b4, d4, e4, nd4, in4, le4⟩
    have hs4 : SU K H4 su p n t m := sqt_butD b4 d0 hs
    kc_close
    refine u_take d4 (by omega) (by omega) fun H5 x5 b5 d5 g4 g5 => ?_
    have e5 := b5 _ _ nDC e4
    have hs5 : SU K H5 su p n t m := sqt_butD b5 d4 hs4
    have k5 : IsL K H5 D fs := SqL.of e5
    kc_close
    refine s_if ?_
    kc_close
    refine s_notInI (.inl k5) ?_
    kc_close
    by_cases hm : (1 + x5) ∈ fs
    · refine ifFalse (by rw [decide_eq_true hm]; rfl) ?_
      kc_close
      exact ⟨_, _, fs, rfl, b4.trans b5, d5, e5, nd4, in4, by omega⟩
    · refine ifTrue (by rw [decide_eq_false hm]; rfl) ?_
      kc_close
      refine s_append e5 (by rw [List.length_map]; omega) fun H6 b6 e6 => ?_
      refine ⟨_, _, fs ++ [1 + x5], rfl, But.sameN b6 (b4.trans b5) nD, d5.but b6 nDC nDL, ?_, ?_, ?_, ?_⟩
      · rw [List.map_append]
        exact e6
      · refine List.nodup_append.mpr ⟨nd4, List.nodup_cons.mpr ⟨by simp, List.nodup_nil⟩, fun a ha b hb => ?_⟩
        rw [List.mem_singleton.mp hb]
        intro z
        exact hm (z ▸ ha)
      · intro j hj
        rcases List.mem_append.mp hj with hj | hj
        · exact in4 j hj
        · rw [List.mem_singleton.mp hj]
          exact ⟨by omega, by omega⟩
      · rw [List.length_append]
        show fs.length + 1 ≤ i + 1
        omega
  · rintro _ H4 ⟨y3, y4, fs, rfl, b4, d4, e4, nd4, in4, le4⟩
    kc_close
    refine s_sorted (SqL.of e4) fun ys q1 H5 hp hw nq s5 e5 => ?_
    kc_close
    refine s_tupL (SqL.of e5) fun f H6 nf s6 ef => ?_
    refine q H6 f ys (b4.trans (But.of (s5.trans s6))) (d4.same (s5.trans s6)) (SqT.of ef) ⟨M.strict_of_le hw (hp.nodup_iff.mpr nd4), fun i hi => in4 i (hp.mem_iff.mp hi), ?_⟩
    rw [hp.length_eq]
    omega
def spParty (K : PySem.W.Frag) : Sp := fun vs H Q _ => ∃ (c su : Addr) (o : Int), vs = [.ref c, .ref su, .int o] ∧ ∃ L p n t m, DR H c L ∧ SU K H su p n t m ∧ M.SetOk p n t m ∧ M.Pty n o ∧
  ∀ H' k, But c H H' → DR H' c L → M.Pty n k → (2 ≤ n → k ≠ o) → Q (.int k) H'
theorem ok__law_party (T : NoB mg) (h : Has K mg "_law_party" (topS 24) ["d", "setup", "other"]) (G__law_take : Good P w K mg base 2 "_law_take" ["d", "many"] (spTake)) : Good P w K mg base 3 "_law_party" ["d", "setup", "other"] (spParty K) := by
  have sc : FnScope ["d", "setup", "other", "n"] ["d", "setup", "other"] (defScope (topS 24)) := ⟨rfl, rfl, rfl, by decide +kernel, rfl, by decide +kernel, by decide +kernel⟩
  have nd := sc.nd
  refine h.good sc (fun vs H Q E h => by obtain ⟨c, su, o, rfl, _⟩ := h; rfl) (fun f cdv A outer s H vs Q E hr h => ?_)
  obtain ⟨c, su, o, rfl, hyp⟩ := h
  refine ⟨_, (pss_cons (ps_set (i := 3) nd rfl (by first | exact .inl rfl | exact .inr rfl) (pe_ix (ix_tupK K) (pv 1) pe_int (fun _ _ => rfl)))
  (pss_cons (ps_if (pt_cmpR op_eq (pv 3) pe_int (nomark _))
  (pss_one (ps_ret pe_int)) pss_nil)
  (pss_one (ps_ret (pe_op op_add (pe_op op_mod (pe_callTy c_int1 (by rfl) T.n_int (by decide +kernel) (pa_cons (pe_op op_add (pv 2) (pe_callG G__law_take (hr.mono (by first | decide | omega)) (by rfl) (pa_cons (pv 0) (pa_cons (pe_op op_sub (pv 3) pe_int) pa_nil)))) pa_nil)) (pv 3)) pe_int))))), ?_⟩
  try dsimp only [cxOf, Cx.wish]
  obtain ⟨L, p, n, t, m, d0, hs, ok, ⟨po1, po2⟩, q⟩ := hyp
  have on7 := ok.n7
  kc_close
  refine s_if ?_
  kc_close
  refine ifI (fun h => ?_) (fun h => ?_)
  · kc_close
    exact q H 1 (But.refl _ _) d0 ⟨by omega, by omega⟩ (fun h2 => by omega)
  · kc_close
    refine u_take d0 (by omega) (by omega) fun H1 x b1 d1 g0 g1 => ?_
    obtain ⟨pk, nk⟩ := M.other_ne (by omega) on7 po1 po2 g0 g1
    kc_close
    exact q H1 _ b1 d1 pk fun _ => nk
theorem u_party {c su L : Addr} {o p n t m : Int} {H : Hp} {Q : VK} {E : XK} (d : DR H c L) (hs : SU K H su p n t m) (ok : M.SetOk p n t m) (po : M.Pty n o) (q : ∀ H' k, But c H H' → DR H' c L → M.Pty n k → (2 ≤ n → k ≠ o) → Q (.int k) H') : spParty K [.ref c, .ref su, .int o] H Q E := ⟨c, su, o, rfl, L, p, n, t, m, d, hs, ok, po, q⟩
def spAddr (K : PySem.W.Frag) : Sp := fun vs H Q _ => ∃ (c su : Addr) (sd : Int), vs = [.ref c, .ref su, .int sd] ∧ ∃ L p n t m, DR H c L ∧ SU K H su p n t m ∧ M.SetOk p n t m ∧ M.Pty n sd ∧
  ∀ H' q x st, But c H H' → DR H' c L → IsT K H' q x → M.AddrAt n t m st sd x → Q (.ref q) H'
theorem ok__law_address (h : Has K mg "_law_address" (topS 25) ["d", "setup", "sender"]) (G__law_take : Good P w K mg base 2 "_law_take" ["d", "many"] (spTake)) (G__law_party : Good P w K mg base 3 "_law_party" ["d", "setup", "other"] (spParty K)) : Good P w K mg base 4 "_law_address" ["d", "setup", "sender"] (spAddr K) := by
  have sc : FnScope ["d", "setup", "sender", "p", "n", "t", "m", "a", "i", "k", "step"] ["d", "setup", "sender"] (defScope (topS 25)) := ⟨rfl, rfl, rfl, by decide +kernel, rfl, by decide +kernel, by decide +kernel⟩
  have nd := sc.nd
  refine h.good sc (fun vs H Q E h => by obtain ⟨c, su, sd, rfl, _⟩ := h; rfl) (fun f cdv A outer s H vs Q E hr h => ?_)
  obtain ⟨c, su, sd, rfl, hyp⟩ := h
  refine ⟨_, (pss_cons (ps_asg (pv 1) (pg_tupK K 4 (by rfl) (pgs_cons (pg_name (i := 3) nd rfl (by first | exact .inl rfl | exact .inr rfl)) (pgs_cons (pg_name (i := 4) nd rfl (by first | exact .inl rfl | exact .inr rfl)) (pgs_cons (pg_name (i := 5) nd rfl (by first | exact .inl rfl | exact .inr rfl)) (pgs_cons (pg_name (i := 6) nd rfl (by first | exact .inl rfl | exact .inr rfl)) pgs_nil))))))
  (pss_cons (ps_set (i := 7) nd rfl (by first | exact .inl rfl | exact .inr rfl) (pe_callG G__law_take (hr.mono (by first | decide | omega)) (by rfl) (pa_cons (pv 0) (pa_cons (pv 6) pa_nil))))
  (pss_cons (ps_set (i := 8) nd rfl (by first | exact .inl rfl | exact .inr rfl) (pe_op op_add pe_int (pe_callG G__law_take (hr.mono (by first | decide | omega)) (by rfl) (pa_cons (pv 0) (pa_cons (pv 4) pa_nil)))))
  (pss_cons (ps_set (i := 9) nd rfl (by first | exact .inl rfl | exact .inr rfl) (pe_callG G__law_party (hr.mono (by first | decide | omega)) (by rfl) (pa_cons (pv 0) (pa_cons (pv 1) (pa_cons (pv 2) pa_nil)))))
  (pss_cons (ps_set (i := 10) nd rfl (by first | exact .inl rfl | exact .inr rfl) (pe_op op_add pe_int (pe_callG G__law_take (hr.mono (by first | decide | omega)) (by rfl) (pa_cons (pv 0) (pa_cons pe_int pa_nil)))))
  (pss_cons (ps_if (PW.pt (pw_and (pt_cmpR op_eq (pv 4) pe_int (nomark _)) (pw_and1 (pt_cmpR op_lt (pv 10) pe_int (nomark _)))))
  (pss_one (ps_set (i := 10) nd rfl (by first | exact .inl rfl | exact .inr rfl) (pe_op op_sub (pe_op op_add pe_int (pv 10)) pe_int))) pss_nil)
  (pss_cons (ps_if (pt_cmpR op_eq (pv 10) pe_int (nomark _))
  (pss_one (ps_ret (pe_tup (pa_cons pe_int (pa_cons (pv 2) (pa_cons (pv 9) (pa_cons (pv 7) (pa_cons (pe_callG G__law_take (hr.mono (by first | decide | omega)) (by rfl) (pa_cons (pv 0) (pa_cons (pe_op op_add (pv 5) pe_int) pa_nil))) pa_nil)))))))) pss_nil)
  (pss_cons (ps_if (pt_cmpR op_eq (pv 10) pe_int (nomark _))
  (pss_one (ps_ret (pe_tup (pa_cons pe_int (pa_cons (pv 2) (pa_cons (pv 9) (pa_cons (pv 8) (pa_cons (pv 7) pa_nil)))))))) pss_nil)
  (pss_cons (ps_if (pt_cmpR op_eq (pv 10) pe_int (nomark _))
  (pss_one (ps_ret (pe_tup (pa_cons pe_int (pa_cons (pv 2) (pa_cons pe_int (pa_cons (pv 8) (pa_cons (pv 9) pa_nil)))))))) pss_nil)
  (pss_cons (ps_if (pt_cmpR op_eq (pv 10) pe_int (nomark _))
  (pss_one (ps_ret (pe_tup (pa_cons pe_int (pa_cons (pv 2) (pa_cons pe_int (pa_cons (pv 8) (pa_cons (pe_callG G__law_party (hr.mono (by first | decide | omega)) (by rfl) (pa_cons (pv 0) (pa_cons (pv 1) (pa_cons (pv 8) pa_nil)))) (pa_cons (pv 7) pa_nil))))))))) pss_nil)
  (pss_cons (ps_if (PW.pt (pw_or (pt_cmpR op_eq (pv 10) pe_int (nomark _)) (pw_or1 (pt_cmpR op_eq (pv 10) pe_int (nomark _)))))
  (pss_one (ps_ret (pe_tup (pa_cons (pv 10) (pa_cons (pv 2) (pa_cons pe_int (pa_cons (pv 8) pa_nil))))))) pss_nil)
  (pss_cons (ps_if (pt_cmpR op_eq (pv 10) pe_int (nomark _))
  (pss_one (ps_ret (pe_tup (pa_cons pe_int (pa_cons (pv 2) (pa_cons pe_int (pa_cons (pv 8) (pa_cons (pv 7) (pa_cons (pe_callG G__law_take (hr.mono (by first | decide | omega)) (by rfl) (pa_cons (pv 0) (pa_cons (pe_op op_add (pv 5) pe_int) pa_nil))) pa_nil))))))))) pss_nil)
  (pss_one (ps_ret (pe_tup (pa_cons pe_int (pa_cons (pv 2) (pa_cons pe_int (pa_cons (pv 7) pa_nil))))))))))))))))))), ?_⟩
  try dsimp only [cxOf, Cx.wish]
  obtain ⟨L, p, n, t, m, d0, hs, ok, ps, q⟩ := hyp
  have ot0 := ok.t0
  have ot2 := ok.t2
  have ont := ok.nt
  have on7 := ok.n7
  have om1 := ok.m1
  have om6 := ok.m6
  kc_close
  refine u_take d0 (by omega) (by omega) fun H1 x1 b1 d1 g0 g1 => ?_
  kc_close
  refine u_take d1 (by omega) (by omega) fun H2 x2 b2 d2 g2 g3 => ?_
  have hs2 : SU K H2 su p n t m := sqt_butD b2 d1 (sqt_butD b1 d0 hs)
  kc_close
  refine u_party d2 hs2 ok ps fun H3 x3 b3 d3 pk nk => ?_
  kc_close
  refine u_take d3 (by omega) (by omega) fun H4 x4 b4 d4 g6 g7 => ?_
  have bb := (b1.trans b2).trans (b3.trans b4)
  have hs4 : SU K H4 su p n t m := sqt_butD bb d0 hs
  have pd : M.Pty n (1 + x2) := ⟨by omega, by omega⟩
  have ia : M.Idx m x1 := ⟨g0, g1⟩
  kc_close
  refine s_cut (fun σ' H' => ∃ st : Int, σ' = [some (.ref c), some (.ref su), some (.int sd), some (.int p), some (.int n), some (.int t), some (.int m), some (.int x1), some (.int (1 + x2)), some (.int x3), some (.int st)] ∧ H' = H4 ∧ 1 ≤ st ∧ st ≤ 8 ∧ (st < 5 → 2 ≤ n)) (fun N hN => ?_) ?_
  · have on1 : 1 ≤ n := by omega
    refine s_if ?_
    kc_close
    refine ifI (fun h => ?_) (fun h => ?_)
    · kc_close
      refine ifP (fun h2 => ?_) (fun h2 => ?_)
      · kc_close
        exact hN _ _ ⟨_, rfl, rfl, by omega, by omega, by omega⟩
      · kc_close
        exact hN _ _ ⟨_, rfl, rfl, by omega, by omega, by omega⟩
    · refine iteF ?_
      kc_close
      exact hN _ _ ⟨_, rfl, rfl, by omega, by omega, by omega⟩
  rintro _ H4 ⟨st, rfl, rfl, st1, st8, st2⟩
  have fin : ∀ (xs : List Int), M.AddrAt n t m st sd xs → ∀ r H', H4 r = none → Same H4 H' → H' r = some (.tup (xs.map V.int)) → Q (.ref r) H' := fun xs ha r H' nr s' er => q H' r xs st (bb.trans (But.of s')) (d4.same s') (SqT.of er) ha
  kc_close
  refine s_if ?_
  kc_close
  refine ifI (fun h => ?_) (fun h1 => ?_)
  · subst h
    kc_close
    refine u_take d4 (by omega) (by omega) fun H5 x5 b5 d5 g8 g9 => ?_
    kc_close
    intro r H6 nr s6 er
    exact q H6 r [1, sd, x3, x1, x5] 1 (bb.trans (b5.trans (But.of s6))) (d5.same s6) (SqT.of er) (.r1 ps pk (nk (st2 (by omega))) ia ⟨g8, g9⟩)
  kc_close
  refine s_if ?_
  kc_close
  refine ifI (fun h => ?_) (fun h2 => ?_)
  · subst h
    kc_close
    exact fin _ (.r2 ps pk (nk (st2 (by omega))) pd ia)
  kc_close
  refine s_if ?_
  kc_close
  refine ifI (fun h => ?_) (fun h3 => ?_)
  · subst h
    kc_close
    exact fin _ (.r3 ps pd pk (nk (st2 (by omega))))
  kc_close
  refine s_if ?_
  kc_close
  refine ifI (fun h => ?_) (fun h4 => ?_)
  · subst h
    kc_close
    refine u_party d4 hs4 ok pd fun H5 x5 b5 d5 pk5 nk5 => ?_
    kc_close
    intro r H6 nr s6 er
    exact q H6 r [4, sd, 0, 1 + x2, x5, x1] 4 (bb.trans (b5.trans (But.of s6))) (d5.same s6) (SqT.of er) (.r4 ps pd pk5 (nk5 (st2 (by omega))) ia)
  kc_close
  refine s_if ?_
  kc_close
  refine ifI (fun h => ?_) (fun h5 => ?_)
  · subst h
    refine iteT ?_
    kc_close
    exact fin _ (.r5 ps pd)
  kc_close
  refine ifI (fun h => ?_) (fun h7 => ?_)
  · subst h
    kc_close
    exact fin _ (.r7 ps pd)
  kc_close
  refine s_if ?_
  kc_close
  refine ifI (fun h => ?_) (fun h6 => ?_)
  · subst h
    kc_close
    refine u_take d4 (by omega) (by omega) fun H5 x5 b5 d5 g8 g9 => ?_
    kc_close
    intro r H6 nr s6 er
    exact q H6 r [6, sd, 0, 1 + x2, x1, x5] 6 (bb.trans (b5.trans (But.of s6))) (d5.same s6) (SqT.of er) (.r6 ps pd ia ⟨g8, g9⟩)
  have h8 : st = 8 := by omega
  subst h8
  kc_close
  exact fin _ (.r8 ps ia)
theorem u_addr {c su L : Addr} {sd p n t m : Int} {H : Hp} {Q : VK} {E : XK} (d : DR H c L) (hs : SU K H su p n t m) (ok : M.SetOk p n t m) (po : M.Pty n sd) (q : ∀ H' q x st, But c H H' → DR H' c L → IsT K H' q x → M.AddrAt n t m st sd x → Q (.ref q) H') : spAddr K [.ref c, .ref su, .int sd] H Q E := ⟨c, su, sd, rfl, L, p, n, t, m, d, hs, ok, po, q⟩
end
end K1
end
section
open PySem PySem.Spec PyProof.Rows L2 Z
local macro_rules | `(tactic| ktr_room) => `(tactic| first
  | assumption
  | (apply SqT.of; assumption)
  | (apply SqL.of; assumption)
  | (apply sqt_same; assumption; ktr_room)
  | (apply sql_same; assumption; ktr_room)
  | (apply sqt_but; assumption; assumption; ktr_room)
  | (apply sql_but; assumption; assumption; ktr_room)
  | (apply Same.of_; assumption; ktr_room)
  | (apply But.of_; assumption; assumption; ktr_room)
  | exact same_refl
  | exact but_refl
  | (apply same_tr; assumption; ktr_room)
  | (apply same_but; assumption; ktr_room; assumption)
  | (apply but_tr; assumption; ktr_room)
  | (apply but_trB; assumption; ktr_room))
local macro_rules | `(tactic| ktr_units) => `(tactic| first | with_reducible assumption | omega | rfl | exact ⟨by omega, by omega⟩ | exact .inl ⟨by omega, by omega⟩ | exact .inr ⟨by omega, by omega⟩ | exact ⟨by decide, by decide, by decide⟩ | exact Nat.le_of_ble_eq_true rfl | decide)
local macro_rules | `(tactic| kc_close) => `(tactic| repeat (with_reducible first
  | refine s_var (by with_unfolding_all rfl) ?_
  | refine s_c ?_
  | refine s_op ?_
  | refine s_rI0 ?_
  | refine s_asg ?_
  | refine s_gname ?_
  | refine s_seq ?_
  | refine s_cons ?_
  | refine s_nil ?_
  | refine s_call ?_
  | refine s_ret ?_
  | o_fieldsN
  | refine s_test ?_
  | refine s_bl ?_
  | refine s_rI (by with_unfolding_all (ktr_units)) ?_
  | refine s_rEq rfl ?_
  | refine s_rNe rfl ?_
  | refine s_cb ?_
  | refine s_int1 ?_
  | refine s_intB ?_
  | refine s_max2 ?_
  | refine s_min2 ?_
  | refine s_tup ?_
  | refine s_lst ?_
  | refine s_newT (by with_unfolding_all first | decide | exact Nat.le_of_ble_eq_true rfl) ?_
  | refine s_newL (by with_unfolding_all first | decide | exact Nat.le_of_ble_eq_true rfl) ?_
  | refine s_ixT (by ktr_room) (by with_unfolding_all rfl) ?_
  | refine s_ixL (by ktr_room) (by with_unfolding_all rfl) ?_
  | refine s_lenT (by ktr_room) ?_
  | refine s_lenL (by ktr_room) ?_
  | refine s_un ?_
  | refine s_rU ?_
  | refine s_and ?_
  | refine s_or ?_
  | refine s_not ?_
  | refine s_tB ?_
  | refine s_tru ?_
  | refine s_drop ?_
  | refine s_next ?_
  | refine s_for ?_
  | refine s_rng1 ?_
  | refine s_rng2 ?_
  | refine s_rng3 ?_
  | refine s_ilist ?_
  | refine s_itup ?_
  | refine s_iany ?_
  | refine s_ienum ?_
  | refine s_irev ?_
  | refine s_gcons ?_
  | refine s_gnil ?_
  | refine s_gtup (by ktr_room) (by with_unfolding_all rfl) ?_
  | refine s_gsub ?_
  | refine s_augS ?_
  | refine s_aug (by with_unfolding_all rfl) ?_
  | refine s_ipI ?_
  | refine s_bm ?_
  | refine s_bm0 ?_
  | refine s_tyL (by ktr_room) ?_
  | refine s_tyL0 (by ktr_room) ?_
  | refine s_sl ?_
  | refine s_part ?_
  | refine s_partv ?_
  | refine s_noPart ?_
  | refine s_lc ?_
  | refine s_yes ?_
  | refine s_wipe (by with_unfolding_all rfl) ?_
  | refine iteT ?_
  | refine s_retN ?_
  | refine s_isN ?_
  | refine s_truB ?_
  | refine s_isB2 ?_
  | refine s_notB2 ?_
  | refine s_revT ?_
  | refine s_andV ?_
  | refine s_orV ?_
  | refine s_ifE ?_
  | refine s_notK ?_
  | refine s_notN ?_
  | refine s_truL (by ktr_room) ?_
  | refine s_truT (by ktr_room) ?_))
open K1
local macro_rules | `(tactic| ktr_room) => `(tactic| first
  | (apply DR.same; assumption; ktr_room)
  | (apply sqt_butD; assumption; ktr_room; ktr_room))
namespace K1
section
variable {P : Program} {w : World} {K : PySem.W.Frag} {mg : Str → Option Value} {base : Heap}
theorem u_foes {c su L : Addr} {p n t m : Int} {H : Hp} {Q : VK} {E : XK} (d : DR H c L) (hs : SU K H su p n t m) (ok : M.SetOk p n t m) (q : ∀ H' q fs, But c H H' → DR H' c L → IsT K H' q fs → FoesOk n t fs → Q (.ref q) H') : spFoes K [.ref c, .ref su] H Q E := ⟨c, su, rfl, L, p, n, t, m, d, hs, ok, q⟩
theorem at4c {a b c e : Addr} {d : Int} (h0 : 0 ≤ d) (h1 : d < 4) : ∃ x : Addr, (x = a ∨ x = b ∨ x = c ∨ x = e) ∧ atI [V.ref a, .ref b, .ref c, .ref e] d = some (.ref x) := by
  rcases (show d = 0 ∨ d = 1 ∨ d = 2 ∨ d = 3 by omega) with rfl | rfl | rfl | rfl
  · exact ⟨a, .inl rfl, rfl⟩
  · exact ⟨b, .inr (.inl rfl), rfl⟩
  · exact ⟨c, .inr (.inr (.inl rfl)), rfl⟩
  · exact ⟨e, .inr (.inr (.inr rfl)), rfl⟩
def RuleOk (p n t m : Int) (fs : List Int) (r : List Int × M.Chg) : Prop := (∃ st i, M.AddrAt n t m st i r.1 ∧ i ∈ fs) ∧ M.ChgOk p n t m r.2
def spRules (K : PySem.W.Frag) : Sp := fun vs H Q _ => ∃ (c su fo : Addr) (mo : Int), vs = [.ref c, .ref su, .ref fo, .int mo] ∧ ∃ L p n t m fs, DR H c L ∧ SU K H su p n t m ∧ M.SetOk p n t m ∧ IsT K H fo fs ∧ FoesOk n t fs ∧ 0 ≤ mo ∧ mo ≤ 12 ∧
  ∀ H' q as rs, But c H H' → DR H' c L → SqT K H' q (as.map V.ref) → Paired (IsRule K H') as rs → (∀ r ∈ rs, RuleOk p n t m fs r) → rs.length ≤ 12 → Q (.ref q) H'
/-- the slots -/
abbrev stR (c su fo mo found k sender v other change : Option V := none) : L2.St := [c, su, fo, mo, found, k, sender, v, other, change]
theorem ok__law_rules (T : NoB mg) (h : Has K mg "_law_rules" (topS 26) ["d", "setup", "foes", "most"]) (G__law_take : Good P w K mg base 2 "_law_take" ["d", "many"] (spTake)) (G__law_address : Good P w K mg base 4 "_law_address" ["d", "setup", "sender"] (spAddr K)) : Good P w K mg base 5 "_law_rules" ["d", "setup", "foes", "most"] (spRules K) := by
  have sc : FnScope ["d", "setup", "foes", "most", "found", "k", "sender", "v", "other", "change"] ["d", "setup", "foes", "most"] (defScope (topS 26)) := ⟨rfl, rfl, rfl, by decide +kernel, rfl, by decide +kernel, by decide +kernel⟩
  have nd := sc.nd
  refine h.good sc (fun vs H Q E h => by obtain ⟨c, su, fo, mo, rfl, _⟩ := h; rfl) (fun f cdv A outer s H vs Q E hr h => ?_)
  obtain ⟨c, su, fo, mo, rfl, hyp⟩ := h
  refine ⟨_, (pss_cons (ps_set (i := 4) nd rfl (by first | exact .inl rfl | exact .inr rfl) (pe_lst pa_nil))
  (pss_cons (ps_for PassesOwn.never rfl (pi_range1 rfl T.n_range (pa_cons (pe_callG G__law_take (hr.mono (by first | decide | omega)) (by rfl) (pa_cons (pv 0) (pa_cons (pe_op op_add (pv 3) pe_int) pa_nil))) pa_nil)) (pg_name (i := 5) nd rfl (by first | exact .inl rfl | exact .inr rfl))
  (pss_one (ps_if (pt_truK K (pv 2) (by intro _; rfl))
  (pss_cons (ps_set (i := 6) nd rfl (by first | exact .inl rfl | exact .inr rfl) (pe_ix (ix_tupK K) (pv 2) (pe_callG G__law_take (hr.mono (by first | decide | omega)) (by rfl) (pa_cons (pv 0) (pa_cons (pe_callB (c_lenK K) (by rfl) T.n_len (by decide +kernel) (pa_cons (pv 2) pa_nil)) pa_nil))) (fun _ _ => rfl)))
  (pss_cons (ps_set (i := 7) nd rfl (by first | exact .inl rfl | exact .inr rfl) (pe_callG G__law_take (hr.mono (by first | decide | omega)) (by rfl) (pa_cons (pv 0) (pa_cons (pe_ix (ix_tupK K) (pv 1) pe_int (fun _ _ => rfl)) pa_nil))))
  (pss_cons (ps_set (i := 8) nd rfl (by first | exact .inl rfl | exact .inr rfl) (pe_callG G__law_address (hr.mono (by first | decide | omega)) (by rfl) (pa_cons (pv 0) (pa_cons (pv 1) (pa_cons (pe_op op_add pe_int (pe_callG G__law_take (hr.mono (by first | decide | omega)) (by rfl) (pa_cons (pv 0) (pa_cons (pe_ix (ix_tupK K) (pv 1) pe_int (fun _ _ => rfl)) pa_nil)))) pa_nil)))))
  (pss_cons (ps_set (i := 9) nd rfl (by first | exact .inl rfl | exact .inr rfl) (pe_ix (ix_listK K) (pe_lst (pa_cons (pe_tup (pa_cons pe_str (pa_cons (pv 7) pa_nil))) (pa_cons (pe_tup (pa_cons pe_str (pa_cons (pv 7) pa_nil))) (pa_cons (pe_tup (pa_cons pe_str pa_nil)) (pa_cons (pe_tup (pa_cons pe_str (pa_cons (pv 8) pa_nil))) pa_nil))))) (pe_callG G__law_take (hr.mono (by first | decide | omega)) (by rfl) (pa_cons (pv 0) (pa_cons pe_int pa_nil))) (fun _ _ => rfl)))
  (pss_one (ps_expr (pe_bmK K PySem.F.plainAttrs_list PySem.F.slot_list_append PySem.F.type_list_append mt_append (pv 4) (pa_cons (pe_tup (pa_cons (pe_callG G__law_address (hr.mono (by first | decide | omega)) (by rfl) (pa_cons (pv 0) (pa_cons (pv 1) (pa_cons (pv 6) pa_nil)))) (pa_cons (pv 9) pa_nil))) pa_nil)))))))) pss_nil)))
  (pss_one (ps_ret (pe_callTy (c_tupK K) (by rfl) T.n_tuple (by decide +kernel) (pa_cons (pv 4) pa_nil)))))), ?_⟩
  try dsimp only [cxOf, Cx.wish]
  obtain ⟨L, p, n, t, m, fs, d0, hs, ok, hf, fok, mo0, mo1, q⟩ := hyp
  have pr := ok.pr.lt
  have ot0 := ok.t0
  have ot2 := ok.t2
  have ont := ok.nt
  have on7 := ok.n7
  have om1 := ok.m1
  have om6 := ok.m6
  have ffew := fok.few
  have line : (100000 : Nat) < sizeLine := by decide
  kc_close
  intro R H1 nR s1 eR
  have nRC := d0.ne nR
  have nRL := d0.neL nR
  kc_close
  refine u_take (d0.same s1) (by omega) (by omega) fun H2 x2 b2 d2 g0 g1 => ?_
  kc_close
  refine s_rng1v (by omega) (by omega) ?_
  refine w_range (fun i σ' H' => ∃ (y5 y6 y7 y8 y9 : Option V) (as : List Addr) (rs : List (List Int × M.Chg)), σ' = stR (some (.ref c)) (some (.ref su)) (some (.ref fo)) (some (.int mo)) (some (.ref R)) y5 y6 y7 y8 y9 ∧ But c H H' ∧ DR H' c L ∧ H' R = some (.lst (as.map V.ref)) ∧ Paired (IsRule K H') as rs ∧ (∀ r ∈ rs, RuleOk p n t m fs r) ∧ rs.length ≤ i) ⟨none, none, none, none, none, [], [], rfl, (But.of s1).trans b2, d2, b2 _ _ nRC eR, .nil, fun r h => (by cases h), Nat.le_refl _⟩ ?_ ?_
  · rintro i _ H4 hi ⟨y5, y6, y7, y8, y9, as, rs, rfl, b4, d4, e4, hps, hrs, le4⟩
    have las := Paired.length hps
    have hs4 : SU K H4 su p n t m := sqt_butD b4 d0 hs
    have hf4 : IsT K H4 fo fs := sqt_butD b4 d0 hf
    kc_close
    refine s_if ?_
    kc_close
    by_cases hm : fs = []
    · refine ifFalse (by rw [hm]; rfl) ?_
      kc_close
      exact ⟨_, _, _, _, _, as, rs, rfl, b4, d4, e4, hps, hrs, by omega⟩
    · have lf : 0 < fs.length := List.length_pos_iff.mpr hm
      refine ifTrue (by cases fs with | nil => exact absurd rfl hm | cons _ _ => rfl) ?_
      kc_close
      refine u_take d4 (by rw [List.length_map]; omega) (by rw [List.length_map]; omega) fun H5 x5 b5 d5 g4 g5 => ?_
      rw [List.length_map] at g5
      have hf5 : IsT K H5 fo fs := sqt_butD b5 d4 hf4
      have hs5 : SU K H5 su p n t m := sqt_butD b5 d4 hs4
      kc_close
      refine s_ixT hf5 (at_nat g4 (by omega)) ?_
      have msd : fs.getD x5.toNat 0 ∈ fs := by
        rw [List.getD_eq_getElem?_getD, List.getElem?_eq_getElem (by omega)]
        exact List.getElem_mem _
      generalize fs.getD x5.toNat 0 = sd at msd ⊢
      have psd := fok.pty _ msd
      kc_close
      refine u_take d5 (by omega) (by omega) fun H6 v b6 d6 g6 g7 => ?_
      have hs6 : SU K H6 su p n t m := sqt_butD b6 d5 hs5
      kc_close
      refine u_take d6 (by omega) (by omega) fun H7 x7 b7 d7 g8 g9 => ?_
      have hs7 : SU K H7 su p n t m := sqt_butD b7 d6 hs6
      kc_close
      refine u_addr d7 hs7 ok ⟨by omega, by omega⟩ fun H8 ao xo sto b8 d8 hao hxo => ?_
      have hs8 : SU K H8 su p n t m := sqt_butD b8 d7 hs7
      have bb8 : But c H4 H8 := (b5.trans b6).trans (b7.trans b8)
      kc_close
      intro c1 H12 n1 s12 ec1
      kc_close
      intro c2 H14 n2 s14 ec2
      kc_close
      intro c3 H15 n3 s15 ec3
      kc_close
      intro c4 H16 n4 s16 ec4
      kc_close
      intro l2 H17 nl2 s17 el2
      have dl2 := (((d8.same s12).same s14).same s15).same s16
      have dl3 := dl2.ne nl2
      kc_close
      refine u_take (dl2.same s17) (by omega) (by omega) fun H9 x18 b18 d9 g10 g11 => ?_
      have el18 := b18 _ _ dl3 el2
      obtain ⟨B, hB, eB⟩ := at4c (a := c1) (b := c2) (c := c3) (e := c4) g10 g11
      kc_close
      refine s_ixL (SqL.of el18) eB ?_
      have b9 : But c H8 H9 := (But.of ((s12.trans s14).trans (s15.trans (s16.trans s17)))).trans b18
      have hBC : ∃ ch, IsChg K H9 B ch ∧ M.ChgOk p n t m ch := by
        have k16 : TK K H16 H9 := (TK.same s17).trans (tk_butD b18 (dl2.same s17))
        have k15 : TK K H15 H9 := (TK.same s16).trans k16
        have k14 : TK K H14 H9 := (TK.same s15).trans k15
        have k12 : TK K H12 H9 := (TK.same s14).trans k14
        rcases hB with rfl | rfl | rfl | rfl
        · exact ⟨.is v, k12 _ _ (SqT.of ec1), g6, g7⟩
        · exact ⟨.add v, k14 _ _ (SqT.of ec2), g6, g7⟩
        · exact ⟨.drop, k15 _ _ (SqT.of ec3), trivial⟩
        · exact ⟨.copy xo, ⟨ao, k16 _ _ (SqT.of ec4), tk_butD b9 d8 _ _ hao⟩, _, _, hxo⟩
      obtain ⟨ch, hB, hch⟩ := hBC
      have hs9 : SU K H9 su p n t m := sqt_butD b9 d8 hs8
      kc_close
      refine u_addr d9 hs9 ok psd fun H10 A x st b10 d10 hA hx => ?_
      kc_close
      intro r H13 nr s13 er
      have bb : But c H4 H13 := (bb8.trans (b9.trans b10)).trans (But.of s13)
      have eR13 := bb _ _ nRC e4
      kc_close
      refine s_append eR13 (by rw [List.length_map]; omega) fun H14 b14 e14 => ?_
      have k13 : TK K H13 H14 := TK.but b14 eR13
      have k10 : TK K H10 H14 := (TK.same s13).trans k13
      have k9 : TK K H9 H14 := (tk_butD b10 d9).trans k10
      have k4 : TK K H4 H14 := (tk_butD bb d4).trans k13
      refine ⟨_, _, _, _, _, as ++ [r], rs ++ [(x, ch)], rfl, But.sameN b14 (b4.trans bb) nR, (d10.same s13).but b14 nRC nRL, ?_, ?_, ?_, ?_⟩
      · rw [List.map_append]
        exact e14
      · exact paired_app (L2.Paired.mapP hps fun a x h => h.tk k4) (.cons ⟨A, B, k13 _ _ (SqT.of er), k10 _ _ hA, hB.tk k9⟩ .nil)
      · intro y hy
        rcases List.mem_append.mp hy with hy | hy
        · exact hrs y hy
        · rw [List.mem_singleton.mp hy]
          exact ⟨⟨st, sd, hx, msd⟩, hch⟩
      · rw [List.length_append]
        show rs.length + 1 ≤ i + 1
        omega
  · rintro _ H4 ⟨y5, y6, y7, y8, y9, as, rs, rfl, b4, d4, e4, hps, hrs, le4⟩
    kc_close
    refine s_tupL (SqL.of e4) fun f H6 nf s6 ef => ?_
    exact q H6 f as rs (b4.trans (But.of s6)) (d4.same s6) (SqT.of ef) (L2.Paired.mapP hps fun a x h => h.tk (TK.same s6)) hrs (by omega)
end
end K1
end
section
open PySem PySem.Spec PyProof.Rows L2 Z
local macro_rules | `(tactic| ktr_room) => `(tactic| first
  | assumption
  | (apply SqT.of; assumption)
  | (apply SqL.of; assumption)
  | (apply sqt_same; assumption; ktr_room)
  | (apply sql_same; assumption; ktr_room)
  | (apply sqt_but; assumption; assumption; ktr_room)
  | (apply sql_but; assumption; assumption; ktr_room)
  | (apply Same.of_; assumption; ktr_room)
  | (apply But.of_; assumption; assumption; ktr_room)
  | exact same_refl
  | exact but_refl
  | (apply same_tr; assumption; ktr_room)
  | (apply same_but; assumption; ktr_room; assumption)
  | (apply but_tr; assumption; ktr_room)
  | (apply but_trB; assumption; ktr_room))
local macro_rules | `(tactic| ktr_units) => `(tactic| first | with_reducible assumption | omega | rfl | exact ⟨by omega, by omega⟩ | exact .inl ⟨by omega, by omega⟩ | exact .inr ⟨by omega, by omega⟩ | exact ⟨by decide, by decide, by decide⟩ | exact Nat.le_of_ble_eq_true rfl | decide)
local macro_rules | `(tactic| kc_close) => `(tactic| repeat (with_reducible first
  | refine s_var (by with_unfolding_all rfl) ?_
  | refine s_c ?_
  | refine s_op ?_
  | refine s_rI0 ?_
  | refine s_asg ?_
  | refine s_gname ?_
  | refine s_seq ?_
  | refine s_cons ?_
  | refine s_nil ?_
  | refine s_call ?_
  | refine s_ret ?_
  | o_fieldsN
  | refine s_test ?_
  | refine s_bl ?_
  | refine s_rI (by with_unfolding_all (ktr_units)) ?_
  | refine s_rEq rfl ?_
  | refine s_rNe rfl ?_
  | refine s_cb ?_
  | refine s_int1 ?_
  | refine s_intB ?_
  | refine s_max2 ?_
  | refine s_min2 ?_
  | refine s_tup ?_
  | refine s_lst ?_
  | refine s_newT (by with_unfolding_all first | decide | exact Nat.le_of_ble_eq_true rfl) ?_
  | refine s_newL (by with_unfolding_all first | decide | exact Nat.le_of_ble_eq_true rfl) ?_
  | refine s_ixT (by ktr_room) (by with_unfolding_all rfl) ?_
  | refine s_ixL (by ktr_room) (by with_unfolding_all rfl) ?_
  | refine s_lenT (by ktr_room) ?_
  | refine s_lenL (by ktr_room) ?_
  | refine s_un ?_
  | refine s_rU ?_
  | refine s_and ?_
  | refine s_or ?_
  | refine s_not ?_
  | refine s_tB ?_
  | refine s_tru ?_
  | refine s_drop ?_
  | refine s_next ?_
  | refine s_for ?_
  | refine s_rng1 ?_
  | refine s_rng2 ?_
  | refine s_rng3 ?_
  | refine s_ilist ?_
  | refine s_itup ?_
  | refine s_iany ?_
  | refine s_ienum ?_
  | refine s_irev ?_
  | refine s_gcons ?_
  | refine s_gnil ?_
  | refine s_gtup (by ktr_room) (by with_unfolding_all rfl) ?_
  | refine s_gsub ?_
  | refine s_augS ?_
  | refine s_aug (by with_unfolding_all rfl) ?_
  | refine s_ipI ?_
  | refine s_bm ?_
  | refine s_bm0 ?_
  | refine s_tyL (by ktr_room) ?_
  | refine s_tyL0 (by ktr_room) ?_
  | refine s_sl ?_
  | refine s_part ?_
  | refine s_partv ?_
  | refine s_noPart ?_
  | refine s_lc ?_
  | refine s_yes ?_
  | refine s_wipe (by with_unfolding_all rfl) ?_
  | refine iteT ?_
  | refine s_retN ?_
  | refine s_isN ?_
  | refine s_truB ?_
  | refine s_isB2 ?_
  | refine s_notB2 ?_
  | refine s_revT ?_
  | refine s_andV ?_
  | refine s_orV ?_
  | refine s_ifE ?_
  | refine s_notK ?_
  | refine s_notN ?_
  | refine s_truL (by ktr_room) ?_
  | refine s_truT (by ktr_room) ?_))
open K1
local macro_rules | `(tactic| ktr_room) => `(tactic| first
  | (apply DR.same; assumption; ktr_room)
  | (apply sqt_butD; assumption; ktr_room; ktr_room))
namespace K1
def chgD : M.Chg → PyData
  | .is v => .tuple [.str "is", .int v]
  | .add v => .tuple [.str "add", .int v]
  | .drop => .tuple [.str "drop"]
  | .copy x => .tuple [.str "copy", .tuple (x.map .int)]
def ruleD (r : List Int × M.Chg) : PyData := .tuple [.tuple (r.1.map .int), chgD r.2]
def scrD (s : M.Scr) : PyData := .tuple [.tuple (s.foes.map .int), .tuple (s.rules.map ruleD)]
def isScr (p n t m : Int) (d : PyData) : Prop := ∃ s, d = scrD s ∧ M.ScrOk p n t m s
def isAddr (n t m : Int) (d : PyData) : Prop := ∃ st i xs, d = .tuple (xs.map .int) ∧ M.AddrAt n t m st i xs
def ChgP (p n t m : Int) (d : PyData) : Prop := ∃ c, d = chgD c ∧ M.ChgOk p n t m c
/-- the bounds of the places behind the sender -/
inductive Bnds (n t m : Int) : Int → Int → List (List Int) → Prop
  | b1 {i : Int} : Bnds n t m 1 i [[1, n, i], [0, m - 1, -1], [0, t, -1]]
  | b2 {i : Int} : Bnds n t m 2 i [[1, n, i], [1, n, 0], [0, m - 1, -1]]
  | b3 {i : Int} : Bnds n t m 3 i [[0, 0, -1], [1, n, 0], [1, n, i]]
  | b4 {i : Int} : Bnds n t m 4 i [[0, 0, -1], [1, n, 0], [1, n, 0], [0, m - 1, -1]]
  | b5 {i : Int} : Bnds n t m 5 i [[0, 0, -1], [1, n, 0]]
  | b6 {i : Int} : Bnds n t m 6 i [[0, 0, -1], [1, n, 0], [0, m - 1, -1], [0, t, -1]]
  | b7 {i : Int} : Bnds n t m 7 i [[0, 0, -1], [1, n, 0]]
  | b8 {i : Int} : Bnds n t m 8 i [[0, 0, -1], [0, m - 1, -1]]
theorem addr_form {n t m st i : Int} {d : PyData} {xs : List Int} (e : d = .tuple (xs.map .int)) (h : M.AddrAt n t m st i xs) : ∃ r : List Int, d = .tuple (.int st :: .int i :: r.map .int) := by
  subst e
  cases h <;> exact ⟨_, rfl⟩
/-- data with the round and the sender are an address only so -/
theorem addr_inv {n t m : Int} {s j : PyData} {r : List PyData} (h : isAddr n t m (.tuple (s :: j :: r))) : ∃ st i : Int, s = .int st ∧ j = .int i ∧ M.Pty n i ∧
    ((st = 1 ∧ ∃ k a u, r = [.int k, .int a, .int u] ∧ M.Pty n k ∧ k ≠ i ∧ M.Idx m a ∧ M.Idx (t + 1) u) ∨
     (st = 2 ∧ ∃ k b a, r = [.int k, .int b, .int a] ∧ M.Pty n k ∧ k ≠ i ∧ M.Pty n b ∧ M.Idx m a) ∨
     (st = 3 ∧ ∃ b k, r = [.int 0, .int b, .int k] ∧ M.Pty n b ∧ M.Pty n k ∧ k ≠ i) ∨
     (st = 4 ∧ ∃ b k a, r = [.int 0, .int b, .int k, .int a] ∧ M.Pty n b ∧ M.Pty n k ∧ k ≠ b ∧ M.Idx m a) ∨
     (st = 5 ∧ ∃ b, r = [.int 0, .int b] ∧ M.Pty n b) ∨
     (st = 6 ∧ ∃ b a u, r = [.int 0, .int b, .int a, .int u] ∧ M.Pty n b ∧ M.Idx m a ∧ M.Idx (t + 1) u) ∨
     (st = 7 ∧ ∃ b, r = [.int 0, .int b] ∧ M.Pty n b) ∨
     (st = 8 ∧ ∃ a, r = [.int 0, .int a] ∧ M.Idx m a)) := by
  obtain ⟨st, i, xs, e, h⟩ := h
  injection e with e
  cases h <;> (simp only [List.map] at e; injection e with e1 e2; injection e2 with e2 e3; subst e1 e2 e3) <;> refine ⟨_, _, rfl, rfl, by assumption, ?_⟩
  · exact .inl ⟨rfl, _, _, _, rfl, by assumption, by assumption, by assumption, by assumption⟩
  · exact .inr (.inl ⟨rfl, _, _, _, rfl, by assumption, by assumption, by assumption, by assumption⟩)
  · exact .inr (.inr (.inl ⟨rfl, _, _, rfl, by assumption, by assumption, by assumption⟩))
  · exact .inr (.inr (.inr (.inl ⟨rfl, _, _, _, rfl, by assumption, by assumption, by assumption, by assumption⟩)))
  · exact .inr (.inr (.inr (.inr (.inl ⟨rfl, _, rfl, by assumption⟩))))
  · exact .inr (.inr (.inr (.inr (.inr (.inl ⟨rfl, _, _, _, rfl, by assumption, by assumption, by assumption⟩)))))
  · exact .inr (.inr (.inr (.inr (.inr (.inr (.inl ⟨rfl, _, rfl, by assumption⟩))))))
  · exact .inr (.inr (.inr (.inr (.inr (.inr (.inr ⟨rfl, _, rfl, by assumption⟩))))))
theorem bnds_of {n t m st i : Int} {xs : List Int} (h : M.AddrAt n t m st i xs) : ∃ rows, Bnds n t m st i rows ∧ rows.length + 2 = xs.length := by
  cases h
  · exact ⟨_, .b1, rfl⟩
  · exact ⟨_, .b2, rfl⟩
  · exact ⟨_, .b3, rfl⟩
  · exact ⟨_, .b4, rfl⟩
  · exact ⟨_, .b5, rfl⟩
  · exact ⟨_, .b6, rfl⟩
  · exact ⟨_, .b7, rfl⟩
  · exact ⟨_, .b8, rfl⟩
def With (xs : List Int) (k : Nat) (v : PyData) : PyData := .tuple ((xs.map .int).take (2 + k) ++ [v] ++ (xs.map .int).drop (3 + k))
theorem bnd_ok {n t m st i : Int} {xs : List Int} {rows : List (List Int)} (h : M.AddrAt n t m st i xs) (b : Bnds n t m st i rows) {k : Nat} (hk : k < rows.length) : ∃ lo hi ot, rows[k]? = some [lo, hi, ot] ∧ (lo = 0 ∨ lo = 1) ∧
    ∀ v, isAddr n t m (With xs k v) → ∃ y, v = .int y ∧ lo ≤ y ∧ y ≤ hi ∧ (0 < ot → y ≠ ot) := by
  cases h <;> cases b <;> (rcases k with _ | _ | _ | _ | k <;> first | (exfalso; simp at hk; done) | (exfalso; simp only [List.length_cons, List.length_nil] at hk; omega) | skip)
  all_goals
    refine ⟨_, _, _, rfl, by first | exact .inl rfl | exact .inr rfl, fun v hv => ?_⟩
    obtain ⟨s', i', e1, e2, _, hv⟩ := addr_inv hv
    injection e1 with e1
    injection e2 with e2
    subst e1 e2
    rcases hv with ⟨z, hv⟩ | ⟨z, hv⟩ | ⟨z, hv⟩ | ⟨z, hv⟩ | ⟨z, hv⟩ | ⟨z, hv⟩ | ⟨z, hv⟩ | ⟨z, hv⟩ <;> first | (exfalso; revert z; decide) | skip
    simp [M.Pty, M.Idx] at hv
    first
      | (obtain ⟨a, b, c, hv⟩ := hv; refine ⟨_, by first | exact hv.1 | exact hv.1.1 | exact hv.1.2 | exact hv.1.2.1 | exact hv.1.2.2 | exact hv.1.2.2.1 | exact hv.1.2.2.2, ?_⟩; omega)
      | (obtain ⟨a, b, hv⟩ := hv; refine ⟨_, by first | exact hv.1 | exact hv.1.1 | exact hv.1.2 | exact hv.1.2.1 | exact hv.1.2.2 | exact hv.1.2.2.1 | exact hv.1.2.2.2, ?_⟩; omega)
      | (obtain ⟨a, hv⟩ := hv; refine ⟨_, by first | exact hv.1 | exact hv.1.1 | exact hv.1.2 | exact hv.1.2.1 | exact hv.1.2.2 | exact hv.1.2.2.1 | exact hv.1.2.2.2, ?_⟩; omega)
end K1
end
section
open PySem PySem.Spec PyProof.Rows L2 Z
local macro_rules | `(tactic| ktr_room) => `(tactic| first
  | assumption
  | (apply SqT.of; assumption)
  | (apply SqL.of; assumption)
  | (apply sqt_same; assumption; ktr_room)
  | (apply sql_same; assumption; ktr_room)
  | (apply sqt_but; assumption; assumption; ktr_room)
  | (apply sql_but; assumption; assumption; ktr_room)
  | (apply Same.of_; assumption; ktr_room)
  | (apply But.of_; assumption; assumption; ktr_room)
  | exact same_refl
  | exact but_refl
  | (apply same_tr; assumption; ktr_room)
  | (apply same_but; assumption; ktr_room; assumption)
  | (apply but_tr; assumption; ktr_room)
  | (apply but_trB; assumption; ktr_room))
local macro_rules | `(tactic| ktr_units) => `(tactic| first | with_reducible assumption | omega | rfl | exact ⟨by omega, by omega⟩ | exact .inl ⟨by omega, by omega⟩ | exact .inr ⟨by omega, by omega⟩ | exact ⟨by decide, by decide, by decide⟩ | exact Nat.le_of_ble_eq_true rfl | decide)
local macro_rules | `(tactic| kc_close) => `(tactic| repeat (with_reducible first
  | refine s_var (by with_unfolding_all rfl) ?_
  | refine s_c ?_
  | refine s_op ?_
  | refine s_rI0 ?_
  | refine s_asg ?_
  | refine s_gname ?_
  | refine s_seq ?_
  | refine s_cons ?_
  | refine s_nil ?_
  | refine s_call ?_
  | refine s_ret ?_
  | o_fieldsN
  | refine s_test ?_
  | refine s_bl ?_
  | refine s_rI (by with_unfolding_all (ktr_units)) ?_
  | refine s_rEq rfl ?_
  | refine s_rNe rfl ?_
  | refine s_cb ?_
  | refine s_int1 ?_
  | refine s_intB ?_
  | refine s_max2 ?_
  | refine s_min2 ?_
  | refine s_tup ?_
  | refine s_lst ?_
  | refine s_newT (by with_unfolding_all first | decide | exact Nat.le_of_ble_eq_true rfl) ?_
  | refine s_newL (by with_unfolding_all first | decide | exact Nat.le_of_ble_eq_true rfl) ?_
  | refine s_ixT (by ktr_room) (by with_unfolding_all rfl) ?_
  | refine s_ixL (by ktr_room) (by with_unfolding_all rfl) ?_
  | refine s_lenT (by ktr_room) ?_
  | refine s_lenL (by ktr_room) ?_
  | refine s_un ?_
  | refine s_rU ?_
  | refine s_and ?_
  | refine s_or ?_
  | refine s_not ?_
  | refine s_tB ?_
  | refine s_tru ?_
  | refine s_drop ?_
  | refine s_next ?_
  | refine s_for ?_
  | refine s_rng1 ?_
  | refine s_rng2 ?_
  | refine s_rng3 ?_
  | refine s_ilist ?_
  | refine s_itup ?_
  | refine s_iany ?_
  | refine s_ienum ?_
  | refine s_irev ?_
  | refine s_gcons ?_
  | refine s_gnil ?_
  | refine s_gtup (by ktr_room) (by with_unfolding_all rfl) ?_
  | refine s_gsub ?_
  | refine s_augS ?_
  | refine s_aug (by with_unfolding_all rfl) ?_
  | refine s_ipI ?_
  | refine s_bm ?_
  | refine s_bm0 ?_
  | refine s_tyL (by ktr_room) ?_
  | refine s_tyL0 (by ktr_room) ?_
  | refine s_sl ?_
  | refine s_part ?_
  | refine s_partv ?_
  | refine s_noPart ?_
  | refine s_lc ?_
  | refine s_yes ?_
  | refine s_wipe (by with_unfolding_all rfl) ?_
  | refine iteT ?_
  | refine s_retN ?_
  | refine s_isN ?_
  | refine s_truB ?_
  | refine s_isB2 ?_
  | refine s_notB2 ?_
  | refine s_revT ?_
  | refine s_andV ?_
  | refine s_orV ?_
  | refine s_ifE ?_
  | refine s_notK ?_
  | refine s_notN ?_
  | refine s_truL (by ktr_room) ?_
  | refine s_truT (by ktr_room) ?_))
open K1
local macro_rules | `(tactic| ktr_room) => `(tactic| first
  | (apply DR.same; assumption; ktr_room)
  | (apply sqt_butD; assumption; ktr_room; ktr_room))
namespace K1
/-! dicts with int keys -/
section
variable {K : PySem.W.Frag} {H : Hp} {Q : VK} {σ : L2.St}
def DispW (p : Addr) (ps : List (V × V)) (H2 : Hp) (Q : VK) : Prop := H2 p = some (.dK []) ∧ ∃ kvs : List (Key × V), ps = kvs.map (fun kv => (kV kv.1, kv.2)) ∧ kvs.length ≤ 15 ∧ Q (.ref p) (upd H2 p (.dK (mergeK [] kvs)))
theorem s_disp {trs : List (TE × TE)} (h : ∀ p H1, H p = none → Same H H1 → H1 p = some (.dK []) → tPairs trs σ H1 (fun ps H2 => DispW p ps H2 Q)) : tDisp trs σ H Q := by
  intro p hp
  exact h p _ hp (fun b o e => by
    have : b ≠ p := fun z => by subst z; rw [hp] at e; cases e
    rw [upd_ne this]
    exact e) upd_same
theorem s_dispW {p : Addr} {ps : List (V × V)} {kvs : List (Key × V)} (e2 : H p = some (.dK [])) (ep : ps = kvs.map (fun kv => (kV kv.1, kv.2))) (lk : kvs.length ≤ 15) (h : ∀ H3, But p H H3 → H3 p = some (.dK (mergeK [] kvs)) → Q (.ref p) H3) : DispW p ps H Q := ⟨e2, kvs, ep, lk, h _ But.upd upd_same⟩
theorem s_pair {tk tv : TE} {r : List (TE × TE)} {F : List (V × V) → Hp → Prop} (h : tk σ H fun x H1 => tv σ H1 fun y H2 => tPairs r σ H2 fun ps H3 => F ((x, y) :: ps) H3) : tPairs ((tk, tv) :: r) σ H F := h
theorem s_pnil {F : List (V × V) → Hp → Prop} (h : F [] H) : tPairs [] σ H F := h
theorem s_setD {a : Addr} {kvs : List (Key × V)} {i : Int} {v : V} {F : Hp → Prop} (e : H a = some (.dK kvs)) (hl : kvs.length < 1000) (hn : valV kvs (.inl i) = none) (h : ∀ H', But a H H' → H' a = some (.dK (kvs ++ [(.inl i, v)])) → F H') : rSetD (.ref a) (.int i) v H F := by
  have line : (1000 : Nat) < sizeLine := by decide
  refine ⟨a, _, rfl, DPut.k (k := .inl i) e (by omega), h _ But.upd ?_⟩
  rw [upd_same, putK_new v hn]
def DGetW (x y : V) (H : Hp) (Q : VK) : Prop := ∃ a v, x = .ref a ∧ DGet H a y (some v) ∧ Q v H
theorem s_dget {td ty : TE} (h : td σ H fun x H1 => ty σ H1 fun y H2 => DGetW x y H2 Q) : tDGet td ty σ H Q := h
theorem s_dgetI {a : Addr} {kvs : List (Key × V)} {i : Int} {v : V} (e : H a = some (.dK kvs)) (hv : valV kvs (.inl i) = some v) (h : Q v H) : DGetW (.ref a) (.int i) H Q := ⟨a, v, rfl, hv ▸ DGet.k (k := .inl i) e, h⟩
/-- lists stay -/
def LK (H H' : Hp) : Prop := ∀ a xs, H a = some (.lst xs) → H' a = some (.lst xs)
theorem LK.same {H H' : Hp} (s : Same H H') : LK H H' := fun a xs h => s _ _ h
theorem LK.dict {H H' : Hp} {p : Addr} {kvs : List (Key × V)} (b : But p H H') (e : H p = some (.dK kvs)) : LK H H' := fun a xs h => b _ _ (fun z => by subst z; rw [e] at h; cases h) h
theorem LK.trans {H H1 H2 : Hp} (a : LK H H1) (b : LK H1 H2) : LK H H2 := fun x xs h => b _ _ (a _ _ h)
theorem TK.dict {K : PySem.W.Frag} {H H' : Hp} {p : Addr} {kvs : List (Key × V)} (b : But p H H') (e : H p = some (.dK kvs)) : TK K H H' := fun a xs h => h.elim (fun h => .inl (But.rd b (fun z => by
  subst z
  rcases h with h | ⟨o, h⟩
  · rw [h] at e
    cases e
  · rw [h] at e
    cases e) h)) .inr
theorem at_c0 {α : Type} {a : α} {r : List α} : atI (a :: r) 0 = some a := by
  unfold atI ixN
  simp
theorem at_c1 {α : Type} {a b : α} {r : List α} : atI (a :: b :: r) 1 = some b := by
  unfold atI ixN
  simp
  rw [if_pos (by omega)]
  rfl
theorem none_of {H H' : Hp} {a : Addr} (s : Same H H') (n : H' a = none) : H a = none := by
  cases e : H a with
  | none => rfl
  | some o => rw [s _ _ e] at n; cases n
theorem u1 {a : Nat} (h : a + 64 < cLine) : a + 1 < cLine := by omega
/-- a list of lists of numbers -/
def LL (H : Hp) (a : Addr) (b : List (List Int)) : Prop := ∃ as, H a = some (.lst (as.map V.ref)) ∧ Paired (fun x l => H x = some (.lst (l.map V.int))) as b
theorem LL.lk {H H' : Hp} {a : Addr} {b : List (List Int)} (h : LL H a b) (k : LK H H') : LL H' a b := by
  obtain ⟨as, e, p⟩ := h
  exact ⟨as, k _ _ e, L2.Paired.mapP p fun x l h => k _ _ h⟩
theorem LL.two {H : Hp} {a x y : Addr} {l1 l2 : List Int} (e : H a = some (.lst [.ref x, .ref y])) (h1 : H x = some (.lst (l1.map V.int))) (h2 : H y = some (.lst (l2.map V.int))) : LL H a [l1, l2] := ⟨[x, y], e, .cons h1 (.cons h2 .nil)⟩
theorem LL.three {H : Hp} {a x y z : Addr} {l1 l2 l3 : List Int} (e : H a = some (.lst [.ref x, .ref y, .ref z])) (h1 : H x = some (.lst (l1.map V.int))) (h2 : H y = some (.lst (l2.map V.int))) (h3 : H z = some (.lst (l3.map V.int))) : LL H a [l1, l2, l3] := ⟨[x, y, z], e, .cons h1 (.cons h2 (.cons h3 .nil))⟩
theorem LL.four {H : Hp} {a x y z u : Addr} {l1 l2 l3 l4 : List Int} (e : H a = some (.lst [.ref x, .ref y, .ref z, .ref u])) (h1 : H x = some (.lst (l1.map V.int))) (h2 : H y = some (.lst (l2.map V.int))) (h3 : H z = some (.lst (l3.map V.int))) (h4 : H u = some (.lst (l4.map V.int))) : LL H a [l1, l2, l3, l4] := ⟨[x, y, z, u], e, .cons h1 (.cons h2 (.cons h3 (.cons h4 .nil)))⟩
theorem lst_bnds {n t m st i : Int} {rows : List (List Int)} (h : Bnds n t m st i rows) : 0 < rows.length ∧ rows.length ≤ 4 := by
  cases h <;> simp
end
section
variable {P : Program} {w : World} {K : PySem.W.Frag} {mg : Str → Option Value} {base : Heap}
def spBounds (K : PySem.W.Frag) : Sp := fun vs H Q _ => ∃ (su ad : Addr), vs = [.ref su, .ref ad] ∧ ∃ p n t m st i xs, SU K H su p n t m ∧ IsT K H ad xs ∧ M.AddrAt n t m st i xs ∧
  ∀ H' q rows, Same H H' → LL H' q rows → Bnds n t m st i rows → Q (.ref q) H'
theorem addr_cons {n t m st i : Int} {xs : List Int} (h : M.AddrAt n t m st i xs) : ∃ r, xs = st :: i :: r := by
  cases h <;> exact ⟨_, rfl⟩
theorem ok__law_bounds (h : Has K mg "_law_bounds" (topS 27) ["setup", "address"]) : Good P w K mg base 1 "_law_bounds" ["setup", "address"] (spBounds K) := by
  have sc : FnScope ["setup", "address", "p", "n", "t", "m", "step", "parties", "rows"] ["setup", "address"] (defScope (topS 27)) := ⟨rfl, rfl, rfl, by decide +kernel, rfl, by decide +kernel, by decide +kernel⟩
  have nd := sc.nd
  refine h.good sc (fun vs H Q E h => by obtain ⟨su, ad, rfl, _⟩ := h; rfl) (fun f cdv A outer s H vs Q E hr h => ?_)
  obtain ⟨su, ad, rfl, hyp⟩ := h
  refine ⟨_, (pss_cons (ps_asg (pv 0) (pg_tupK K 4 (by rfl) (pgs_cons (pg_name (i := 2) nd rfl (by first | exact .inl rfl | exact .inr rfl)) (pgs_cons (pg_name (i := 3) nd rfl (by first | exact .inl rfl | exact .inr rfl)) (pgs_cons (pg_name (i := 4) nd rfl (by first | exact .inl rfl | exact .inr rfl)) (pgs_cons (pg_name (i := 5) nd rfl (by first | exact .inl rfl | exact .inr rfl)) pgs_nil))))))
  (pss_cons (ps_set (i := 6) nd rfl (by first | exact .inl rfl | exact .inr rfl) (pe_ix (ix_tupK K) (pv 1) pe_int (fun _ _ => rfl)))
  (pss_cons (ps_set (i := 7) nd rfl (by first | exact .inl rfl | exact .inr rfl) (pe_lst (pa_cons pe_int (pa_cons (pv 3) (pa_cons pe_int pa_nil)))))
  (pss_cons (ps_set (i := 8) nd rfl (by first | exact .inl rfl | exact .inr rfl) (pe_disp (pps_cons pe_int (pe_lst (pa_cons (pe_lst (pa_cons pe_int (pa_cons (pv 3) (pa_cons (pe_ix (ix_tupK K) (pv 1) pe_int (fun _ _ => rfl)) pa_nil)))) (pa_cons (pe_lst (pa_cons pe_int (pa_cons (pe_op op_sub (pv 5) pe_int) (pa_cons (pe_un un_neg pe_int) pa_nil)))) (pa_cons (pe_lst (pa_cons pe_int (pa_cons (pv 4) (pa_cons (pe_un un_neg pe_int) pa_nil)))) pa_nil)))) (pps_cons pe_int (pe_lst (pa_cons (pe_lst (pa_cons pe_int (pa_cons (pv 3) (pa_cons (pe_ix (ix_tupK K) (pv 1) pe_int (fun _ _ => rfl)) pa_nil)))) (pa_cons (pv 7) (pa_cons (pe_lst (pa_cons pe_int (pa_cons (pe_op op_sub (pv 5) pe_int) (pa_cons (pe_un un_neg pe_int) pa_nil)))) pa_nil)))) pps_nil)) rfl rfl (by nofun) (by decide)))
  (pss_cons (ps_asg (pe_lst (pa_cons (pe_lst (pa_cons pe_int (pa_cons pe_int (pa_cons (pe_un un_neg pe_int) pa_nil)))) (pa_cons (pv 7) (pa_cons (pe_lst (pa_cons pe_int (pa_cons (pv 3) (pa_cons (pe_ix (ix_tupK K) (pv 1) pe_int (fun _ _ => rfl)) pa_nil)))) pa_nil)))) (pg_sub (pv 8) pe_int (set_dict (u1 hr.units))))
  (pss_cons (ps_asg (pe_lst (pa_cons (pe_lst (pa_cons pe_int (pa_cons pe_int (pa_cons (pe_un un_neg pe_int) pa_nil)))) (pa_cons (pv 7) (pa_cons (pe_lst (pa_cons pe_int (pa_cons (pv 3) (pa_cons pe_int pa_nil)))) (pa_cons (pe_lst (pa_cons pe_int (pa_cons (pe_op op_sub (pv 5) pe_int) (pa_cons (pe_un un_neg pe_int) pa_nil)))) pa_nil))))) (pg_sub (pv 8) pe_int (set_dict (u1 hr.units))))
  (pss_cons (ps_asg (pe_lst (pa_cons (pe_lst (pa_cons pe_int (pa_cons pe_int (pa_cons (pe_un un_neg pe_int) pa_nil)))) (pa_cons (pv 7) pa_nil))) (pg_sub (pv 8) pe_int (set_dict (u1 hr.units))))
  (pss_cons (ps_asg (pe_lst (pa_cons (pe_lst (pa_cons pe_int (pa_cons pe_int (pa_cons (pe_un un_neg pe_int) pa_nil)))) (pa_cons (pv 7) (pa_cons (pe_lst (pa_cons pe_int (pa_cons (pe_op op_sub (pv 5) pe_int) (pa_cons (pe_un un_neg pe_int) pa_nil)))) (pa_cons (pe_lst (pa_cons pe_int (pa_cons (pv 4) (pa_cons (pe_un un_neg pe_int) pa_nil)))) pa_nil))))) (pg_sub (pv 8) pe_int (set_dict (u1 hr.units))))
  (pss_cons (ps_asg (pe_dget (u1 hr.units) (pv 8) pe_int (fun _ _ => rfl)) (pg_sub (pv 8) pe_int (set_dict (u1 hr.units))))
  (pss_cons (ps_asg (pe_lst (pa_cons (pe_lst (pa_cons pe_int (pa_cons pe_int (pa_cons (pe_un un_neg pe_int) pa_nil)))) (pa_cons (pe_lst (pa_cons pe_int (pa_cons (pe_op op_sub (pv 5) pe_int) (pa_cons (pe_un un_neg pe_int) pa_nil)))) pa_nil))) (pg_sub (pv 8) pe_int (set_dict (u1 hr.units))))
  (pss_one (ps_ret (pe_dget (u1 hr.units) (pv 8) (pv 6) (fun _ _ => rfl)))))))))))))), ?_⟩
  try dsimp only [cxOf, Cx.wish]
  obtain ⟨p, n, t, m, st, i, xs, hs, hx, ha, q⟩ := hyp
  obtain ⟨xr, rfl⟩ := addr_cons ha
  have hx : SqT K H ad (.int st :: .int i :: xr.map V.int) := hx
  kc_close
  refine s_ixT hx at_c0 ?_
  kc_close
  intro l0 H0 n0 s0 e0
  kc_close
  refine s_disp fun D H1 nD s1 eD => ?_
  refine s_pair ?_
  kc_close
  refine s_ixT (sqt_same (s0.trans s1) hx) at_c1 ?_
  kc_close
  intro a1 H2 n2 s2 e2
  kc_close
  intro a2 H3 n3 s3 e3
  kc_close
  intro a3 H4 n4 s4 e4
  kc_close
  intro o1 H5 n5 s5 e5
  refine s_pair ?_
  kc_close
  refine s_ixT (sqt_same (s0.trans (s1.trans ((s2.trans s3).trans (s4.trans s5)))) hx) at_c1 ?_
  kc_close
  intro b1 H6 n6 s6 e6
  kc_close
  intro b2 H7 n7 s7 e7
  kc_close
  intro o2 H8 n8 s8 e8
  refine s_pnil ?_
  have s28 : Same H1 H8 := ((s2.trans s3).trans (s4.trans s5)).trans ((s6.trans s7).trans s8)
  have LA : LL H8 o1 [[1, n, i], [0, m - 1, -1], [0, t, -1]] := (show LL H5 o1 [[1, n, i], [0, m - 1, -1], [0, t, -1]] from LL.three e5 (((s3.trans s4).trans s5) _ _ e2) ((s4.trans s5) _ _ e3) (s5 _ _ e4)).lk (.same ((s6.trans s7).trans s8))
  have LB : LL H8 o2 [[1, n, i], [1, n, 0], [0, m - 1, -1]] := LL.three e8 ((s7.trans s8) _ _ e6) ((s1.trans s28) _ _ e0) (s8 _ _ e7)
  refine s_dispW (kvs := [(.inl 1, .ref o1), (.inl 2, .ref o2)]) (s28 _ _ eD) rfl (by simp only [List.length_cons, List.length_nil]; omega) fun H9 b9 e9 => ?_
  have e9 : H9 D = some (.dK [(.inl 1, .ref o1), (.inl 2, .ref o2)]) := e9
  have k9 : LK H8 H9 := .dict b9 (s28 _ _ eD)
  have s08 : Same H H8 := s0.trans (s1.trans s28)
  have nD0 : H D = none := none_of s0 nD
  have SM : Same H H9 := b9.same s08 nD0
  have LA := LA.lk k9
  have LB := LB.lk k9
  have K0 : LK H0 H9 := (LK.same (s1.trans s28)).trans k9
  have TT : TK K H H9 := (TK.same s08).trans (.dict b9 (s28 _ _ eD))
  have hx9 : SqT K H9 ad (.int st :: .int i :: xr.map V.int) := TT _ _ hx
  kc_close
  intro c3_1 H3_1 n3_1 s3_1 e3_1
  kc_close
  refine s_ixT (sqt_same s3_1 hx9) at_c1 ?_
  kc_close
  intro c3_2 H3_2 n3_2 s3_2 e3_2
  kc_close
  intro o3 H3_o n3_o s3_o e3_o
  have z3 : Same H9 H3_o := (s3_1.trans (s3_2.trans s3_o))
  have L3 : LL H3_o o3 [[0, 0, -1], [1, n, 0], [1, n, i]] := LL.three e3_o ((s3_2.trans s3_o) _ _ e3_1) (z3 _ _ (K0 _ _ e0)) (s3_o _ _ e3_2)
  kc_close
  have e3' := z3 _ _ e9
  refine s_setD e3' (by simp only [List.length_cons, List.length_nil]; omega) rfl fun H3z b3z e3z => ?_
  have k3z : LK H3_o H3z := .dict b3z e3'
  have y3 := (LK.same z3).trans k3z
  have LA := LA.lk y3
  have LB := LB.lk y3
  have L3 := L3.lk k3z
  have SM := b3z.same (SM.trans z3) nD0
  have K0 := K0.trans y3
  have TT := TT.trans ((TK.same z3).trans (.dict b3z e3'))
  have hx3z : SqT K H3z ad (.int st :: .int i :: xr.map V.int) := TT _ _ hx
  have e3z : H3z D = some (.dK [(.inl 1, .ref o1), (.inl 2, .ref o2), (.inl 3, .ref o3)]) := e3z
  kc_close
  intro c4_1 H4_1 n4_1 s4_1 e4_1
  kc_close
  intro c4_2 H4_2 n4_2 s4_2 e4_2
  kc_close
  intro c4_3 H4_3 n4_3 s4_3 e4_3
  kc_close
  intro o4 H4_o n4_o s4_o e4_o
  have z4 : Same H3z H4_o := (s4_1.trans (s4_2.trans (s4_3.trans s4_o)))
  have L4 : LL H4_o o4 [[0, 0, -1], [1, n, 0], [1, n, 0], [0, m - 1, -1]] := LL.four e4_o ((s4_2.trans (s4_3.trans s4_o)) _ _ e4_1) (z4 _ _ (K0 _ _ e0)) ((s4_3.trans s4_o) _ _ e4_2) (s4_o _ _ e4_3)
  kc_close
  have e4' := z4 _ _ e3z
  refine s_setD e4' (by simp only [List.length_cons, List.length_nil]; omega) rfl fun H4z b4z e4z => ?_
  have k4z : LK H4_o H4z := .dict b4z e4'
  have y4 := (LK.same z4).trans k4z
  have LA := LA.lk y4
  have LB := LB.lk y4
  have L3 := L3.lk y4
  have L4 := L4.lk k4z
  have SM := b4z.same (SM.trans z4) nD0
  have K0 := K0.trans y4
  have TT := TT.trans ((TK.same z4).trans (.dict b4z e4'))
  have hx4z : SqT K H4z ad (.int st :: .int i :: xr.map V.int) := TT _ _ hx
  have e4z : H4z D = some (.dK [(.inl 1, .ref o1), (.inl 2, .ref o2), (.inl 3, .ref o3), (.inl 4, .ref o4)]) := e4z
  kc_close
  intro c5_1 H5_1 n5_1 s5_1 e5_1
  kc_close
  intro o5 H5_o n5_o s5_o e5_o
  have z5 : Same H4z H5_o := (s5_1.trans s5_o)
  have L5 : LL H5_o o5 [[0, 0, -1], [1, n, 0]] := LL.two e5_o (s5_o _ _ e5_1) (z5 _ _ (K0 _ _ e0))
  kc_close
  have e5' := z5 _ _ e4z
  refine s_setD e5' (by simp only [List.length_cons, List.length_nil]; omega) rfl fun H5z b5z e5z => ?_
  have k5z : LK H5_o H5z := .dict b5z e5'
  have y5 := (LK.same z5).trans k5z
  have LA := LA.lk y5
  have LB := LB.lk y5
  have L3 := L3.lk y5
  have L4 := L4.lk y5
  have L5 := L5.lk k5z
  have SM := b5z.same (SM.trans z5) nD0
  have K0 := K0.trans y5
  have TT := TT.trans ((TK.same z5).trans (.dict b5z e5'))
  have hx5z : SqT K H5z ad (.int st :: .int i :: xr.map V.int) := TT _ _ hx
  have e5z : H5z D = some (.dK [(.inl 1, .ref o1), (.inl 2, .ref o2), (.inl 3, .ref o3), (.inl 4, .ref o4), (.inl 5, .ref o5)]) := e5z
  kc_close
  intro c6_1 H6_1 n6_1 s6_1 e6_1
  kc_close
  intro c6_2 H6_2 n6_2 s6_2 e6_2
  kc_close
  intro c6_3 H6_3 n6_3 s6_3 e6_3
  kc_close
  intro o6 H6_o n6_o s6_o e6_o
  have z6 : Same H5z H6_o := (s6_1.trans (s6_2.trans (s6_3.trans s6_o)))
  have L6 : LL H6_o o6 [[0, 0, -1], [1, n, 0], [0, m - 1, -1], [0, t, -1]] := LL.four e6_o ((s6_2.trans (s6_3.trans s6_o)) _ _ e6_1) (z6 _ _ (K0 _ _ e0)) ((s6_3.trans s6_o) _ _ e6_2) (s6_o _ _ e6_3)
  kc_close
  have e6' := z6 _ _ e5z
  refine s_setD e6' (by simp only [List.length_cons, List.length_nil]; omega) rfl fun H6z b6z e6z => ?_
  have k6z : LK H6_o H6z := .dict b6z e6'
  have y6 := (LK.same z6).trans k6z
  have LA := LA.lk y6
  have LB := LB.lk y6
  have L3 := L3.lk y6
  have L4 := L4.lk y6
  have L5 := L5.lk y6
  have L6 := L6.lk k6z
  have SM := b6z.same (SM.trans z6) nD0
  have K0 := K0.trans y6
  have TT := TT.trans ((TK.same z6).trans (.dict b6z e6'))
  have hx6z : SqT K H6z ad (.int st :: .int i :: xr.map V.int) := TT _ _ hx
  have e6z : H6z D = some (.dK [(.inl 1, .ref o1), (.inl 2, .ref o2), (.inl 3, .ref o3), (.inl 4, .ref o4), (.inl 5, .ref o5), (.inl 6, .ref o6)]) := e6z
  kc_close
  refine s_dget ?_
  kc_close
  refine s_dgetI e6z rfl ?_
  kc_close
  refine s_setD e6z (by simp only [List.length_cons, List.length_nil]; omega) rfl fun H7z b7z e7z => ?_
  have SM := b7z.same SM nD0
  have k7z : LK H6z H7z := .dict b7z e6z
  have LA := LA.lk k7z
  have LB := LB.lk k7z
  have L3 := L3.lk k7z
  have L4 := L4.lk k7z
  have L5 := L5.lk k7z
  have L6 := L6.lk k7z
  have K0 := K0.trans k7z
  have TT := TT.trans (.dict b7z e6z)
  have hx7z : SqT K H7z ad (.int st :: .int i :: xr.map V.int) := TT _ _ hx
  have e7z : H7z D = some (.dK [(.inl 1, .ref o1), (.inl 2, .ref o2), (.inl 3, .ref o3), (.inl 4, .ref o4), (.inl 5, .ref o5), (.inl 6, .ref o6), (.inl 7, .ref o5)]) := e7z
  kc_close
  intro c8_1 H8_1 n8_1 s8_1 e8_1
  kc_close
  intro c8_2 H8_2 n8_2 s8_2 e8_2
  kc_close
  intro o8 H8_o n8_o s8_o e8_o
  have z8 : Same H7z H8_o := (s8_1.trans (s8_2.trans s8_o))
  have L8 : LL H8_o o8 [[0, 0, -1], [0, m - 1, -1]] := LL.two e8_o ((s8_2.trans s8_o) _ _ e8_1) (s8_o _ _ e8_2)
  kc_close
  have e8' := z8 _ _ e7z
  refine s_setD e8' (by simp only [List.length_cons, List.length_nil]; omega) rfl fun H8z b8z e8z => ?_
  have k8z : LK H8_o H8z := .dict b8z e8'
  have y8 := (LK.same z8).trans k8z
  have LA := LA.lk y8
  have LB := LB.lk y8
  have L3 := L3.lk y8
  have L4 := L4.lk y8
  have L5 := L5.lk y8
  have L6 := L6.lk y8
  have L8 := L8.lk k8z
  have SM := b8z.same (SM.trans z8) nD0
  have K0 := K0.trans y8
  have TT := TT.trans ((TK.same z8).trans (.dict b8z e8'))
  have hx8z : SqT K H8z ad (.int st :: .int i :: xr.map V.int) := TT _ _ hx
  have e8z : H8z D = some (.dK [(.inl 1, .ref o1), (.inl 2, .ref o2), (.inl 3, .ref o3), (.inl 4, .ref o4), (.inl 5, .ref o5), (.inl 6, .ref o6), (.inl 7, .ref o5), (.inl 8, .ref o8)]) := e8z
  kc_close
  refine s_dget ?_
  kc_close
  have SS : ∀ rows a, LL H8z a rows → Bnds n t m st i rows → Q (.ref a) H8z := fun rows a hl hb => q H8z a rows SM hl hb
  cases ha
  · exact s_dgetI e8z rfl (SS _ _ LA .b1)
  · exact s_dgetI e8z rfl (SS _ _ LB .b2)
  · exact s_dgetI e8z rfl (SS _ _ L3 .b3)
  · exact s_dgetI e8z rfl (SS _ _ L4 .b4)
  · exact s_dgetI e8z rfl (SS _ _ L5 .b5)
  · exact s_dgetI e8z rfl (SS _ _ L6 .b6)
  · exact s_dgetI e8z rfl (SS _ _ L5 .b7)
  · exact s_dgetI e8z rfl (SS _ _ L8 .b8)
end
end K1
end
section
open PySem PySem.Spec PyProof.Rows L2 Z
local macro_rules | `(tactic| ktr_room) => `(tactic| first
  | assumption
  | (apply SqT.of; assumption)
  | (apply SqL.of; assumption)
  | (apply sqt_same; assumption; ktr_room)
  | (apply sql_same; assumption; ktr_room)
  | (apply sqt_but; assumption; assumption; ktr_room)
  | (apply sql_but; assumption; assumption; ktr_room)
  | (apply Same.of_; assumption; ktr_room)
  | (apply But.of_; assumption; assumption; ktr_room)
  | exact same_refl
  | exact but_refl
  | (apply same_tr; assumption; ktr_room)
  | (apply same_but; assumption; ktr_room; assumption)
  | (apply but_tr; assumption; ktr_room)
  | (apply but_trB; assumption; ktr_room))
local macro_rules | `(tactic| ktr_units) => `(tactic| first | with_reducible assumption | omega | rfl | exact ⟨by omega, by omega⟩ | exact .inl ⟨by omega, by omega⟩ | exact .inr ⟨by omega, by omega⟩ | exact ⟨by decide, by decide, by decide⟩ | exact Nat.le_of_ble_eq_true rfl | decide)
local macro_rules | `(tactic| kc_close) => `(tactic| repeat (with_reducible first
  | refine s_var (by with_unfolding_all rfl) ?_
  | refine s_c ?_
  | refine s_op ?_
  | refine s_rI0 ?_
  | refine s_asg ?_
  | refine s_gname ?_
  | refine s_seq ?_
  | refine s_cons ?_
  | refine s_nil ?_
  | refine s_call ?_
  | refine s_ret ?_
  | o_fieldsN
  | refine s_test ?_
  | refine s_bl ?_
  | refine s_rI (by with_unfolding_all (ktr_units)) ?_
  | refine s_rEq rfl ?_
  | refine s_rNe rfl ?_
  | refine s_cb ?_
  | refine s_int1 ?_
  | refine s_intB ?_
  | refine s_max2 ?_
  | refine s_min2 ?_
  | refine s_tup ?_
  | refine s_lst ?_
  | refine s_newT (by with_unfolding_all first | decide | exact Nat.le_of_ble_eq_true rfl) ?_
  | refine s_newL (by with_unfolding_all first | decide | exact Nat.le_of_ble_eq_true rfl) ?_
  | refine s_ixT (by ktr_room) (by with_unfolding_all rfl) ?_
  | refine s_ixL (by ktr_room) (by with_unfolding_all rfl) ?_
  | refine s_lenT (by ktr_room) ?_
  | refine s_lenL (by ktr_room) ?_
  | refine s_un ?_
  | refine s_rU ?_
  | refine s_and ?_
  | refine s_or ?_
  | refine s_not ?_
  | refine s_tB ?_
  | refine s_tru ?_
  | refine s_drop ?_
  | refine s_next ?_
  | refine s_for ?_
  | refine s_rng1 ?_
  | refine s_rng2 ?_
  | refine s_rng3 ?_
  | refine s_ilist ?_
  | refine s_itup ?_
  | refine s_iany ?_
  | refine s_ienum ?_
  | refine s_irev ?_
  | refine s_gcons ?_
  | refine s_gnil ?_
  | refine s_gtup (by ktr_room) (by with_unfolding_all rfl) ?_
  | refine s_gsub ?_
  | refine s_augS ?_
  | refine s_aug (by with_unfolding_all rfl) ?_
  | refine s_ipI ?_
  | refine s_bm ?_
  | refine s_bm0 ?_
  | refine s_tyL (by ktr_room) ?_
  | refine s_tyL0 (by ktr_room) ?_
  | refine s_sl ?_
  | refine s_part ?_
  | refine s_partv ?_
  | refine s_noPart ?_
  | refine s_lc ?_
  | refine s_yes ?_
  | refine s_wipe (by with_unfolding_all rfl) ?_
  | refine iteT ?_
  | refine s_retN ?_
  | refine s_isN ?_
  | refine s_truB ?_
  | refine s_isB2 ?_
  | refine s_notB2 ?_
  | refine s_revT ?_
  | refine s_andV ?_
  | refine s_orV ?_
  | refine s_ifE ?_
  | refine s_notK ?_
  | refine s_notN ?_
  | refine s_truL (by ktr_room) ?_
  | refine s_truT (by ktr_room) ?_))
open K1
local macro_rules | `(tactic| ktr_room) => `(tactic| first
  | (apply DR.same; assumption; ktr_room)
  | (apply sqt_butD; assumption; ktr_room; ktr_room))
namespace K1
theorem addr_kinds {n t m st i : Int} {xs : List Int} (h : M.AddrAt n t m st i xs) :
    ¬ isAddr n t m (.tuple (xs.map .int ++ [.int 0])) ∧ ¬ isAddr n t m (.tuple (xs.dropLast.map .int)) ∧ (∀ z : Int, (z = st + 8 ∨ z = 0) → ¬ isAddr n t m (.tuple (.int z :: xs.tail.map .int))) := by
  cases h <;> refine ⟨fun hv => ?_, fun hv => ?_, fun z hz hv => ?_⟩
  all_goals
    obtain ⟨s', i', e1, e2, _, hv⟩ := addr_inv hv
    injection e1 with e1
    injection e2 with e2
    subst e1 e2
    rcases hv with ⟨z, hv⟩ | ⟨z, hv⟩ | ⟨z, hv⟩ | ⟨z, hv⟩ | ⟨z, hv⟩ | ⟨z, hv⟩ | ⟨z, hv⟩ | ⟨z, hv⟩ <;> first | (exfalso; omega) | (simp at hv; done) | skip
theorem bnd_4 {n t m i : Int} {xs : List Int} (h : M.AddrAt n t m 4 i xs) : ∃ y, (xs.map V.int)[3]? = some (.int y) ∧ ¬ isAddr n t m (With xs 2 (.int y)) := by
  cases h
  refine ⟨_, rfl, fun hv => ?_⟩
  obtain ⟨s', i', e1, e2, _, hv⟩ := addr_inv hv
  injection e1 with e1
  injection e2 with e2
  subst e1 e2
  rcases hv with ⟨z, hv⟩ | ⟨z, hv⟩ | ⟨z, hv⟩ | ⟨z, hv⟩ | ⟨z, hv⟩ | ⟨z, hv⟩ | ⟨z, hv⟩ | ⟨z, hv⟩ <;> first | (exfalso; omega) | skip
  simp at hv
  obtain ⟨a, b, c, hv⟩ := hv
  omega
theorem cut_from (xs : List V) (m : Nat) : cutV xs (some (m : Int)) none = xs.drop m := by
  unfold cutV
  rw [show HT.sIx xs.length 0 (some (m : Int)) = min m xs.length from HT.sIx_nat _ _ _, HT.sIx_none]
  by_cases h : m ≤ xs.length
  · rw [Nat.min_eq_left h, List.take_of_length_le (by rw [List.length_drop]; omega)]
  · rw [Nat.min_eq_right (by omega), List.drop_of_length_le (Nat.le_refl _), List.take_nil, List.drop_of_length_le (by omega)]
theorem cut_last {n t m st i : Int} {xs : List Int} (h : M.AddrAt n t m st i xs) : cutV (xs.map V.int) none (some (-1)) = xs.dropLast.map V.int := by
  cases h <;> rfl
theorem lst_ne {H : Hp} {c L : Addr} (d : DR H c L) {a : Addr} {xs : List V} (e : H a = some (.lst xs)) (h : xs.length ≠ 4 ∨ (∃ l : List Int, xs = l.map V.int) ∨ ∃ l : List Addr, xs = l.map V.ref) : a ≠ c := by
  obtain ⟨ns, i, r, n, ec, _⟩ := d
  intro z
  subst z
  rw [e] at ec
  injection ec with ec
  injection ec with ec
  subst ec
  rcases h with h | ⟨l, h⟩ | ⟨l, h⟩
  · exact h rfl
  · cases l with
    | nil => cases h
    | cons x l => injection h with h _; cases h
  · cases l with
    | nil => cases h
    | cons x l =>
      injection h with _ h
      cases l with
      | nil => cases h
      | cons x l => injection h with h _; cases h
theorem LL.butD {H H' : Hp} {c L a : Addr} {b : List (List Int)} (h : LL H a b) (d : DR H c L) (e : But c H H') : LL H' a b := by
  obtain ⟨as, ea, p⟩ := h
  exact ⟨as, e _ _ (lst_ne d ea (.inr (.inr ⟨_, rfl⟩))) ea, L2.Paired.mapP p fun x l h => e _ _ (lst_ne d h (.inr (.inl ⟨_, rfl⟩))) h⟩
theorem ll_at : ∀ {H : Hp} {as : List Addr} {b : List (List Int)} (_ : Paired (fun x l => H x = some (.lst (l.map V.int))) as b) {k : Nat} {l : List Int} (_ : b[k]? = some l), ∃ x, as[k]? = some x ∧ H x = some (.lst (l.map V.int))
  | _, _, _, .nil, k, l, e => by simp at e
  | _, _, _, .cons h t, 0, l, e => by
    simp at e
    subst e
    exact ⟨_, rfl, h⟩
  | _, _, _, .cons h t, k + 1, l, e => by
    obtain ⟨x, h1, h2⟩ := ll_at t (k := k) (by simpa using e)
    exact ⟨x, by simpa using h1, h2⟩
theorem at5v {lo hi : Int} {z : Str} {e : Addr} {d : Int} (h0 : 0 ≤ d) (h1 : d < 5) : ∃ v, (v = .int (lo - 1) ∨ v = .int (hi + 1) ∨ v = .non ∨ v = .str z ∨ v = .ref e) ∧ atI [V.int (lo - 1), .int (hi + 1), .non, .str z, .ref e] d = some v := by
  rcases (show d = 0 ∨ d = 1 ∨ d = 2 ∨ d = 3 ∨ d = 4 by omega) with rfl | rfl | rfl | rfl | rfl
  · exact ⟨_, .inl rfl, rfl⟩
  · exact ⟨_, .inr (.inl rfl), rfl⟩
  · exact ⟨_, .inr (.inr (.inl rfl)), rfl⟩
  · exact ⟨_, .inr (.inr (.inr (.inl rfl))), rfl⟩
  · exact ⟨_, .inr (.inr (.inr (.inr rfl))), rfl⟩
theorem ims_ints {K : PySem.W.Frag} {H : Hp} : ∀ xs : List Int, Ims K H (xs.map .int) (xs.map V.int)
  | [] => rfl
  | x :: xs => ⟨.int x, xs.map V.int, rfl, rfl, ims_ints xs⟩
theorem im_ints {K : PySem.W.Frag} {H : Hp} {a : Addr} {xs : List Int} (h : IsT K H a xs) : Im K H (.tuple (xs.map .int)) (.ref a) := ⟨a, _, rfl, h, ims_ints xs⟩
theorem szs_ints (xs : List Int) : szs (xs.map .int) = xs.length ∧ hts (xs.map .int) ≤ 1 ∧ pls (xs.map .int) = true := by
  induction xs with
  | nil => exact ⟨rfl, Nat.zero_le _, rfl⟩
  | cons a r ih =>
    refine ⟨?_, ?_, ih.2.2⟩
    · show 1 + szs (r.map .int) = r.length + 1
      omega
    · show max 1 (hts (r.map .int)) ≤ 1
      omega
theorem bd_ints (xs : List Int) : Bd 2 (1 + xs.length) (.tuple (xs.map .int)) := by
  have h := szs_ints xs
  refine ⟨?_, ?_, h.2.2⟩
  · show 1 + hts (xs.map .int) ≤ 2
    omega
  · show 1 + szs (xs.map .int) ≤ 1 + xs.length
    omega
theorem addr_len {n t m st sd : Int} {xs : List Int} (h : M.AddrAt n t m st sd xs) : xs.length ≤ 6 ∧ 4 ≤ xs.length := by
  cases h <;> simp
theorem bd_all : ∀ {ds : List PyData}, (∀ d ∈ ds, Bd 1 1 d) → hts ds ≤ 1 ∧ szs ds ≤ ds.length ∧ pls ds = true
  | [], _ => ⟨Nat.zero_le _, Nat.le_refl _, rfl⟩
  | d :: ds, h => by
    obtain ⟨i1, i2, i3⟩ := bd_all (ds := ds) fun x m => h x (List.mem_cons_of_mem _ m)
    have b := h d (List.mem_cons_self ..)
    have b1 := b.ht
    have b2 := b.sz
    refine ⟨?_, ?_, ?_⟩
    · show max (ht d) (hts ds) ≤ 1
      omega
    · show sz d + szs ds ≤ ds.length + 1
      omega
    · show (pl d && pls ds) = true
      rw [b.pl, i3]
      rfl
theorem bd_flat {ds : List PyData} (h : ∀ d ∈ ds, Bd 1 1 d) (l : ds.length ≤ 8) : Bd 2 9 (.tuple ds) := by
  obtain ⟨i1, i2, i3⟩ := bd_all h
  refine ⟨?_, ?_, i3⟩
  · show 1 + hts ds ≤ 2
    omega
  · show 1 + szs ds ≤ 9
    omega
theorem bd_int1 {xs : List Int} : ∀ d ∈ xs.map PyData.int, Bd 1 1 d := fun d h => by
  obtain ⟨i, _, rfl⟩ := List.mem_map.mp h
  exact ⟨Nat.le_refl _, Nat.le_refl _, rfl⟩
theorem pg_unlK {X : Cx} {es : List Expr} {k : Nat} {t : TGs} {pos : Pos} (K : PySem.W.Frag) (n : Nat) (hc : X.calm = true) (h : PGs X es t) (hn : (assignEach es X.env).length = n := by rfl) (hst : (assignEach es X.env).findIdx? (·.1) = none := by rfl) (e : X.K = K := by rfl) : PG X (.Tuple es k pos) (gUnl K n t) := by subst e; exact pg_unl hc h hn hst
theorem s_gunl {K : PySem.W.Frag} {H : Hp} {σ : L2.St} {a : Addr} {xs : List V} {k : Nat} {t : TGs} {F : L2.St → Hp → Prop} (hx : SqL K H a xs) (hl : xs.length = k) (h : t xs σ H F) : gUnl K k t (.ref a) σ H F := ⟨a, xs, rfl, hx, hl, h⟩
section
variable {P : Program} {w : World} {K : PySem.W.Frag} {mg : Str → Option Value} {base : Heap}
def spBeyond (K : PySem.W.Frag) : Sp := fun vs H Q _ => ∃ (c su ad : Addr), vs = [.ref c, .ref su, .ref ad] ∧ ∃ L p n t m st i xs, DR H c L ∧ SU K H su p n t m ∧ M.SetOk p n t m ∧ IsT K H ad xs ∧ M.AddrAt n t m st i xs ∧
  ∀ H' v d, But c H H' → DR H' c L → Im K H' d v → Bd 2 9 d → ¬ isAddr n t m d → Q v H'
abbrev stB (c su ad rows k least most other value kind : Option V := none) : L2.St := [c, su, ad, rows, k, least, most, other, value, kind]
theorem ok__law_beyond (T : NoB mg) (h : Has K mg "_law_beyond" (topS 28) ["d", "setup", "address"]) (G__law_bounds : Good P w K mg base 1 "_law_bounds" ["setup", "address"] (spBounds K)) (G__law_take : Good P w K mg base 2 "_law_take" ["d", "many"] (spTake)) : Good P w K mg base 3 "_law_beyond" ["d", "setup", "address"] (spBeyond K) := by
  have sc : FnScope ["d", "setup", "address", "rows", "k", "least", "most", "other", "value", "kind"] ["d", "setup", "address"] (defScope (topS 28)) := ⟨rfl, rfl, rfl, by decide +kernel, rfl, by decide +kernel, by decide +kernel⟩
  have nd := sc.nd
  refine h.good sc (fun vs H Q E h => by obtain ⟨c, su, ad, rfl, _⟩ := h; rfl) (fun f cdv A outer s H vs Q E hr h => ?_)
  obtain ⟨c, su, ad, rfl, hyp⟩ := h
  refine ⟨_, (pss_cons (ps_set (i := 3) nd rfl (by first | exact .inl rfl | exact .inr rfl) (pe_callG G__law_bounds (hr.mono (by first | decide | omega)) (by rfl) (pa_cons (pv 1) (pa_cons (pv 2) pa_nil))))
  (pss_cons (ps_set (i := 4) nd rfl (by first | exact .inl rfl | exact .inr rfl) (pe_callG G__law_take (hr.mono (by first | decide | omega)) (by rfl) (pa_cons (pv 0) (pa_cons (pe_callB (c_lenK K) (by rfl) T.n_len (by decide +kernel) (pa_cons (pv 3) pa_nil)) pa_nil))))
  (pss_cons (ps_asg (pe_ix (ix_listK K) (pv 3) (pv 4) (fun _ _ => rfl)) (pg_unlK K 3 (by rfl) (pgs_cons (pg_name (i := 5) nd rfl (by first | exact .inl rfl | exact .inr rfl)) (pgs_cons (pg_name (i := 6) nd rfl (by first | exact .inl rfl | exact .inr rfl)) (pgs_cons (pg_name (i := 7) nd rfl (by first | exact .inl rfl | exact .inr rfl)) pgs_nil)))))
  (pss_cons (ps_set (i := 8) nd rfl (by first | exact .inl rfl | exact .inr rfl) (pe_ix (ix_listK K) (pe_lst (pa_cons (pe_op op_sub (pv 5) pe_int) (pa_cons (pe_op op_add (pv 6) pe_int) (pa_cons pe_non (pa_cons (pe_callTy call_str_int (by rfl) T.n_str (by decide +kernel) (pa_cons (pv 5) pa_nil)) (pa_cons (pe_tup pa_nil) pa_nil)))))) (pe_callG G__law_take (hr.mono (by first | decide | omega)) (by rfl) (pa_cons (pv 0) (pa_cons pe_int pa_nil))) (fun _ _ => rfl)))
  (pss_cons (ps_if (PW.pt (pw_and (pt_cmpR op_gt (pv 7) pe_int (nomark _)) (pw_and1 (pt_cmpR op_eq (pe_callG G__law_take (hr.mono (by first | decide | omega)) (by rfl) (pa_cons (pv 0) (pa_cons pe_int pa_nil))) pe_int (nomark _)))))
  (pss_one (ps_set (i := 8) nd rfl (by first | exact .inl rfl | exact .inr rfl) (pv 7))) pss_nil)
  (pss_cons (ps_if (PW.pt (pw_and (pt_cmpR op_eq (pe_ix (ix_tupK K) (pv 2) pe_int (fun _ _ => rfl)) pe_int (nomark _)) (pw_and (pt_cmpR op_eq (pv 4) pe_int (nomark _)) (pw_and1 (pt_cmpR op_eq (pe_callG G__law_take (hr.mono (by first | decide | omega)) (by rfl) (pa_cons (pv 0) (pa_cons pe_int pa_nil))) pe_int (nomark _))))))
  (pss_one (ps_set (i := 8) nd rfl (by first | exact .inl rfl | exact .inr rfl) (pe_ix (ix_tupK K) (pv 2) pe_int (fun _ _ => rfl)))) pss_nil)
  (pss_cons (ps_set (i := 9) nd rfl (by first | exact .inl rfl | exact .inr rfl) (pe_callG G__law_take (hr.mono (by first | decide | omega)) (by rfl) (pa_cons (pv 0) (pa_cons pe_int pa_nil))))
  (pss_cons (ps_if (pt_cmpR op_eq (pv 9) pe_int (nomark _))
  (pss_one (ps_ret (pe_ix (ix_listK K) (pe_lst (pa_cons (pe_op (op_catK K) (pv 2) (pe_tup (pa_cons pe_int pa_nil))) (pa_cons (pe_slice (sl_tupK K) (pv 2) po_none (po_some (pe_un un_neg pe_int))) (pa_cons (pe_op (op_catK K) (pe_tup (pa_cons (pe_op op_add (pe_ix (ix_tupK K) (pv 2) pe_int (fun _ _ => rfl)) pe_int) pa_nil)) (pe_slice (sl_tupK K) (pv 2) (po_some pe_int) po_none)) (pa_cons (pe_op (op_catK K) (pe_tup (pa_cons pe_int pa_nil)) (pe_slice (sl_tupK K) (pv 2) (po_some pe_int) po_none)) pa_nil))))) (pe_callG G__law_take (hr.mono (by first | decide | omega)) (by rfl) (pa_cons (pv 0) (pa_cons pe_int pa_nil))) (fun _ _ => rfl)))) pss_nil)
  (pss_one (ps_ret (pe_op (op_catK K) (pe_op (op_catK K) (pe_slice (sl_tupK K) (pv 2) po_none (po_some (pe_op op_add pe_int (pv 4)))) (pe_tup (pa_cons (pv 8) pa_nil))) (pe_slice (sl_tupK K) (pv 2) (po_some (pe_op op_add pe_int (pv 4))) po_none)))))))))))), ?_⟩
  try dsimp only [cxOf, Cx.wish]
  obtain ⟨L, p, n, t, m, st, i, xs, d0, hs, ok, hx, ha, q⟩ := hyp
  have hal := addr_len ha
  have line : (1000 : Nat) < sizeLine := by decide
  kc_close
  refine ⟨su, ad, rfl, p, n, t, m, st, i, xs, hs, hx, ha, fun H1 R rows s1 hR hb => ?_⟩
  have hrl := lst_bnds hb
  have d1 := d0.same s1
  obtain ⟨as, eR, pR⟩ := id hR
  have las := Paired.length pR
  kc_close
  refine u_take d1 (by rw [List.length_map]; omega) (by rw [List.length_map]; omega) fun H2 ki b2 d2 g0 g1 => ?_
  rw [List.length_map] at g1
  obtain ⟨k, rfl⟩ : ∃ k : Nat, ki = (k : Int) := ⟨ki.toNat, by omega⟩
  have hk : k < rows.length := by omega
  obtain ⟨lo, hi, ot, erow, hlo, good⟩ := bnd_ok ha hb hk
  have eR2 := b2 _ _ (lst_ne d1 eR (.inr (.inr ⟨_, rfl⟩))) eR
  have hR2 := hR.butD d1 b2
  obtain ⟨as', eR', pR'⟩ := hR2
  obtain ⟨x, hxk, ex⟩ := ll_at pR' erow
  kc_close
  refine s_ixL (SqL.of eR') (at_ref hxk rfl) ?_
  kc_close
  refine s_gunl (xs := [.int lo, .int hi, .int ot]) (SqL.of ex) rfl ?_
  kc_close
  refine ⟨lo, rfl, by rcases hlo with rfl | rfl <;> decide, ?_⟩
  kc_close
  intro e0 H3 n3 s3 e3
  kc_close
  intro l4 H4 n4 s4 e4
  have d4 := (d2.same s3).same s4
  kc_close
  refine u_take d4 (by omega) (by omega) fun H5 z5 b5 d5 g5 g6 => ?_
  have e4' := b5 _ _ (lst_ne d4 e4 (.inl (by simp only [List.length_cons, List.length_nil]; decide))) e4
  obtain ⟨v, hv, ev⟩ := at5v (lo := lo) (hi := hi) (z := toString lo) (e := e0) g5 g6
  kc_close
  refine s_ixL (SqL.of e4') ev ?_
  have b25 : But c H2 H5 := (But.of (s3.trans s4)).trans b5
  have hV : ∃ dv, Im K H5 dv v ∧ Bd 1 1 dv ∧ ¬ isAddr n t m (With xs k dv) := by
    rcases hv with rfl | rfl | rfl | rfl | rfl
    · refine ⟨.int (lo - 1), rfl, ⟨Nat.le_refl _, Nat.le_refl _, rfl⟩, fun h => ?_⟩
      obtain ⟨y, hy, h1, h2, _⟩ := good _ h
      injection hy with hy
      omega
    · refine ⟨.int (hi + 1), rfl, ⟨Nat.le_refl _, Nat.le_refl _, rfl⟩, fun h => ?_⟩
      obtain ⟨y, hy, h1, h2, _⟩ := good _ h
      injection hy with hy
      omega
    · refine ⟨.none, rfl, ⟨Nat.le_refl _, Nat.le_refl _, rfl⟩, fun h => ?_⟩
      obtain ⟨y, hy, _⟩ := good _ h
      cases hy
    · refine ⟨.str (toString lo), rfl, ⟨Nat.le_refl _, Nat.le_refl _, by rcases hlo with rfl | rfl <;> decide +kernel⟩, fun h => ?_⟩
      obtain ⟨y, hy, _⟩ := good _ h
      cases hy
    · refine ⟨.tuple [], ⟨e0, [], rfl, tk_butD b5 d4 _ _ (SqT.of (s4 _ _ e3)), rfl⟩, ⟨Nat.le_refl _, Nat.le_refl _, rfl⟩, fun h => ?_⟩
      obtain ⟨y, hy, _⟩ := good _ h
      cases hy
  clear hv ev
  kc_close
  refine s_cut (fun σ' H' => ∃ v, σ' = stB (some (.ref c)) (some (.ref su)) (some (.ref ad)) (some (.ref R)) (some (.int k)) (some (.int lo)) (some (.int hi)) (some (.int ot)) (some v) ∧ But c H2 H' ∧ DR H' c L ∧ ∃ dv, Im K H' dv v ∧ Bd 1 1 dv ∧ ¬ isAddr n t m (With xs k dv)) (fun N hN => ?_) ?_
  · refine s_if ?_
    kc_close
    refine ifP (fun h => ?_) (fun h => ?_)
    · kc_close
      refine u_take d5 (by omega) (by omega) fun H6 z6 b6 d6 g7 g8 => ?_
      have hV6 : ∃ dv, Im K H6 dv v ∧ Bd 1 1 dv ∧ ¬ isAddr n t m (With xs k dv) := by
        obtain ⟨dv, h1, h2, h3⟩ := hV
        exact ⟨dv, h1.tk (tk_butD b6 d5), h2, h3⟩
      kc_close
      refine ifI (fun h6 => ?_) (fun h6 => ?_)
      · kc_close
        refine hN _ _ ⟨_, rfl, b25.trans b6, d6, .int ot, rfl, ⟨Nat.le_refl _, Nat.le_refl _, rfl⟩, fun h' => ?_⟩
        obtain ⟨y, hy, _, _, h2⟩ := good _ h'
        injection hy with hy
        exact h2 h hy.symm
      · kc_close
        exact hN _ _ ⟨_, rfl, b25.trans b6, d6, hV6⟩
    · refine iteF ?_
      kc_close
      exact hN _ _ ⟨_, rfl, b25, d5, hV⟩
  clear hV
  rintro _ H6 ⟨v, rfl, b6, d6, hV⟩
  have b06 : But c H H6 := (But.of s1).trans (b2.trans b6)
  have hx6 : IsT K H6 ad xs := tk_butD b06 d0 _ _ hx
  obtain ⟨xr, exr⟩ := addr_cons ha
  have hx6' : SqT K H6 ad (.int st :: .int i :: xr.map V.int) := by rw [exr] at hx6; exact hx6
  kc_close
  refine s_cut (fun σ' H' => ∃ v, σ' = stB (some (.ref c)) (some (.ref su)) (some (.ref ad)) (some (.ref R)) (some (.int k)) (some (.int lo)) (some (.int hi)) (some (.int ot)) (some v) ∧ But c H6 H' ∧ DR H' c L ∧ ∃ dv, Im K H' dv v ∧ Bd 1 1 dv ∧ ¬ isAddr n t m (With xs k dv)) (fun N hN => ?_) ?_
  · refine s_if ?_
    kc_close
    refine s_ixT hx6' at_c0 ?_
    kc_close
    refine ifI (fun h => ?_) (fun h => ?_)
    · kc_close
      refine ifI (fun h2 => ?_) (fun h2 => ?_)
      · kc_close
        refine u_take d6 (by omega) (by omega) fun H7 z7 b7 d7 g7 g8 => ?_
        have hV7 : ∃ dv, Im K H7 dv v ∧ Bd 1 1 dv ∧ ¬ isAddr n t m (With xs k dv) := by
          obtain ⟨dv, h1, h2, h3⟩ := hV
          exact ⟨dv, h1.tk (tk_butD b7 d6), h2, h3⟩
        kc_close
        refine ifI (fun h3 => ?_) (fun h3 => ?_)
        · have k2 : k = 2 := by omega
          subst h k2
          obtain ⟨y, ey, bad⟩ := bnd_4 ha
          kc_close
          refine s_ixT (tk_butD b7 d6 _ _ hx6) (at_of (j := 3) (by rfl) ey) ?_
          kc_close
          exact hN _ _ ⟨_, rfl, b7, d7, .int y, rfl, ⟨Nat.le_refl _, Nat.le_refl _, rfl⟩, bad⟩
        · kc_close
          exact hN _ _ ⟨_, rfl, b7, d7, hV7⟩
      · refine iteF ?_
        kc_close
        exact hN _ _ ⟨_, rfl, But.refl _ _, d6, hV⟩
    · refine iteF ?_
      kc_close
      exact hN _ _ ⟨_, rfl, But.refl _ _, d6, hV⟩
  clear hV
  rintro _ H7 ⟨v, rfl, b7, d7, dv, hV, hVb, bad⟩
  have hx7 : IsT K H7 ad xs := tk_butD b7 d6 _ _ hx6
  have hx7' : SqT K H7 ad (.int st :: .int i :: xr.map V.int) := tk_butD b7 d6 _ _ hx6'
  have b07 := b06.trans b7
  kc_close
  refine u_take d7 (by omega) (by omega) fun H8 z8 b8 d8 g7 g8 => ?_
  have hx8 : IsT K H8 ad xs := tk_butD b8 d7 _ _ hx7
  have hx8' : SqT K H8 ad (.int st :: .int i :: xr.map V.int) := tk_butD b8 d7 _ _ hx7'
  have hV8 : Im K H8 dv v := hV.tk (tk_butD b8 d7)
  have b08 := b07.trans b8
  kc_close
  refine s_if ?_
  kc_close
  refine ifI (fun h => ?_) (fun h => ?_)
  · kc_close
    intro t1 G1 m1 z1 f1
    refine s_catA (sqt_same z1 hx8) (ys := [V.int 0]) (SqT.of f1) (by rw [List.length_map]; show xs.length + 1 ≤ sizeLine; omega) fun q1 G2 z2 hq1 => ?_
    have y2 : Same H8 G2 := z1.trans z2
    kc_close
    refine s_slT (sqt_same y2 hx8) fun q2 G3 z3 hq2 => ?_
    have y3 := y2.trans z3
    kc_close
    refine s_ixT (sqt_same y3 hx8') at_c0 ?_
    kc_close
    intro t3 G4 m4 z4 f4
    have y4 := y3.trans z4
    kc_close
    refine s_slT (sqt_same y4 hx8) fun q3 G5 z5 hq3 => ?_
    rw [show (some 1 : Option Int) = some ((1 : Nat) : Int) from rfl, cut_from, ← List.map_drop] at hq3
    refine s_catA (sqt_same z5 (SqT.of f4)) hq3 (by rw [List.length_map, List.length_drop]; show 1 + _ ≤ sizeLine; omega) fun q4 G6 z6 hq4 => ?_
    have y6 := (y4.trans z5).trans z6
    kc_close
    intro t5 G7 m7 z7 f7
    have y7 := y6.trans z7
    kc_close
    refine s_slT (sqt_same y7 hx8) fun q5 G8 z8 hq5 => ?_
    rw [show (some 1 : Option Int) = some ((1 : Nat) : Int) from rfl, cut_from, ← List.map_drop] at hq5
    refine s_catA (sqt_same z8 (SqT.of f7)) hq5 (by rw [List.length_map, List.length_drop]; show 1 + _ ≤ sizeLine; omega) fun q6 G9 z9 hq6 => ?_
    have y9 := (y7.trans z8).trans z9
    kc_close
    intro l6 G10 m10 z10 f10
    have y10 := y9.trans z10
    have d10 := d8.same y10
    kc_close
    refine u_take d10 (by omega) (by omega) fun G11 z11 c11 d11 g9 g10 => ?_
    obtain ⟨B, hB, eB⟩ := at4c (a := q1) (b := q2) (c := q4) (e := q6) g9 g10
    refine s_ixL (SqL.of (c11 _ _ (d8.same y9 |>.ne m10) f10)) eB ?_
    have tk : TK K G10 G11 := tk_butD c11 d10
    have fin : ∀ (zs : List Int) (q' : Addr), SqT K G11 q' (zs.map V.int) → zs.length ≤ 8 → ¬ isAddr n t m (.tuple (zs.map .int)) → Q (.ref q') G11 := fun zs q' h1 h2 h3 =>
      q G11 _ _ (b08.trans ((But.of y10).trans c11)) d11 (im_ints h1) (bd_flat bd_int1 (by rw [List.length_map]; exact h2)) h3
    obtain ⟨bad1, bad2, bad3⟩ := addr_kinds ha
    rcases hB with rfl | rfl | rfl | rfl
    · refine fin (xs ++ [0]) _ ?_ (by rw [List.length_append]; show _ + 1 ≤ 8; omega) (by rw [List.map_append]; exact bad1)
      rw [List.map_append]
      exact tk _ _ (sqt_same (((z3.trans z4).trans (z5.trans z6)).trans ((z7.trans z8).trans (z9.trans z10))) hq1)
    · rw [cut_last ha] at hq2
      refine fin xs.dropLast _ ?_ (by rw [List.length_dropLast]; omega) bad2
      exact tk _ _ (sqt_same ((z4.trans (z5.trans z6)).trans ((z7.trans z8).trans (z9.trans z10))) hq2)
    · refine fin ((st + 8) :: xs.tail) _ ?_ (by rw [List.length_cons, List.length_tail]; omega) (bad3 _ (.inl rfl))
      rw [← List.drop_one]
      exact tk _ _ (sqt_same ((z7.trans z8).trans (z9.trans z10)) hq4)
    · refine fin (0 :: xs.tail) _ ?_ (by rw [List.length_cons, List.length_tail]; omega) (bad3 _ (.inr rfl))
      rw [← List.drop_one]
      exact tk _ _ (sqt_same z10 hq6)
  · kc_close
    refine s_slT hx8 fun q1 G1 z1 hq1 => ?_
    rw [show (2 + (k : Int)) = ((2 + k : Nat) : Int) by omega, cut_to] at hq1
    kc_close
    intro t2 G2 m2 z2 f2
    refine s_catA (sqt_same z2 hq1) (ys := [v]) (SqT.of f2) (by rw [List.length_take, List.length_map]; show _ + 1 ≤ sizeLine; omega) fun q3 G3 z3 hq3 => ?_
    have y3 := (z1.trans z2).trans z3
    kc_close
    refine s_slT (sqt_same y3 hx8) fun q4 G4 z4 hq4 => ?_
    rw [show (3 + (k : Int)) = ((3 + k : Nat) : Int) by omega, cut_from] at hq4
    refine s_catA (sqt_same z4 hq3) hq4 (by rw [List.length_append, List.length_take, List.length_drop, List.length_map]; show _ + 1 + _ ≤ sizeLine; omega) fun q5 G5 z5 hq5 => ?_
    have y5 := (y3.trans z4).trans z5
    refine q G5 _ _ (b08.trans (But.of y5)) (d8.same y5) (show Im K G5 (With xs k dv) (.ref q5) from ⟨_, _, rfl, hq5, ((((ims_ints xs).take (2 + k)).app (Ims.one (hV8.tk (TK.same y5)))).app ((ims_ints xs).drop (3 + k)))⟩) (bd_flat (fun d hd => ?_) ?_) bad
    · rcases List.mem_append.mp hd with hd | hd
      · rcases List.mem_append.mp hd with hd | hd
        · exact bd_int1 d (List.mem_of_mem_take hd)
        · rw [List.mem_singleton.mp hd]
          exact hVb
      · exact bd_int1 d (List.mem_of_mem_drop hd)
    · rw [List.length_append, List.length_append, List.length_take, List.length_drop, List.length_map]
      show _ + 1 + _ ≤ 8
      omega
end
end K1
end
section
open PySem PySem.Spec PyProof.Rows L2 Z
local macro_rules | `(tactic| ktr_room) => `(tactic| first
  | assumption
  | (apply SqT.of; assumption)
  | (apply SqL.of; assumption)
  | (apply sqt_same; assumption; ktr_room)
  | (apply sql_same; assumption; ktr_room)
  | (apply sqt_but; assumption; assumption; ktr_room)
  | (apply sql_but; assumption; assumption; ktr_room)
  | (apply Same.of_; assumption; ktr_room)
  | (apply But.of_; assumption; assumption; ktr_room)
  | exact same_refl
  | exact but_refl
  | (apply same_tr; assumption; ktr_room)
  | (apply same_but; assumption; ktr_room; assumption)
  | (apply but_tr; assumption; ktr_room)
  | (apply but_trB; assumption; ktr_room))
local macro_rules | `(tactic| ktr_units) => `(tactic| first | with_reducible assumption | omega | rfl | exact ⟨by omega, by omega⟩ | exact .inl ⟨by omega, by omega⟩ | exact .inr ⟨by omega, by omega⟩ | exact ⟨by decide, by decide, by decide⟩ | exact Nat.le_of_ble_eq_true rfl | decide)
local macro_rules | `(tactic| kc_close) => `(tactic| repeat (with_reducible first
  | refine s_var (by with_unfolding_all rfl) ?_
  | refine s_c ?_
  | refine s_op ?_
  | refine s_rI0 ?_
  | refine s_asg ?_
  | refine s_gname ?_
  | refine s_seq ?_
  | refine s_cons ?_
  | refine s_nil ?_
  | refine s_call ?_
  | refine s_ret ?_
  | o_fieldsN
  | refine s_test ?_
  | refine s_bl ?_
  | refine s_rI (by with_unfolding_all (ktr_units)) ?_
  | refine s_rEq rfl ?_
  | refine s_rNe rfl ?_
  | refine s_cb ?_
  | refine s_int1 ?_
  | refine s_intB ?_
  | refine s_max2 ?_
  | refine s_min2 ?_
  | refine s_tup ?_
  | refine s_lst ?_
  | refine s_newT (by with_unfolding_all first | decide | exact Nat.le_of_ble_eq_true rfl) ?_
  | refine s_newL (by with_unfolding_all first | decide | exact Nat.le_of_ble_eq_true rfl) ?_
  | refine s_ixT (by ktr_room) (by with_unfolding_all rfl) ?_
  | refine s_ixL (by ktr_room) (by with_unfolding_all rfl) ?_
  | refine s_lenT (by ktr_room) ?_
  | refine s_lenL (by ktr_room) ?_
  | refine s_un ?_
  | refine s_rU ?_
  | refine s_and ?_
  | refine s_or ?_
  | refine s_not ?_
  | refine s_tB ?_
  | refine s_tru ?_
  | refine s_drop ?_
  | refine s_next ?_
  | refine s_for ?_
  | refine s_rng1 ?_
  | refine s_rng2 ?_
  | refine s_rng3 ?_
  | refine s_ilist ?_
  | refine s_itup ?_
  | refine s_iany ?_
  | refine s_ienum ?_
  | refine s_irev ?_
  | refine s_gcons ?_
  | refine s_gnil ?_
  | refine s_gtup (by ktr_room) (by with_unfolding_all rfl) ?_
  | refine s_gsub ?_
  | refine s_augS ?_
  | refine s_aug (by with_unfolding_all rfl) ?_
  | refine s_ipI ?_
  | refine s_bm ?_
  | refine s_bm0 ?_
  | refine s_tyL (by ktr_room) ?_
  | refine s_tyL0 (by ktr_room) ?_
  | refine s_sl ?_
  | refine s_part ?_
  | refine s_partv ?_
  | refine s_noPart ?_
  | refine s_lc ?_
  | refine s_yes ?_
  | refine s_wipe (by with_unfolding_all rfl) ?_
  | refine iteT ?_
  | refine s_retN ?_
  | refine s_isN ?_
  | refine s_truB ?_
  | refine s_isB2 ?_
  | refine s_notB2 ?_
  | refine s_revT ?_
  | refine s_andV ?_
  | refine s_orV ?_
  | refine s_ifE ?_
  | refine s_notK ?_
  | refine s_notN ?_
  | refine s_truL (by ktr_room) ?_
  | refine s_truT (by ktr_room) ?_))
open K1
local macro_rules | `(tactic| ktr_room) => `(tactic| first
  | (apply DR.same; assumption; ktr_room)
  | (apply sqt_butD; assumption; ktr_room; ktr_room))
namespace K1
theorem chg_inv {p n t m : Int} {ds : List PyData} (h : ChgP p n t m (.tuple ds)) : (∃ y, (ds = [.str "is", .int y] ∨ ds = [.str "add", .int y]) ∧ 0 ≤ y ∧ y < p) ∨ ds = [.str "drop"] ∨ ∃ e, ds = [.str "copy", e] ∧ isAddr n t m e := by
  obtain ⟨c, e, k⟩ := h
  cases c with
  | is v => injection e with e; exact .inl ⟨v, .inl e, k⟩
  | add v => injection e with e; exact .inl ⟨v, .inr e, k⟩
  | drop => injection e with e; exact .inr (.inl e)
  | copy x =>
    injection e with e
    obtain ⟨s, i, k⟩ := k
    exact .inr (.inr ⟨_, e, s, i, x, rfl, k⟩)
theorem bad_val {p n t m : Int} {x : Str} {d : PyData} (hx : x = "is" ∨ x = "add") (h : ∀ y, d = .int y → ¬ (0 ≤ y ∧ y < p)) : ¬ ChgP p n t m (.tuple [.str x, d]) := fun hv => by
  rcases chg_inv hv with ⟨y, e, hy⟩ | e | ⟨e', e, _⟩
  · rcases e with e | e <;> (injection e with _ e; injection e with e; exact h y e hy)
  · injection e with _ e
    cases e
  · injection e with e
    injection e with e
    rcases hx with rfl | rfl
    · exact absurd e (by decide +kernel)
    · exact absurd e (by decide +kernel)
theorem bad_copy {p n t m : Int} {d : PyData} (h : ¬ isAddr n t m d) : ¬ ChgP p n t m (.tuple [.str "copy", d]) := fun hv => by
  rcases chg_inv hv with ⟨y, e, hy⟩ | e | ⟨e', e, h'⟩
  · rcases e with e | e <;> (injection e with e; injection e with e; exact absurd e (by decide +kernel))
  · injection e with _ e
    cases e
  · injection e with _ e
    injection e with e
    exact h (e ▸ h')
theorem bad_one {p n t m : Int} {x : Str} (h : x ≠ "drop") : ¬ ChgP p n t m (.tuple [.str x]) := fun hv => by
  rcases chg_inv hv with ⟨y, e, hy⟩ | e | ⟨e', e, h'⟩
  · rcases e with e | e <;> (injection e with _ e; cases e)
  · injection e with e
    injection e with e
    exact h e
  · injection e with _ e
    cases e
theorem bad_three {p n t m : Int} {ds : List PyData} (h : ds.length = 3) : ¬ ChgP p n t m (.tuple ds) := fun hv => by
  rcases chg_inv hv with ⟨y, e, hy⟩ | e | ⟨e', e, h'⟩
  · rcases e with e | e <;> (rw [e] at h; exact absurd h (by simp))
  · rw [e] at h
    exact absurd h (by simp)
  · rw [e] at h
    exact absurd h (by simp)
theorem bad_nil {p n t m : Int} : ¬ ChgP p n t m (.tuple []) := fun hv => by
  rcases chg_inv hv with ⟨y, e, hy⟩ | e | ⟨e', e, h'⟩
  · rcases e with e | e <;> cases e
  · cases e
  · cases e
theorem bad_str {p n t m : Int} {x : Str} : ¬ ChgP p n t m (.str x) := fun hv => by
  obtain ⟨c, e, k⟩ := hv
  cases c <;> cases e
theorem bad_drop0 {p n t m : Int} : ¬ ChgP p n t m (.tuple [.str "drop", .int 0]) := fun hv => by
  rcases chg_inv hv with ⟨y, e, hy⟩ | e | ⟨e', e, h'⟩
  · rcases e with e | e <;> (injection e with e; injection e with e; exact absurd e (by decide +kernel))
  · injection e with _ e
    cases e
  · injection e with e
    injection e with e
    exact absurd e (by decide +kernel)
theorem at4v {a b c e : V} {d : Int} (h0 : 0 ≤ d) (h1 : d < 4) : ∃ x : V, (x = a ∨ x = b ∨ x = c ∨ x = e) ∧ atI [a, b, c, e] d = some x := by
  rcases (show d = 0 ∨ d = 1 ∨ d = 2 ∨ d = 3 by omega) with rfl | rfl | rfl | rfl
  · exact ⟨a, .inl rfl, rfl⟩
  · exact ⟨b, .inr (.inl rfl), rfl⟩
  · exact ⟨c, .inr (.inr (.inl rfl)), rfl⟩
  · exact ⟨e, .inr (.inr (.inr rfl)), rfl⟩
theorem at6v {a b c e f g : V} {d : Int} (h0 : 0 ≤ d) (h1 : d < 6) : ∃ x : V, (x = a ∨ x = b ∨ x = c ∨ x = e ∨ x = f ∨ x = g) ∧ atI [a, b, c, e, f, g] d = some x := by
  rcases (show d = 0 ∨ d = 1 ∨ d = 2 ∨ d = 3 ∨ d = 4 ∨ d = 5 by omega) with rfl | rfl | rfl | rfl | rfl | rfl
  · exact ⟨a, .inl rfl, rfl⟩
  · exact ⟨b, .inr (.inl rfl), rfl⟩
  · exact ⟨c, .inr (.inr (.inl rfl)), rfl⟩
  · exact ⟨e, .inr (.inr (.inr (.inl rfl))), rfl⟩
  · exact ⟨f, .inr (.inr (.inr (.inr (.inl rfl)))), rfl⟩
  · exact ⟨g, .inr (.inr (.inr (.inr (.inr rfl)))), rfl⟩
/-- texts and numbers in a tuple -/
theorem bd_2 {h s1 s2 : Nat} {d e : PyData} (b : Bd h s1 d) (c : Bd h s2 e) : Bd (h + 1) (1 + s1 + s2) (.tuple [d, e]) := by
  have b1 := b.ht
  have b2 := b.sz
  have c1 := c.ht
  have c2 := c.sz
  refine ⟨?_, ?_, ?_⟩
  · show 1 + max (ht d) (max (ht e) 0) ≤ h + 1
    omega
  · show 1 + (sz d + (sz e + 0)) ≤ 1 + s1 + s2
    omega
  · show (pl d && (pl e && true)) = true
    rw [b.pl, c.pl]
    rfl
theorem bd_s1 (x : Str) (h : strS x = true) : Bd 1 1 (.str x) := ⟨Nat.le_refl _, Nat.le_refl _, h⟩
theorem bd_i1 (i : Int) : Bd 1 1 (.int i) := ⟨Nat.le_refl _, Nat.le_refl _, rfl⟩
section
variable {P : Program} {w : World} {K : PySem.W.Frag} {mg : Str → Option Value} {base : Heap}
def spBadChg (K : PySem.W.Frag) : Sp := fun vs H Q _ => ∃ (c su b : Addr), vs = [.ref c, .ref su, .ref b] ∧ ∃ L p n t m x, DR H c L ∧ SU K H su p n t m ∧ M.SetOk p n t m ∧ IsChg K H b x ∧ M.ChgOk p n t m x ∧
  ∀ H' v d, But c H H' → DR H' c L → Im K H' d v → Bd 3 12 d → ¬ ChgP p n t m d → Q v H'
theorem ok__law_bad_change (T : NoB mg) (h : Has K mg "_law_bad_change" (topS 29) ["d", "setup", "change"]) (G__law_beyond : Good P w K mg base 3 "_law_beyond" ["d", "setup", "address"] (spBeyond K)) (G__law_take : Good P w K mg base 2 "_law_take" ["d", "many"] (spTake)) : Good P w K mg base 4 "_law_bad_change" ["d", "setup", "change"] (spBadChg K) := by
  have sc : FnScope ["d", "setup", "change", "p"] ["d", "setup", "change"] (defScope (topS 29)) := ⟨rfl, rfl, rfl, by decide +kernel, rfl, by decide +kernel, by decide +kernel⟩
  have nd := sc.nd
  refine h.good sc (fun vs H Q E h => by obtain ⟨c, su, ch, rfl, _⟩ := h; rfl) (fun f cdv A outer s H vs Q E hr h => ?_)
  obtain ⟨c, su, ch, rfl, hyp⟩ := h
  refine ⟨_, (pss_cons (ps_set (i := 3) nd rfl (by first | exact .inl rfl | exact .inr rfl) (pe_ix (ix_tupK K) (pv 1) pe_int (fun _ _ => rfl)))
  (pss_cons (ps_if (pt_cmpR op_eq (pe_ix (ix_tupK K) (pv 2) pe_int (fun _ _ => rfl)) pe_str (nomark _))
  (pss_one (ps_ret (pe_ix (ix_listK K) (pe_lst (pa_cons (pe_tup (pa_cons pe_str (pa_cons (pe_callG G__law_beyond (hr.mono (by first | decide | omega)) (by rfl) (pa_cons (pv 0) (pa_cons (pv 1) (pa_cons (pe_ix (ix_tupK K) (pv 2) pe_int (fun _ _ => rfl)) pa_nil)))) pa_nil))) (pa_cons (pe_tup (pa_cons pe_str pa_nil)) (pa_cons (pe_tup (pa_cons pe_str (pa_cons pe_non pa_nil))) (pa_cons (pe_op (op_catK K) (pv 2) (pe_tup (pa_cons pe_int pa_nil))) pa_nil))))) (pe_callG G__law_take (hr.mono (by first | decide | omega)) (by rfl) (pa_cons (pv 0) (pa_cons pe_int pa_nil))) (fun _ _ => rfl)))) pss_nil)
  (pss_cons (ps_if (pt_cmpR op_eq (pe_ix (ix_tupK K) (pv 2) pe_int (fun _ _ => rfl)) pe_str (nomark _))
  (pss_one (ps_ret (pe_ix (ix_listK K) (pe_lst (pa_cons (pe_tup (pa_cons pe_str (pa_cons pe_int pa_nil))) (pa_cons (pe_tup (pa_cons pe_str pa_nil)) (pa_cons (pe_tup pa_nil) (pa_cons pe_str pa_nil))))) (pe_callG G__law_take (hr.mono (by first | decide | omega)) (by rfl) (pa_cons (pv 0) (pa_cons pe_int pa_nil))) (fun _ _ => rfl)))) pss_nil)
  (pss_one (ps_ret (pe_ix (ix_listK K) (pe_lst (pa_cons (pe_tup (pa_cons (pe_ix (ix_tupK K) (pv 2) pe_int (fun _ _ => rfl)) (pa_cons (pv 3) pa_nil))) (pa_cons (pe_tup (pa_cons (pe_ix (ix_tupK K) (pv 2) pe_int (fun _ _ => rfl)) (pa_cons (pe_un un_neg pe_int) pa_nil))) (pa_cons (pe_tup (pa_cons (pe_ix (ix_tupK K) (pv 2) pe_int (fun _ _ => rfl)) (pa_cons (pe_callTy call_str_int (by rfl) T.n_str (by decide +kernel) (pa_cons (pv 3) pa_nil)) pa_nil))) (pa_cons (pe_tup (pa_cons (pe_ix (ix_tupK K) (pv 2) pe_int (fun _ _ => rfl)) (pa_cons pe_non pa_nil))) (pa_cons (pe_tup (pa_cons (pe_ix (ix_tupK K) (pv 2) pe_int (fun _ _ => rfl)) pa_nil)) (pa_cons (pe_op (op_catK K) (pv 2) (pe_tup (pa_cons pe_int pa_nil))) pa_nil))))))) (pe_callG G__law_take (hr.mono (by first | decide | omega)) (by rfl) (pa_cons (pv 0) (pa_cons pe_int pa_nil))) (fun _ _ => rfl))))))), ?_⟩
  try dsimp only [cxOf, Cx.wish]
  obtain ⟨L, p, n, t, m, x, d0, hs, ok, hc, cok, q⟩ := hyp
  have line : (1000 : Nat) < sizeLine := by decide
  have pr := ok.pr
  have hform : (∃ (z : Str) (y : Int), (z = "is" ∨ z = "add") ∧ SqT K H ch [.str z, .int y]) ∨ SqT K H ch [.str "drop"] ∨ ∃ (xs : List Int) (a : Addr) (st i : Int), SqT K H ch [.str "copy", .ref a] ∧ IsT K H a xs ∧ M.AddrAt n t m st i xs := by
    cases x with
    | is v => exact .inl ⟨_, v, .inl rfl, hc⟩
    | add v => exact .inl ⟨_, v, .inr rfl, hc⟩
    | drop => exact .inr (.inl hc)
    | copy xs =>
      obtain ⟨a, h1, h2⟩ := hc
      obtain ⟨st, i, ha⟩ := cok
      exact .inr (.inr ⟨xs, a, st, i, h1, h2, ha⟩)
  clear hc cok
  kc_close
  rcases hform with ⟨z, y, hz, hc⟩ | hc | ⟨xs, a, st, i, hc, hx, ha⟩
  · have zc : decide (V.str z = V.str "copy") = false := by rcases hz with rfl | rfl <;> decide +kernel
    have zd : decide (V.str z = V.str "drop") = false := by rcases hz with rfl | rfl <;> decide +kernel
    have zl : strS z = true := by rcases hz with rfl | rfl <;> decide +kernel
    have znd : z ≠ "drop" := by rcases hz with rfl | rfl <;> decide +kernel
    refine s_if ?_
    kc_close
    refine ifFalse zc ?_
    kc_close
    refine s_if ?_
    kc_close
    refine ifFalse zd ?_
    kc_close
    intro r1 H1 n1 s1 e1
    kc_close
    intro r2 H2 n2 s2 e2
    kc_close
    refine ⟨p, rfl, by rcases pr with rfl | rfl | rfl | rfl | rfl <;> decide, ?_⟩
    kc_close
    intro r3 H3 n3 s3 e3
    have y3 := (s1.trans s2).trans s3
    kc_close
    intro r4 H4 n4 s4 e4
    have y4 := y3.trans s4
    kc_close
    intro r5 H5 n5 s5 e5
    have y5 := y4.trans s5
    kc_close
    intro t6 H6 n6 s6 e6
    have y6 := y5.trans s6
    refine s_catA (sqt_same y6 hc) (ys := [V.int 0]) (SqT.of e6) (by show 2 + 1 ≤ sizeLine; omega) fun r7 H7 s7 h7 => ?_
    have y7 := y6.trans s7
    kc_close
    intro l8 H8 n8 s8 e8
    have y8 := y7.trans s8
    kc_close
    refine u_take (d0.same y8) (by omega) (by omega) fun H9 x9 b9 d9 g0 g1 => ?_
    obtain ⟨B, hB, eB⟩ := at6v (a := .ref r1) (b := .ref r2) (c := .ref r3) (e := .ref r4) (f := .ref r5) (g := .ref r7) g0 g1
    refine s_ixL (SqL.of (b9 _ _ ((d0.same y7).ne n8) e8)) eB ?_
    have t8 : TK K H8 H9 := tk_butD b9 (d0.same y8)
    have bb : But c H H9 := (But.of y8).trans b9
    have bad2 : ∀ (d : PyData) (v : V) (r : Addr), Im K H9 d v → SqT K H9 r [.str z, v] → Bd 1 1 d → (∀ y, d = .int y → ¬ (0 ≤ y ∧ y < p)) → Q (.ref r) H9 := fun d v r h1 h2 h3 h4 =>
      q H9 _ _ bb d9 (show Im K H9 (.tuple [.str z, d]) (.ref r) from ⟨r, _, rfl, h2, _, _, rfl, rfl, _, _, rfl, h1, rfl⟩) ((bd_2 (bd_s1 z zl) h3).mono (by decide) (by decide)) (bad_val hz h4)
    rcases hB with rfl | rfl | rfl | rfl | rfl | rfl
    · exact bad2 (.int p) _ _ rfl (t8 _ _ (SqT.of ((s2.trans (s3.trans (s4.trans (s5.trans (s6.trans (s7.trans s8)))))) _ _ e1))) (bd_i1 _) (fun y e h => by injection e with e; omega)
    · exact bad2 (.int (-1)) _ _ rfl (t8 _ _ (SqT.of ((s3.trans (s4.trans (s5.trans (s6.trans (s7.trans s8))))) _ _ e2))) (bd_i1 _) (fun y e h => by injection e with e; omega)
    · exact bad2 (.str (toString p)) _ _ rfl (t8 _ _ (SqT.of ((s4.trans (s5.trans (s6.trans (s7.trans s8)))) _ _ e3))) (bd_s1 _ (by rcases pr with rfl | rfl | rfl | rfl | rfl <;> decide +kernel)) (fun y e h => by cases e)
    · exact bad2 .none _ _ rfl (t8 _ _ (SqT.of ((s5.trans (s6.trans (s7.trans s8))) _ _ e4))) ⟨Nat.le_refl _, Nat.le_refl _, rfl⟩ (fun y e h => by cases e)
    · refine q H9 _ (.tuple [.str z]) bb d9 ⟨_, _, rfl, t8 _ _ (SqT.of ((s6.trans (s7.trans s8)) _ _ e5)), _, _, rfl, rfl, rfl⟩ ((bd_flat (fun d hd => ?_) (by simp)).mono (by decide) (by decide)) (bad_one znd)
      rw [List.mem_singleton.mp hd]
      exact bd_s1 z zl
    · refine q H9 _ (.tuple [.str z, .int y, .int 0]) bb d9 ⟨_, _, rfl, t8 _ _ (sqt_same s8 h7), _, _, rfl, rfl, _, _, rfl, rfl, _, _, rfl, rfl, rfl⟩ ((bd_flat (fun d hd => ?_) (by simp)).mono (by decide) (by decide)) (bad_three rfl)
      rcases List.mem_cons.mp hd with hd | hd
      · rw [hd]
        exact bd_s1 z zl
      rcases List.mem_cons.mp hd with hd | hd
      · rw [hd]
        exact bd_i1 _
      · rw [List.mem_singleton.mp hd]
        exact bd_i1 _
  · refine s_if ?_
    kc_close
    refine ifFalse (by decide +kernel) ?_
    kc_close
    refine s_if ?_
    kc_close
    refine ifTrue (by decide +kernel) ?_
    kc_close
    intro r1 H1 n1 s1 e1
    kc_close
    intro r2 H2 n2 s2 e2
    kc_close
    intro r3 H3 n3 s3 e3
    kc_close
    intro l4 H4 n4 s4 e4
    have y3 := (s1.trans s2).trans s3
    have y4 := y3.trans s4
    kc_close
    refine u_take (d0.same y4) (by omega) (by omega) fun H9 x9 b9 d9 g0 g1 => ?_
    obtain ⟨B, hB, eB⟩ := at4v (a := .ref r1) (b := .ref r2) (c := .ref r3) (e := .str "drop") g0 g1
    refine s_ixL (SqL.of (b9 _ _ ((d0.same y3).ne n4) e4)) eB ?_
    have t8 : TK K H4 H9 := tk_butD b9 (d0.same y4)
    have bb : But c H H9 := (But.of y4).trans b9
    rcases hB with rfl | rfl | rfl | rfl
    · exact q H9 _ (.tuple [.str "drop", .int 0]) bb d9 ⟨_, _, rfl, t8 _ _ (SqT.of ((s2.trans (s3.trans s4)) _ _ e1)), _, _, rfl, rfl, _, _, rfl, rfl, rfl⟩ ((bd_2 (bd_s1 _ (by decide +kernel)) (bd_i1 0)).mono (by decide) (by decide)) bad_drop0
    · refine q H9 _ (.tuple [.str "drops"]) bb d9 ⟨_, _, rfl, t8 _ _ (SqT.of ((s3.trans s4) _ _ e2)), _, _, rfl, rfl, rfl⟩ ((bd_flat (fun d hd => ?_) (by decide)).mono (by decide) (by decide)) (bad_one (by decide +kernel))
      rw [List.mem_singleton.mp hd]
      exact bd_s1 _ (by decide +kernel)
    · exact q H9 _ (.tuple []) bb d9 ⟨_, _, rfl, t8 _ _ (SqT.of (s4 _ _ e3)), rfl⟩ ((bd_flat (fun d hd => by cases hd) (by decide)).mono (by decide) (by decide)) bad_nil
    · exact q H9 _ (.str "drop") bb d9 rfl ((bd_s1 _ (by decide +kernel)).mono (by decide) (by decide)) bad_str
  · refine s_if ?_
    kc_close
    refine ifTrue (by decide +kernel) ?_
    kc_close
    refine ⟨c, su, a, rfl, L, p, n, t, m, st, i, xs, d0, hs, ok, hx, ha, fun H0 v dv b0 d0' hv hb bad => ?_⟩
    have hc0 := tk_butD b0 d0 _ _ hc
    kc_close
    intro r1 H1 n1 s1 e1
    kc_close
    intro r2 H2 n2 s2 e2
    kc_close
    intro r3 H3 n3 s3 e3
    kc_close
    intro t5 H5 n5 s5 e5
    have y5 := ((s1.trans s2).trans s3).trans s5
    refine s_catA (sqt_same y5 hc0) (ys := [V.int 0]) (SqT.of e5) (by show 2 + 1 ≤ sizeLine; omega) fun r6 H6 s6 h6 => ?_
    have y6 := y5.trans s6
    kc_close
    intro l7 H7 n7 s7 e7
    have y7 := y6.trans s7
    kc_close
    refine u_take (d0'.same y7) (by omega) (by omega) fun H9 x9 b9 d9 g0 g1 => ?_
    obtain ⟨B, hB, eB⟩ := at4c (a := r1) (b := r2) (c := r3) (e := r6) g0 g1
    refine s_ixL (SqL.of (b9 _ _ ((d0'.same y6).ne n7) e7)) eB ?_
    have t8 : TK K H7 H9 := tk_butD b9 (d0'.same y7)
    have bb : But c H H9 := (b0.trans (But.of y7)).trans b9
    have ba : Bd 2 7 (.tuple (xs.map .int)) := (bd_ints xs).mono (by decide) (by have := addr_len ha; omega)
    rcases hB with rfl | rfl | rfl | rfl
    · exact q H9 _ (.tuple [.str "copy", dv]) bb d9 ⟨_, _, rfl, t8 _ _ (SqT.of ((s2.trans (s3.trans (s5.trans (s6.trans s7)))) _ _ e1)), _, _, rfl, rfl, _, _, rfl, hv.tk ((TK.same y7).trans t8), rfl⟩ ((bd_2 (h := 2) ((bd_s1 "copy" (by decide +kernel)).mono (by decide) (Nat.le_refl _)) hb).mono (by decide) (by decide)) (bad_copy bad)
    · refine q H9 _ (.tuple [.str "copy"]) bb d9 ⟨_, _, rfl, t8 _ _ (SqT.of ((s3.trans (s5.trans (s6.trans s7))) _ _ e2)), _, _, rfl, rfl, rfl⟩ ((bd_flat (fun d hd => ?_) (by decide)).mono (by decide) (by decide)) (bad_one (by decide +kernel))
      rw [List.mem_singleton.mp hd]
      exact bd_s1 _ (by decide +kernel)
    · exact q H9 _ (.tuple [.str "copy", .none]) bb d9 ⟨_, _, rfl, t8 _ _ (SqT.of ((s5.trans (s6.trans s7)) _ _ e3)), _, _, rfl, rfl, _, _, rfl, rfl, rfl⟩ ((bd_2 (bd_s1 "copy" (by decide +kernel)) (e := .none) ⟨Nat.le_refl _, Nat.le_refl _, rfl⟩).mono (by decide) (by decide)) (bad_copy fun h => by obtain ⟨_, _, _, h, _⟩ := h; cases h)
    · have hx9 : IsT K H9 a xs := t8 _ _ (sqt_same y7 (tk_butD b0 d0 _ _ hx))
      refine q H9 _ (.tuple [.str "copy", .tuple (xs.map .int), .int 0]) bb d9 ⟨_, _, rfl, t8 _ _ (sqt_same s7 h6), _, _, rfl, rfl, _, _, rfl, im_ints hx9, _, _, rfl, rfl, rfl⟩ ?_ (bad_three rfl)
      have b1 := ba.ht
      have b2 := ba.sz
      refine ⟨?_, ?_, ?_⟩
      · show 1 + max 1 (max (ht (.tuple (xs.map .int))) (max 1 0)) ≤ 3
        omega
      · show 1 + (1 + (sz (.tuple (xs.map .int)) + (1 + 0))) ≤ 12
        omega
      · show (pl (.str "copy") && (pl (.tuple (xs.map .int)) && (true && true))) = true
        rw [ba.pl]
        decide +kernel
def spAtBound (K : PySem.W.Frag) : Sp := fun vs H Q _ => ∃ (c su fo b : Addr), vs = [.ref c, .ref su, .ref fo, .ref b] ∧ ∃ L p n t m x, DR H c L ∧ SU K H su p n t m ∧ M.SetOk p n t m ∧ IsChg K H b x ∧ M.ChgOk p n t m x ∧
  ∀ H' b' x', But c H H' → DR H' c L → IsChg K H' b' x' → M.ChgOk p n t m x' → Q (.ref b') H'
theorem ok__law_at_bound (h : Has K mg "_law_at_bound" (topS 30) ["d", "setup", "foes", "change"]) (G__law_address : Good P w K mg base 4 "_law_address" ["d", "setup", "sender"] (spAddr K)) (G__law_take : Good P w K mg base 2 "_law_take" ["d", "many"] (spTake)) : Good P w K mg base 5 "_law_at_bound" ["d", "setup", "foes", "change"] (spAtBound K) := by
  have sc : FnScope ["d", "setup", "foes", "change"] ["d", "setup", "foes", "change"] (defScope (topS 30)) := ⟨rfl, rfl, rfl, by decide +kernel, rfl, by decide +kernel, by decide +kernel⟩
  have nd := sc.nd
  refine h.good sc (fun vs H Q E h => by obtain ⟨c, su, fo, ch, rfl, _⟩ := h; rfl) (fun f cdv A outer s H vs Q E hr h => ?_)
  obtain ⟨c, su, fo, ch, rfl, hyp⟩ := h
  refine ⟨_, (pss_cons (ps_if (pt_cmpR op_eq (pe_ix (ix_tupK K) (pv 3) pe_int (fun _ _ => rfl)) pe_str (nomark _))
  (pss_one (ps_ret (pe_tup (pa_cons pe_str (pa_cons (pe_callG G__law_address (hr.mono (by first | decide | omega)) (by rfl) (pa_cons (pv 0) (pa_cons (pv 1) (pa_cons (pe_op op_add pe_int (pe_callG G__law_take (hr.mono (by first | decide | omega)) (by rfl) (pa_cons (pv 0) (pa_cons (pe_ix (ix_tupK K) (pv 1) pe_int (fun _ _ => rfl)) pa_nil)))) pa_nil)))) pa_nil))))) pss_nil)
  (pss_cons (ps_if (pt_cmpR op_eq (pe_ix (ix_tupK K) (pv 3) pe_int (fun _ _ => rfl)) pe_str (nomark _))
  (pss_one (ps_ret (pv 3))) pss_nil)
  (pss_one (ps_ret (pe_tup (pa_cons (pe_ix (ix_tupK K) (pv 3) pe_int (fun _ _ => rfl)) (pa_cons (pe_ix (ix_listK K) (pe_lst (pa_cons pe_int (pa_cons (pe_op op_sub (pe_ix (ix_tupK K) (pv 1) pe_int (fun _ _ => rfl)) pe_int) pa_nil))) (pe_callG G__law_take (hr.mono (by first | decide | omega)) (by rfl) (pa_cons (pv 0) (pa_cons pe_int pa_nil))) (fun _ _ => rfl)) pa_nil))))))), ?_⟩
  try dsimp only [cxOf, Cx.wish]
  obtain ⟨L, p, n, t, m, x, d0, hs, ok, hc, cok, q⟩ := hyp
  have pr := ok.pr.lt
  have ot0 := ok.t0
  have ont := ok.nt
  have on7 := ok.n7
  have hform : (∃ (z : Str) (y : Int), (z = "is" ∨ z = "add") ∧ SqT K H ch [.str z, .int y]) ∨ SqT K H ch [.str "drop"] ∨ ∃ (xs : List Int) (a : Addr) (st i : Int), SqT K H ch [.str "copy", .ref a] ∧ IsT K H a xs ∧ M.AddrAt n t m st i xs := by
    cases x with
    | is v => exact .inl ⟨_, v, .inl rfl, hc⟩
    | add v => exact .inl ⟨_, v, .inr rfl, hc⟩
    | drop => exact .inr (.inl hc)
    | copy xs =>
      obtain ⟨a, h1, h2⟩ := hc
      obtain ⟨st, i, ha⟩ := cok
      exact .inr (.inr ⟨xs, a, st, i, h1, h2, ha⟩)
  clear hc cok
  kc_close
  rcases hform with ⟨z, y, hz, hc⟩ | hc | ⟨xs, a, st, i, hc, hx, ha⟩
  · have zc : decide (V.str z = V.str "copy") = false := by rcases hz with rfl | rfl <;> decide +kernel
    have zd : decide (V.str z = V.str "drop") = false := by rcases hz with rfl | rfl <;> decide +kernel
    refine s_if ?_
    kc_close
    refine ifFalse zc ?_
    kc_close
    refine s_if ?_
    kc_close
    refine ifFalse zd ?_
    kc_close
    intro l1 H1 n1 s1 e1
    have dl := d0.ne n1
    kc_close
    refine u_take (d0.same s1) (by omega) (by omega) fun H2 x2 b2 d2 g0 g1 => ?_
    have e2 := b2 _ _ dl e1
    obtain ⟨k, hk, ek⟩ := ints2 (x := 0) (y := p - 1) g0 g1
    refine s_ixL (SqL.of e2) ek ?_
    kc_close
    intro r H3 n3 s3 e3
    have bb : But c H H3 := ((But.of s1).trans b2).trans (But.of s3)
    have kk : 0 ≤ k ∧ k < p := by omega
    rcases hz with rfl | rfl
    · exact q H3 r (.is k) bb (d2.same s3) (SqT.of e3) kk
    · exact q H3 r (.add k) bb (d2.same s3) (SqT.of e3) kk
  · refine s_if ?_
    kc_close
    refine ifFalse (by decide +kernel) ?_
    kc_close
    refine s_if ?_
    kc_close
    refine ifTrue (by decide +kernel) ?_
    kc_close
    exact q H ch .drop (But.refl _ _) d0 hc trivial
  · refine s_if ?_
    kc_close
    refine ifTrue (by decide +kernel) ?_
    kc_close
    refine u_take d0 (by omega) (by omega) fun H1 x1 b1 d1 g0 g1 => ?_
    have hs1 : SU K H1 su p n t m := sqt_butD b1 d0 hs
    kc_close
    refine u_addr d1 hs1 ok ⟨by omega, by omega⟩ fun H2 a2 x2 st2 b2 d2 ha2 hx2 => ?_
    kc_close
    intro r H3 n3 s3 e3
    exact q H3 r (.copy x2) ((b1.trans b2).trans (But.of s3)) (d2.same s3) ⟨a2, SqT.of e3, sqt_same s3 ha2⟩ ⟨_, _, hx2⟩
end
end K1
end
section
open PySem PySem.Spec PyProof.Rows L2 Z
local macro_rules | `(tactic| ktr_room) => `(tactic| first
  | assumption
  | (apply SqT.of; assumption)
  | (apply SqL.of; assumption)
  | (apply sqt_same; assumption; ktr_room)
  | (apply sql_same; assumption; ktr_room)
  | (apply sqt_but; assumption; assumption; ktr_room)
  | (apply sql_but; assumption; assumption; ktr_room)
  | (apply Same.of_; assumption; ktr_room)
  | (apply But.of_; assumption; assumption; ktr_room)
  | exact same_refl
  | exact but_refl
  | (apply same_tr; assumption; ktr_room)
  | (apply same_but; assumption; ktr_room; assumption)
  | (apply but_tr; assumption; ktr_room)
  | (apply but_trB; assumption; ktr_room))
local macro_rules | `(tactic| ktr_units) => `(tactic| first | with_reducible assumption | omega | rfl | exact ⟨by omega, by omega⟩ | exact .inl ⟨by omega, by omega⟩ | exact .inr ⟨by omega, by omega⟩ | exact ⟨by decide, by decide, by decide⟩ | exact Nat.le_of_ble_eq_true rfl | decide)
local macro_rules | `(tactic| kc_close) => `(tactic| repeat (with_reducible first
  | refine s_var (by with_unfolding_all rfl) ?_
  | refine s_c ?_
  | refine s_op ?_
  | refine s_rI0 ?_
  | refine s_asg ?_
  | refine s_gname ?_
  | refine s_seq ?_
  | refine s_cons ?_
  | refine s_nil ?_
  | refine s_call ?_
  | refine s_ret ?_
  | o_fieldsN
  | refine s_test ?_
  | refine s_bl ?_
  | refine s_rI (by with_unfolding_all (ktr_units)) ?_
  | refine s_rEq rfl ?_
  | refine s_rNe rfl ?_
  | refine s_cb ?_
  | refine s_int1 ?_
  | refine s_intB ?_
  | refine s_max2 ?_
  | refine s_min2 ?_
  | refine s_tup ?_
  | refine s_lst ?_
  | refine s_newT (by with_unfolding_all first | decide | exact Nat.le_of_ble_eq_true rfl) ?_
  | refine s_newL (by with_unfolding_all first | decide | exact Nat.le_of_ble_eq_true rfl) ?_
  | refine s_ixT (by ktr_room) (by with_unfolding_all rfl) ?_
  | refine s_ixL (by ktr_room) (by with_unfolding_all rfl) ?_
  | refine s_lenT (by ktr_room) ?_
  | refine s_lenL (by ktr_room) ?_
  | refine s_un ?_
  | refine s_rU ?_
  | refine s_and ?_
  | refine s_or ?_
  | refine s_not ?_
  | refine s_tB ?_
  | refine s_tru ?_
  | refine s_drop ?_
  | refine s_next ?_
  | refine s_for ?_
  | refine s_rng1 ?_
  | refine s_rng2 ?_
  | refine s_rng3 ?_
  | refine s_ilist ?_
  | refine s_itup ?_
  | refine s_iany ?_
  | refine s_ienum ?_
  | refine s_irev ?_
  | refine s_gcons ?_
  | refine s_gnil ?_
  | refine s_gtup (by ktr_room) (by with_unfolding_all rfl) ?_
  | refine s_gsub ?_
  | refine s_augS ?_
  | refine s_aug (by with_unfolding_all rfl) ?_
  | refine s_ipI ?_
  | refine s_bm ?_
  | refine s_bm0 ?_
  | refine s_tyL (by ktr_room) ?_
  | refine s_tyL0 (by ktr_room) ?_
  | refine s_sl ?_
  | refine s_part ?_
  | refine s_partv ?_
  | refine s_noPart ?_
  | refine s_lc ?_
  | refine s_yes ?_
  | refine s_wipe (by with_unfolding_all rfl) ?_
  | refine iteT ?_
  | refine s_retN ?_
  | refine s_isN ?_
  | refine s_truB ?_
  | refine s_isB2 ?_
  | refine s_notB2 ?_
  | refine s_revT ?_
  | refine s_andV ?_
  | refine s_orV ?_
  | refine s_ifE ?_
  | refine s_notK ?_
  | refine s_notN ?_
  | refine s_truL (by ktr_room) ?_
  | refine s_truT (by ktr_room) ?_))
open K1
local macro_rules | `(tactic| ktr_room) => `(tactic| first
  | (apply DR.same; assumption; ktr_room)
  | (apply sqt_butD; assumption; ktr_room; ktr_room))
namespace K1
def RuleP (p n t m : Int) (foes : List Int) (d : PyData) : Prop := ∃ (st i : Int) (xs : List Int) (cd : PyData), d = .tuple [.tuple (xs.map .int), cd] ∧ M.AddrAt n t m st i xs ∧ i ∈ foes ∧ ChgP p n t m cd
theorem isScr_pos {p n t m : Int} {fs : List Int} {rs : List (List Int × M.Chg)} (f : FoesOk n t fs) (h : ∀ r ∈ rs, RuleOk p n t m fs r) (l : rs.length ≤ 40) : isScr p n t m (.tuple [.tuple (fs.map .int), .tuple (rs.map ruleD)]) := ⟨⟨fs, rs⟩, rfl, f.asc, f.pty, f.few, l, h⟩
theorem map_int_inj' : ∀ {a b : List Int}, a.map PyData.int = b.map PyData.int → a = b
  | [], [], _ => rfl
  | [], _ :: _, h => by cases h
  | _ :: _, [], h => by cases h
  | x :: a, y :: b, h => by
    injection h with h1 h2
    injection h1 with h1
    rw [h1, map_int_inj' h2]
theorem scr_inv {p n t m : Int} {d : PyData} (h : isScr p n t m d) : ∃ foes rs, d = .tuple [.tuple (foes.map .int), .tuple rs] ∧ FoesOk n t foes ∧ rs.length ≤ 40 ∧ ∀ r ∈ rs, RuleP p n t m foes r := by
  obtain ⟨s, rfl, k⟩ := h
  refine ⟨s.foes, s.rules.map ruleD, rfl, ⟨k.asc, k.pty, k.few⟩, by rw [List.length_map]; exact k.len, fun r hr => ?_⟩
  obtain ⟨⟨x, c⟩, mm, rfl⟩ := List.mem_map.mp hr
  obtain ⟨⟨st, i, ha, hi⟩, hc⟩ := k.rule _ mm
  exact ⟨st, i, x, _, rfl, ha, hi, c, rfl, hc⟩
theorem scr_inv2 {p n t m : Int} {fs : List Int} {ds : List PyData} (h : isScr p n t m (.tuple [.tuple (fs.map .int), .tuple ds])) : FoesOk n t fs ∧ ds.length ≤ 40 ∧ ∀ r ∈ ds, RuleP p n t m fs r := by
  obtain ⟨foes, rs, e, h⟩ := scr_inv h
  injection e with e
  injection e with e1 e2
  injection e1 with e1
  injection e2 with e2
  injection e2 with e2
  have := map_int_inj' e1
  subst this e2
  exact h
theorem not_len {p n t m : Int} {ds : List PyData} (h : ds.length ≠ 2) : ¬ isScr p n t m (.tuple ds) := fun hv => by
  obtain ⟨foes, rs, e, _⟩ := scr_inv hv
  injection e with e
  rw [e] at h
  exact h rfl
theorem im_chg {K : PySem.W.Frag} {H : Hp} {b : Addr} {c : M.Chg} (h : IsChg K H b c) : Im K H (chgD c) (.ref b) := by
  cases c with
  | is v => exact ⟨b, _, rfl, h, _, _, rfl, rfl, _, _, rfl, rfl, rfl⟩
  | add v => exact ⟨b, _, rfl, h, _, _, rfl, rfl, _, _, rfl, rfl, rfl⟩
  | drop => exact ⟨b, _, rfl, h, _, _, rfl, rfl, rfl⟩
  | copy x =>
    obtain ⟨a, h1, h2⟩ := h
    exact ⟨b, _, rfl, h1, _, _, rfl, rfl, _, _, rfl, im_ints h2, rfl⟩
theorem im_rule {K : PySem.W.Frag} {H : Hp} {b : Addr} {r : List Int × M.Chg} (h : IsRule K H b r) : Im K H (ruleD r) (.ref b) := by
  obtain ⟨a, c, h1, h2, h3⟩ := h
  exact ⟨b, _, rfl, h1, _, _, rfl, im_ints h2, _, _, rfl, im_chg h3, rfl⟩
theorem ims_rules {K : PySem.W.Frag} {H : Hp} : ∀ {as : List Addr} {rs : List (List Int × M.Chg)}, Paired (IsRule K H) as rs → Ims K H (rs.map ruleD) (as.map V.ref)
  | _, _, .nil => rfl
  | _, _, .cons h t => ⟨_, _, rfl, im_rule h, ims_rules t⟩
theorem chg_bd {p n t m : Int} {c : M.Chg} (h : M.ChgOk p n t m c) : Bd 3 12 (chgD c) := by
  cases c with
  | is v => exact (bd_2 (h := 1) (bd_s1 _ (by decide +kernel)) (bd_i1 v)).mono (by decide) (by decide)
  | add v => exact (bd_2 (h := 1) (bd_s1 _ (by decide +kernel)) (bd_i1 v)).mono (by decide) (by decide)
  | drop =>
    refine (bd_flat (ds := [.str "drop"]) (fun d hd => ?_) (by simp)).mono (by decide) (by decide)
    rw [List.mem_singleton.mp hd]
    exact bd_s1 _ (by decide +kernel)
  | copy x =>
    obtain ⟨_, _, h⟩ := h
    have := addr_len h
    exact (bd_2 (h := 2) ((bd_s1 "copy" (by decide +kernel)).mono (by decide) (Nat.le_refl _)) (bd_ints x)).mono (by decide) (by omega)
theorem rule_bd {p n t m : Int} {fs : List Int} {r : List Int × M.Chg} (h : RuleOk p n t m fs r) : Bd 4 30 (ruleD r) := by
  obtain ⟨⟨st, i, h1, _⟩, h2⟩ := h
  have := addr_len h1
  exact (bd_2 (h := 3) ((bd_ints r.1).mono (by decide) (Nat.le_refl _)) (chg_bd h2)).mono (by decide) (by omega)
theorem rules_bd {rs : List PyData} (h : ∀ r ∈ rs, Bd 4 30 r) : szs rs ≤ 30 * rs.length ∧ hts rs ≤ 4 ∧ pls rs = true := by
  induction rs with
  | nil => exact ⟨Nat.zero_le _, Nat.zero_le _, rfl⟩
  | cons a r ih =>
    have i := ih fun x m => h x (List.mem_cons_of_mem _ m)
    have b := h a (List.mem_cons_self ..)
    have b1 := b.ht
    have b2 := b.sz
    refine ⟨?_, ?_, ?_⟩
    · show sz a + szs r ≤ 30 * (r.length + 1)
      omega
    · show max (ht a) (hts r) ≤ 4
      omega
    · show (pl a && pls r) = true
      rw [b.pl, i.2.2]
      rfl
/-- a plan of foes and rules -/
theorem plan_bd {fs : List Int} {rs : List PyData} (h : ∀ r ∈ rs, Bd 4 30 r) (l : rs.length ≤ 1000) (lf : fs.length ≤ 1000) : pl (.tuple [.tuple (fs.map .int), .tuple rs]) = true ∧ sz (.tuple [.tuple (fs.map .int), .tuple rs]) ≤ 100000 ∧ ht (.tuple [.tuple (fs.map .int), .tuple rs]) ≤ 130 := by
  obtain ⟨a1, a2, a3⟩ := rules_bd h
  obtain ⟨b1, b2, b3⟩ := szs_ints fs
  refine ⟨?_, ?_, ?_⟩
  · show (pls (fs.map .int) && (pls rs && true)) = true
    rw [a3, b3]
    rfl
  · show 1 + ((1 + szs (fs.map .int)) + ((1 + szs rs) + 0)) ≤ 100000
    omega
  · show 1 + max (1 + hts (fs.map .int)) (max (1 + hts rs) 0) ≤ 130
    omega
theorem im_plan {K : PySem.W.Frag} {H : Hp} {v f r : Addr} {fs : List Int} {ds : List PyData} {vs : List V} (h : SqT K H v [.ref f, .ref r]) (hf : IsT K H f fs) (hr : SqT K H r vs) (hd : Ims K H ds vs) : Im K H (.tuple [.tuple (fs.map .int), .tuple ds]) (.ref v) :=
  ⟨v, _, rfl, h, _, _, rfl, im_ints hf, _, _, rfl, ⟨r, vs, rfl, hr, hd⟩, rfl⟩
section
variable {P : Program} {w : World} {K : PySem.W.Frag} {mg : Str → Option Value} {base : Heap}
def spIsScript (K : PySem.W.Frag) : Sp := fun vs H Q _ => ∃ (su : Addr) (v : V), vs = [.ref su, v] ∧ ∃ p n t m d, SU K H su p n t m ∧ M.SetOk p n t m ∧ Im K H d v ∧ pl d = true ∧ sz d ≤ 100000 ∧ ht d ≤ 130 ∧ ∀ H' b, Same H H' → (b = true ↔ isScr p n t m d) → Q (.bl b) H'
theorem same_upd {H : Hp} {p : Addr} {o : HO} (hp : H p = none) : Same H (upd H p o) := fun b o e => by
  have : b ≠ p := fun z => by subst z; rw [hp] at e; cases e
  rw [upd_ne this]
  exact e
theorem paired_rep {α β : Type} {R : α → β → Prop} {as : List α} {bs : List β} (h : Paired R as bs) : ∀ n, Paired R (List.replicate n as).flatten (List.replicate n bs).flatten
  | 0 => .nil
  | n + 1 => by
    rw [List.replicate_succ, List.replicate_succ, List.flatten_cons, List.flatten_cons]
    exact paired_app h (paired_rep h n)
theorem paired_take {α β : Type} {R : α → β → Prop} : ∀ {as : List α} {bs : List β}, Paired R as bs → ∀ n, Paired R (as.take n) (bs.take n)
  | _, _, .nil, n => by rw [List.take_nil, List.take_nil]; exact .nil
  | _, _, .cons h t, 0 => .nil
  | _, _, .cons h t, n + 1 => .cons h (paired_take t n)
theorem paired_drop {α β : Type} {R : α → β → Prop} : ∀ {as : List α} {bs : List β}, Paired R as bs → ∀ n, Paired R (as.drop n) (bs.drop n)
  | _, _, .nil, n => by rw [List.drop_nil, List.drop_nil]; exact .nil
  | _, _, .cons h t, 0 => .cons h t
  | _, _, .cons h t, n + 1 => paired_drop t n
/-- what stands throughout the law -/
structure Cx15 (K : PySem.W.Frag) (H : Hp) (C L su f R : Addr) (p n t m : Int) (fs : List Int) (as : List Addr) (rs : List (List Int × M.Chg)) : Prop where
  dr : DR H C L
  su : SU K H su p n t m
  fo : IsT K H f fs
  ru : H R = some (.lst (as.map V.ref))
  rs : Paired (IsRule K H) as rs
theorem Cx15.same {K : PySem.W.Frag} {H H' : Hp} {C L su f R : Addr} {p n t m : Int} {fs : List Int} {as : List Addr} {rs : List (List Int × M.Chg)} (c : Cx15 K H C L su f R p n t m fs as rs) (k : Same H H') : Cx15 K H' C L su f R p n t m fs as rs :=
  ⟨c.dr.same k, sqt_same k c.su, sqt_same k c.fo, k _ _ c.ru, L2.Paired.mapP c.rs fun a x h => h.tk (TK.same k)⟩
theorem Cx15.but {K : PySem.W.Frag} {H H' : Hp} {C L su f R : Addr} {p n t m : Int} {fs : List Int} {as : List Addr} {rs : List (List Int × M.Chg)} (c : Cx15 K H C L su f R p n t m fs as rs) (b : But C H H') (d : DR H' C L) : Cx15 K H' C L su f R p n t m fs as rs :=
  ⟨d, sqt_butD b c.dr c.su, sqt_butD b c.dr c.fo, b _ _ (lst_ne c.dr c.ru (.inr (.inr ⟨_, rfl⟩))) c.ru, L2.Paired.mapP c.rs fun a x h => h.tk (tk_butD b c.dr)⟩
abbrev stL (script d setup foes rules many plan more bad at_ k address change good friends one i : Option V := none) : L2.St := [script, d, setup, foes, rules, many, plan, more, bad, at_, k, address, change, good, friends, one, i]
theorem u_isScr {su : Addr} {v : V} {p n t m : Int} {d : PyData} {H : Hp} {Q : VK} {E : XK} (hs : SU K H su p n t m) (ok : M.SetOk p n t m) (hi : Im K H d v) (hb : pl d = true ∧ sz d ≤ 100000 ∧ ht d ≤ 130) (q : ∀ H' b, Same H H' → (b = true ↔ isScr p n t m d) → Q (.bl b) H') : spIsScript K [.ref su, v] H Q E := ⟨su, v, rfl, p, n, t, m, d, hs, ok, hi, hb.1, hb.2.1, hb.2.2, q⟩
theorem cut_end1 {xs : List Int} (h : xs ≠ []) : ∃ y ∈ xs, cutV (xs.map V.int) (some (-1)) none = [V.int y] := by
  refine ⟨xs.getLast h, List.getLast_mem h, ?_⟩
  have l := List.length_pos_iff.mpr h
  have e : HT.sIx (xs.map V.int).length 0 (some (-1)) = xs.length - 1 := by
    unfold HT.sIx
    simp
    omega
  have key : ∀ (l : List Int) (y : Int), (l ++ [y]).drop ((l ++ [y]).length - 1) = [y] := fun l y => by
    rw [List.length_append, List.length_singleton, Nat.add_sub_cancel, List.drop_left]
  have k2 := key xs.dropLast (xs.getLast h)
  rw [List.dropLast_concat_getLast h] at k2
  unfold cutV
  rw [e, HT.sIx_none, ← List.map_drop, k2, List.length_map, show xs.length - (xs.length - 1) = 1 by omega]
  rfl
theorem not_foes {p n t m : Int} {fs : List Int} {ds : List PyData} (h : ¬ FoesOk n t fs) : ¬ isScr p n t m (.tuple [.tuple (fs.map .int), .tuple ds]) := fun hv => h (scr_inv2 hv).1
theorem few_not {n t : Int} {fs : List Int} (h : t < fs.length) : ¬ FoesOk n t fs := fun f => by have := f.few; omega
theorem pty_not {n t : Int} {fs : List Int} {i : Int} (h : i < 1 ∨ n < i) : ¬ FoesOk n t (fs ++ [i]) := fun f => by
  have := f.pty i (List.mem_append_right _ (List.mem_singleton_self _))
  unfold M.Pty at this
  omega
theorem twice_not {n t : Int} {fs : List Int} {i : Int} (h : i ∈ fs) : ¬ FoesOk n t (fs ++ [i]) := fun f => by
  have := (List.pairwise_append.mp f.asc).2.2 i h i (List.mem_singleton_self _)
  omega
theorem one_bd {fs : List Int} (lf : fs.length ≤ 1000) : pl (.tuple [.tuple (fs.map .int)]) = true ∧ sz (.tuple [.tuple (fs.map .int)]) ≤ 100000 ∧ ht (.tuple [.tuple (fs.map .int)]) ≤ 130 := by
  obtain ⟨b1, b2, b3⟩ := szs_ints fs
  refine ⟨?_, ?_, ?_⟩
  · show (pls (fs.map .int) && true) = true
    rw [b3]
    rfl
  · show 1 + ((1 + szs (fs.map .int)) + 0) ≤ 100000
    omega
  · show 1 + max (1 + hts (fs.map .int)) 0 ≤ 130
    omega
theorem three_bd {fs : List Int} {rs : List PyData} (h : ∀ r ∈ rs, Bd 4 30 r) (l : rs.length ≤ 1000) (lf : fs.length ≤ 1000) : pl (.tuple [.tuple (fs.map .int), .tuple rs, .tuple []]) = true ∧ sz (.tuple [.tuple (fs.map .int), .tuple rs, .tuple []]) ≤ 100000 ∧ ht (.tuple [.tuple (fs.map .int), .tuple rs, .tuple []]) ≤ 130 := by
  obtain ⟨a1, a2, a3⟩ := rules_bd h
  obtain ⟨b1, b2, b3⟩ := szs_ints fs
  refine ⟨?_, ?_, ?_⟩
  · show (pls (fs.map .int) && (pls rs && (true && true))) = true
    rw [a3, b3]
    rfl
  · show 1 + ((1 + szs (fs.map .int)) + ((1 + szs rs) + ((1 + 0) + 0))) ≤ 100000
    omega
  · show 1 + max (1 + hts (fs.map .int)) (max (1 + hts rs) (max (1 + 0) 0)) ≤ 130
    omega
theorem paired_get {α β : Type} {R : α → β → Prop} : ∀ {as : List α} {bs : List β}, Paired R as bs → ∀ {k : Nat} {a : α} {b : β}, as[k]? = some a → bs[k]? = some b → R a b
  | _, _, .nil, k, a, b, e, _ => by simp at e
  | _, _, .cons h t, 0, a, b, e, g => by
    simp at e g
    subst e g
    exact h
  | _, _, .cons h t, k + 1, a, b, e, g => paired_get t (k := k) (by simpa using e) (by simpa using g)
end
end K1
end
section
open PySem PySem.Spec PyProof.Rows L2 Z
local macro_rules | `(tactic| ktr_room) => `(tactic| first
  | assumption
  | (apply SqT.of; assumption)
  | (apply SqL.of; assumption)
  | (apply sqt_same; assumption; ktr_room)
  | (apply sql_same; assumption; ktr_room)
  | (apply sqt_but; assumption; assumption; ktr_room)
  | (apply sql_but; assumption; assumption; ktr_room)
  | (apply Same.of_; assumption; ktr_room)
  | (apply But.of_; assumption; assumption; ktr_room)
  | exact same_refl
  | exact but_refl
  | (apply same_tr; assumption; ktr_room)
  | (apply same_but; assumption; ktr_room; assumption)
  | (apply but_tr; assumption; ktr_room)
  | (apply but_trB; assumption; ktr_room))
local macro_rules | `(tactic| ktr_units) => `(tactic| first | with_reducible assumption | omega | rfl | exact ⟨by omega, by omega⟩ | exact .inl ⟨by omega, by omega⟩ | exact .inr ⟨by omega, by omega⟩ | exact ⟨by decide, by decide, by decide⟩ | exact Nat.le_of_ble_eq_true rfl | decide)
local macro_rules | `(tactic| kc_close) => `(tactic| repeat (with_reducible first
  | refine s_var (by with_unfolding_all rfl) ?_
  | refine s_c ?_
  | refine s_op ?_
  | refine s_rI0 ?_
  | refine s_asg ?_
  | refine s_gname ?_
  | refine s_seq ?_
  | refine s_cons ?_
  | refine s_nil ?_
  | refine s_call ?_
  | refine s_ret ?_
  | o_fieldsN
  | refine s_test ?_
  | refine s_bl ?_
  | refine s_rI (by with_unfolding_all (ktr_units)) ?_
  | refine s_rEq rfl ?_
  | refine s_rNe rfl ?_
  | refine s_cb ?_
  | refine s_int1 ?_
  | refine s_intB ?_
  | refine s_max2 ?_
  | refine s_min2 ?_
  | refine s_tup ?_
  | refine s_lst ?_
  | refine s_newT (by with_unfolding_all first | decide | exact Nat.le_of_ble_eq_true rfl) ?_
  | refine s_newL (by with_unfolding_all first | decide | exact Nat.le_of_ble_eq_true rfl) ?_
  | refine s_ixT (by ktr_room) (by with_unfolding_all rfl) ?_
  | refine s_ixL (by ktr_room) (by with_unfolding_all rfl) ?_
  | refine s_lenT (by ktr_room) ?_
  | refine s_lenL (by ktr_room) ?_
  | refine s_un ?_
  | refine s_rU ?_
  | refine s_and ?_
  | refine s_or ?_
  | refine s_not ?_
  | refine s_tB ?_
  | refine s_tru ?_
  | refine s_drop ?_
  | refine s_next ?_
  | refine s_for ?_
  | refine s_rng1 ?_
  | refine s_rng2 ?_
  | refine s_rng3 ?_
  | refine s_ilist ?_
  | refine s_itup ?_
  | refine s_iany ?_
  | refine s_ienum ?_
  | refine s_irev ?_
  | refine s_gcons ?_
  | refine s_gnil ?_
  | refine s_gtup (by ktr_room) (by with_unfolding_all rfl) ?_
  | refine s_gsub ?_
  | refine s_augS ?_
  | refine s_aug (by with_unfolding_all rfl) ?_
  | refine s_ipI ?_
  | refine s_bm ?_
  | refine s_bm0 ?_
  | refine s_tyL (by ktr_room) ?_
  | refine s_tyL0 (by ktr_room) ?_
  | refine s_sl ?_
  | refine s_part ?_
  | refine s_partv ?_
  | refine s_noPart ?_
  | refine s_lc ?_
  | refine s_yes ?_
  | refine s_wipe (by with_unfolding_all rfl) ?_
  | refine iteT ?_
  | refine s_retN ?_
  | refine s_isN ?_
  | refine s_truB ?_
  | refine s_isB2 ?_
  | refine s_notB2 ?_
  | refine s_revT ?_
  | refine s_andV ?_
  | refine s_orV ?_
  | refine s_ifE ?_
  | refine s_notK ?_
  | refine s_notN ?_
  | refine s_truL (by ktr_room) ?_
  | refine s_truT (by ktr_room) ?_))
open K1
local macro_rules | `(tactic| ktr_room) => `(tactic| first
  | (apply DR.same; assumption; ktr_room)
  | (apply sqt_butD; assumption; ktr_room; ktr_room))
namespace K1
theorem rp_len {p n t m : Int} {fs : List Int} {ds : List PyData} (h : ds.length ≠ 2) : ¬ RuleP p n t m fs (.tuple ds) := fun ⟨st, i, xs, cd, e, _⟩ => by
  rw [PyData.tuple.inj e] at h
  exact h rfl
theorem rp_none {p n t m : Int} {fs : List Int} : ¬ RuleP p n t m fs .none := fun ⟨st, i, xs, cd, e, _⟩ => by cases e
theorem rp_addr {p n t m : Int} {fs : List Int} {a c : PyData} (h : ¬ isAddr n t m a) : ¬ RuleP p n t m fs (.tuple [a, c]) := fun ⟨st, i, xs, cd, e, ha, _⟩ => by
  have e' := PyData.tuple.inj e
  exact h ⟨st, i, xs, (List.cons.inj e').1, ha⟩
theorem rp_chg {p n t m : Int} {fs : List Int} {a c : PyData} (h : ¬ ChgP p n t m c) : ¬ RuleP p n t m fs (.tuple [a, c]) := fun ⟨st, i, xs, cd, e, ha, _, hc⟩ => by
  have e' := PyData.tuple.inj e
  rw [(List.cons.inj (List.cons.inj e').2).1] at h
  exact h hc
theorem rp_sender {p n t m : Int} {fs : List Int} {st fr : Int} {r : List Int} {c : PyData} (h : fr ∉ fs) : ¬ RuleP p n t m fs (.tuple [.tuple ((st :: fr :: r).map .int), c]) := fun ⟨st', i, xs, cd, e, ha, hi, _⟩ => by
  have e' := PyData.tuple.inj (List.cons.inj (PyData.tuple.inj e)).1
  have e2 := map_int_inj' e'
  obtain ⟨r', er⟩ := addr_cons ha
  rw [er] at e2
  cases e2
  exact h hi
theorem not_rule {p n t m : Int} {fs : List Int} {ds : List PyData} {d : PyData} (hm : d ∈ ds) (h : ¬ RuleP p n t m fs d) : ¬ isScr p n t m (.tuple [.tuple (fs.map .int), .tuple ds]) := fun hv => h ((scr_inv2 hv).2.2 d hm)
theorem bd_t1 {h s : Nat} {d : PyData} (b : Bd h s d) : Bd (h + 1) (1 + s) (.tuple [d]) := by
  have b1 := b.ht
  have b2 := b.sz
  refine ⟨?_, ?_, ?_⟩
  · show 1 + max (ht d) 0 ≤ h + 1
    omega
  · show 1 + (sz d + 0) ≤ 1 + s
    omega
  · show (pl d && true) = true
    rw [b.pl]
    rfl
theorem bd_t3 {h s1 s2 s3 : Nat} {d e f : PyData} (b : Bd h s1 d) (c : Bd h s2 e) (g : Bd h s3 f) : Bd (h + 1) (1 + s1 + s2 + s3) (.tuple [d, e, f]) := by
  have b1 := b.ht
  have b2 := b.sz
  have c1 := c.ht
  have c2 := c.sz
  have g1 := g.ht
  have g2 := g.sz
  refine ⟨?_, ?_, ?_⟩
  · show 1 + max (ht d) (max (ht e) (max (ht f) 0)) ≤ h + 1
    omega
  · show 1 + (sz d + (sz e + (sz f + 0))) ≤ 1 + s1 + s2 + s3
    omega
  · show (pl d && (pl e && (pl f && true))) = true
    rw [b.pl, c.pl, g.pl]
    rfl
theorem pig : ∀ (k : Nat) (fs : List Int), (∀ j : Nat, j < k → (1 + (j : Int)) ∈ fs) → k ≤ fs.length
  | 0, _, _ => Nat.zero_le _
  | k + 1, fs, h => by
    have hk := h k (Nat.lt_succ_self _)
    have e := List.length_erase_of_mem hk
    have ih := pig k (fs.erase (1 + (k : Int))) fun j hj => (List.mem_erase_of_ne (by omega)).mpr (h j (by omega))
    have : 0 < fs.length := List.length_pos_of_mem hk
    omega
theorem at8v {d : Int} (h0 : 0 ≤ d) (h1 : d < 8) : ∃ x : Int, 0 ≤ x ∧ x < 6 ∧ atI [V.int 0, .int 0, .int 1, .int 1, .int 2, .int 3, .int 4, .int 5] d = some (.int x) := by
  rcases (show d = 0 ∨ d = 1 ∨ d = 2 ∨ d = 3 ∨ d = 4 ∨ d = 5 ∨ d = 6 ∨ d = 7 by omega) with rfl | rfl | rfl | rfl | rfl | rfl | rfl | rfl
  · exact ⟨0, by omega, by omega, rfl⟩
  · exact ⟨0, by omega, by omega, rfl⟩
  · exact ⟨1, by omega, by omega, rfl⟩
  · exact ⟨1, by omega, by omega, rfl⟩
  · exact ⟨2, by omega, by omega, rfl⟩
  · exact ⟨3, by omega, by omega, rfl⟩
  · exact ⟨4, by omega, by omega, rfl⟩
  · exact ⟨5, by omega, by omega, rfl⟩
end K1
end
section
open PySem PySem.Spec PyProof.Rows L2 Z
local macro_rules | `(tactic| ktr_room) => `(tactic| first
  | assumption
  | (apply SqT.of; assumption)
  | (apply SqL.of; assumption)
  | (apply sqt_same; assumption; ktr_room)
  | (apply sql_same; assumption; ktr_room)
  | (apply sqt_but; assumption; assumption; ktr_room)
  | (apply sql_but; assumption; assumption; ktr_room)
  | (apply Same.of_; assumption; ktr_room)
  | (apply But.of_; assumption; assumption; ktr_room)
  | exact same_refl
  | exact but_refl
  | (apply same_tr; assumption; ktr_room)
  | (apply same_but; assumption; ktr_room; assumption)
  | (apply but_tr; assumption; ktr_room)
  | (apply but_trB; assumption; ktr_room))
local macro_rules | `(tactic| ktr_units) => `(tactic| first | with_reducible assumption | omega | rfl | exact ⟨by omega, by omega⟩ | exact .inl ⟨by omega, by omega⟩ | exact .inr ⟨by omega, by omega⟩ | exact ⟨by decide, by decide, by decide⟩ | exact Nat.le_of_ble_eq_true rfl | decide)
local macro_rules | `(tactic| kc_close) => `(tactic| repeat (with_reducible first
  | refine s_var (by with_unfolding_all rfl) ?_
  | refine s_c ?_
  | refine s_op ?_
  | refine s_rI0 ?_
  | refine s_asg ?_
  | refine s_gname ?_
  | refine s_seq ?_
  | refine s_cons ?_
  | refine s_nil ?_
  | refine s_call ?_
  | refine s_ret ?_
  | o_fieldsN
  | refine s_test ?_
  | refine s_bl ?_
  | refine s_rI (by with_unfolding_all (ktr_units)) ?_
  | refine s_rEq rfl ?_
  | refine s_rNe rfl ?_
  | refine s_cb ?_
  | refine s_int1 ?_
  | refine s_intB ?_
  | refine s_max2 ?_
  | refine s_min2 ?_
  | refine s_tup ?_
  | refine s_lst ?_
  | refine s_newT (by with_unfolding_all first | decide | exact Nat.le_of_ble_eq_true rfl) ?_
  | refine s_newL (by with_unfolding_all first | decide | exact Nat.le_of_ble_eq_true rfl) ?_
  | refine s_ixT (by ktr_room) (by with_unfolding_all rfl) ?_
  | refine s_ixL (by ktr_room) (by with_unfolding_all rfl) ?_
  | refine s_lenT (by ktr_room) ?_
  | refine s_lenL (by ktr_room) ?_
  | refine s_un ?_
  | refine s_rU ?_
  | refine s_and ?_
  | refine s_or ?_
  | refine s_not ?_
  | refine s_tB ?_
  | refine s_tru ?_
  | refine s_drop ?_
  | refine s_next ?_
  | refine s_for ?_
  | refine s_rng1 ?_
  | refine s_rng2 ?_
  | refine s_rng3 ?_
  | refine s_ilist ?_
  | refine s_itup ?_
  | refine s_iany ?_
  | refine s_ienum ?_
  | refine s_irev ?_
  | refine s_gcons ?_
  | refine s_gnil ?_
  | refine s_gtup (by ktr_room) (by with_unfolding_all rfl) ?_
  | refine s_gsub ?_
  | refine s_augS ?_
  | refine s_aug (by with_unfolding_all rfl) ?_
  | refine s_ipI ?_
  | refine s_bm ?_
  | refine s_bm0 ?_
  | refine s_tyL (by ktr_room) ?_
  | refine s_tyL0 (by ktr_room) ?_
  | refine s_sl ?_
  | refine s_part ?_
  | refine s_partv ?_
  | refine s_noPart ?_
  | refine s_lc ?_
  | refine s_yes ?_
  | refine s_wipe (by with_unfolding_all rfl) ?_
  | refine iteT ?_
  | refine s_retN ?_
  | refine s_isN ?_
  | refine s_truB ?_
  | refine s_isB2 ?_
  | refine s_notB2 ?_
  | refine s_revT ?_
  | refine s_andV ?_
  | refine s_orV ?_
  | refine s_ifE ?_
  | refine s_notK ?_
  | refine s_notN ?_
  | refine s_truL (by ktr_room) ?_
  | refine s_truT (by ktr_room) ?_))
open K1
local macro_rules | `(tactic| ktr_room) => `(tactic| first
  | (apply DR.same; assumption; ktr_room)
  | (apply sqt_butD; assumption; ktr_room; ktr_room))
namespace K1
section
variable {P : Program} {w : World} {K : PySem.W.Frag} {mg : Str → Option Value} {base : Heap}
theorem ok_law (T : NoB mg) {f : Addr} {fd : FuncData} (F : Fun K "law" "law" (topS 31) f fd) (G__law_start : Good P w K mg base 1 "_law_start" ["script"] (spStart K)) (G__law_setup : Good P w K mg base 3 "_law_setup" ["d", "most"] (spSetup K)) (G__law_foes : Good P w K mg base 3 "_law_foes" ["d", "setup"] (spFoes K)) (G__law_rules : Good P w K mg base 5 "_law_rules" ["d", "setup", "foes", "most"] (spRules K)) (G__law_take : Good P w K mg base 2 "_law_take" ["d", "many"] (spTake)) (G_is_script : Good P w K mg base 140 "is_script" ["setup", "value"] (spIsScript K)) (G__law_at_bound : Good P w K mg base 5 "_law_at_bound" ["d", "setup", "foes", "change"] (spAtBound K)) (G__law_bad_change : Good P w K mg base 4 "_law_bad_change" ["d", "setup", "change"] (spBadChg K)) (G__law_beyond : Good P w K mg base 3 "_law_beyond" ["d", "setup", "address"] (spBeyond K)) : FnOk P w K mg base CX0 141 f fd ["script"] (spLaw K) := by
  have sc : FnScope ["script", "d", "setup", "foes", "rules", "many", "plan", "more", "bad", "at", "k", "address", "change", "good", "friends", "one", "i"] ["script"] (defScope (topS 31)) := ⟨rfl, rfl, rfl, by decide +kernel, rfl, by decide +kernel, by decide +kernel⟩
  have nd := sc.nd
  refine F.ok sc (fun vs H Q E h => by obtain ⟨s0, rfl, _⟩ := h; rfl) (fun cdv A outer s H vs Q E hr h => ?_)
  obtain ⟨s0, rfl, hyp⟩ := h
  refine ⟨_, (pss_cons (ps_set (i := 1) nd rfl (by first | exact .inl rfl | exact .inr rfl) (pe_callG G__law_start (hr.mono (by first | decide | omega)) (by rfl) (pa_cons (pv 0) pa_nil)))
  (pss_cons (ps_set (i := 2) nd rfl (by first | exact .inl rfl | exact .inr rfl) (pe_callG G__law_setup (hr.mono (by first | decide | omega)) (by rfl) (pa_cons (pv 1) (pa_cons pe_int pa_nil))))
  (pss_cons (ps_set (i := 3) nd rfl (by first | exact .inl rfl | exact .inr rfl) (pe_callG G__law_foes (hr.mono (by first | decide | omega)) (by rfl) (pa_cons (pv 1) (pa_cons (pv 2) pa_nil))))
  (pss_cons (ps_set (i := 4) nd rfl (by first | exact .inl rfl | exact .inr rfl) (pe_callTy (c_lstK K) (by rfl) T.n_list (by decide +kernel) (pa_cons (pe_callG G__law_rules (hr.mono (by first | decide | omega)) (by rfl) (pa_cons (pv 1) (pa_cons (pv 2) (pa_cons (pv 3) (pa_cons pe_int pa_nil))))) pa_nil)))
  (pss_cons (ps_if (PW.pt (pw_and (pt_truK K (pv 4) (by intro _; rfl)) (pw_and1 (pt_cmpR op_eq (pe_callG G__law_take (hr.mono (by first | decide | omega)) (by rfl) (pa_cons (pv 1) (pa_cons pe_int pa_nil))) pe_int (nomark _)))))
  (pss_cons (ps_set (i := 5) nd rfl (by first | exact .inl rfl | exact .inr rfl) (pe_op op_add pe_int (pe_callG G__law_take (hr.mono (by first | decide | omega)) (by rfl) (pa_cons (pv 1) (pa_cons pe_int pa_nil)))))
  (pss_one (ps_set (i := 4) nd rfl (by first | exact .inl rfl | exact .inr rfl) (pe_slice (sl_listK K) (pe_op op_rep (pv 4) pe_int) po_none (po_some (pv 5)))))) pss_nil)
  (pss_cons (ps_set (i := 6) nd rfl (by first | exact .inl rfl | exact .inr rfl) (pe_tup (pa_cons (pv 3) (pa_cons (pe_callTy (c_tupK K) (by rfl) T.n_tuple (by decide +kernel) (pa_cons (pv 4) pa_nil)) pa_nil))))
  (pss_cons (ps_if (pt_cmpR op_ne (pe_callG G_is_script (hr.mono (by first | decide | omega)) (by rfl) (pa_cons (pv 2) (pa_cons (pv 6) pa_nil))) (pe_cmpR op_le (pe_callB (c_lenK K) (by rfl) T.n_len (by decide +kernel) (pa_cons (pv 4) pa_nil)) pe_int (nomark _)) (nomark _))
  (pss_one (ps_ret pe_bl)) pss_nil)
  (pss_cons (ps_if (PW.pt (pw_and (pt_cmpR op_lt (pe_callB (c_lenK K) (by rfl) T.n_len (by decide +kernel) (pa_cons (pv 3) pa_nil)) (pe_ix (ix_tupK K) (pv 2) pe_int (fun _ _ => rfl)) (nomark _)) (pw_and1 (pt_cmpR op_eq (pe_callG G__law_take (hr.mono (by first | decide | omega)) (by rfl) (pa_cons (pv 1) (pa_cons pe_int pa_nil))) pe_int (nomark _)))))
  (pss_cons (ps_set (i := 7) nd rfl (by first | exact .inl rfl | exact .inr rfl) (pe_callTy (c_tupK K) (by rfl) T.n_tuple (by decide +kernel) (pa_cons (pe_lc (own := [("i", 16)]) rfl nd (pi_range2 rfl T.n_range (pa_cons pe_int (pa_cons (pe_op op_add (pe_ix (ix_tupK K) (pv 2) pe_int (fun _ _ => rfl)) pe_int) pa_nil))) (blkOk_by (own := [("i", 16)]) (N := ["script", "d", "setup", "foes", "rules", "many", "plan", "more", "bad", "at", "k", "address", "change", "good", "friends", "one", "i"]) (by kernel_rfl)) (fun _ _ _ _ _ => (pg_name (i := 16) nd rfl (by first | exact .inl rfl | exact .inr rfl))) (fun _ _ _ _ _ => pts_nil) (fun _ _ _ _ _ => (pv 16))) pa_nil)))
  (pss_cons (ps_set (i := 8) nd rfl (by first | exact .inl rfl | exact .inr rfl) (pe_lst (pa_cons (pe_tup (pa_cons (pe_slice (sl_tupK K) (pv 7) po_none (po_some (pe_op op_add (pe_ix (ix_tupK K) (pv 2) pe_int (fun _ _ => rfl)) pe_int))) (pa_cons (pe_tup pa_nil) pa_nil))) (pa_cons (pe_tup (pa_cons (pe_op (op_catK K) (pv 3) (pe_slice (sl_tupK K) (pv 3) (po_some (pe_un un_neg pe_int)) po_none)) (pa_cons (pe_tup pa_nil) pa_nil))) (pa_cons (pe_tup (pa_cons (pe_op (op_catK K) (pv 3) (pe_tup (pa_cons pe_int pa_nil))) (pa_cons (pe_tup pa_nil) pa_nil))) (pa_cons (pe_tup (pa_cons (pe_op (op_catK K) (pv 3) (pe_tup (pa_cons (pe_op op_add (pe_ix (ix_tupK K) (pv 2) pe_int (fun _ _ => rfl)) pe_int) pa_nil))) (pa_cons (pe_tup pa_nil) pa_nil))) (pa_cons (pe_tup (pa_cons (pv 3) pa_nil)) (pa_cons (pe_tup (pa_cons (pv 3) (pa_cons (pe_callTy (c_tupK K) (by rfl) T.n_tuple (by decide +kernel) (pa_cons (pv 4) pa_nil)) (pa_cons (pe_tup pa_nil) pa_nil)))) pa_nil))))))))
  (pss_cons (ps_set (i := 9) nd rfl (by first | exact .inl rfl | exact .inr rfl) (pe_callG G__law_take (hr.mono (by first | decide | omega)) (by rfl) (pa_cons (pv 1) (pa_cons pe_int pa_nil))))
  (pss_cons (ps_if (PW.pt (pw_and (pt_cmpR op_eq (pv 9) pe_int (nomark _)) (pw_and1 (pt_not (pt_truK K (pv 3) (by intro _; rfl))))))
  (pss_one (ps_set (i := 9) nd rfl (by first | exact .inl rfl | exact .inr rfl) pe_int)) pss_nil)
  (pss_one (ps_ret (pe_cmpR op_isBn (pe_callG G_is_script (hr.mono (by first | decide | omega)) (by rfl) (pa_cons (pv 2) (pa_cons (pe_ix (ix_listK K) (pv 8) (pv 9) (fun _ _ => rfl)) pa_nil))) pe_bl (nomark _)))))))) pss_nil)
  (pss_cons (ps_if (PW.pt (pw_or (pt_not (pt_truK K (pv 4) (by intro _; rfl))) (pw_or1 (pt_cmpR op_gt (pe_callB (c_lenK K) (by rfl) T.n_len (by decide +kernel) (pa_cons (pv 4) pa_nil)) pe_int (nomark _)))))
  (pss_one (ps_ret pe_bl)) pss_nil)
  (pss_cons (ps_set (i := 10) nd rfl (by first | exact .inl rfl | exact .inr rfl) (pe_callG G__law_take (hr.mono (by first | decide | omega)) (by rfl) (pa_cons (pv 1) (pa_cons (pe_callB (c_lenK K) (by rfl) T.n_len (by decide +kernel) (pa_cons (pv 4) pa_nil)) pa_nil))))
  (pss_cons (ps_asg (pe_ix (ix_listK K) (pv 4) (pv 10) (fun _ _ => rfl)) (pg_tupK K 2 (by rfl) (pgs_cons (pg_name (i := 11) nd rfl (by first | exact .inl rfl | exact .inr rfl)) (pgs_cons (pg_name (i := 12) nd rfl (by first | exact .inl rfl | exact .inr rfl)) pgs_nil))))
  (pss_cons (ps_set (i := 13) nd rfl (by first | exact .inl rfl | exact .inr rfl) (pe_op op_cat (pe_op op_cat (pe_slice (sl_listK K) (pv 4) po_none (po_some (pv 10))) (pe_lst (pa_cons (pe_tup (pa_cons (pv 11) (pa_cons (pe_callG G__law_at_bound (hr.mono (by first | decide | omega)) (by rfl) (pa_cons (pv 1) (pa_cons (pv 2) (pa_cons (pv 3) (pa_cons (pv 12) pa_nil))))) pa_nil))) pa_nil))) (pe_slice (sl_listK K) (pv 4) (po_some (pe_op op_add (pv 10) pe_int)) po_none)))
  (pss_cons (ps_if (pt_cmpR op_notBn (pe_callG G_is_script (hr.mono (by first | decide | omega)) (by rfl) (pa_cons (pv 2) (pa_cons (pe_tup (pa_cons (pv 3) (pa_cons (pe_callTy (c_tupK K) (by rfl) T.n_tuple (by decide +kernel) (pa_cons (pv 13) pa_nil)) pa_nil))) pa_nil))) pe_bl (nomark _))
  (pss_one (ps_ret pe_bl)) pss_nil)
  (pss_cons (ps_set (i := 8) nd rfl (by first | exact .inl rfl | exact .inr rfl) (pe_lst (pa_cons (pe_tup (pa_cons (pe_callG G__law_beyond (hr.mono (by first | decide | omega)) (by rfl) (pa_cons (pv 1) (pa_cons (pv 2) (pa_cons (pv 11) pa_nil)))) (pa_cons (pv 12) pa_nil))) (pa_cons (pe_tup (pa_cons (pv 11) (pa_cons (pe_callG G__law_bad_change (hr.mono (by first | decide | omega)) (by rfl) (pa_cons (pv 1) (pa_cons (pv 2) (pa_cons (pv 12) pa_nil)))) pa_nil))) (pa_cons (pe_tup (pa_cons (pv 11) pa_nil)) (pa_cons (pe_tup (pa_cons (pv 11) (pa_cons (pv 12) (pa_cons pe_int pa_nil)))) (pa_cons pe_non pa_nil)))))))
  (pss_cons (ps_setLc (i := 14) (own := [("i", 16)]) rfl nd rfl rfl (sw_true rfl rfl rfl (by decide +kernel)) (pi_range2 rfl T.n_range (pa_cons pe_int (pa_cons (pe_op op_add (pe_ix (ix_tupK K) (pv 2) pe_int (fun _ _ => rfl)) pe_int) pa_nil))) (blkOk_by (own := [("i", 16)]) (N := ["script", "d", "setup", "foes", "rules", "many", "plan", "more", "bad", "at", "k", "address", "change", "good", "friends", "one", "i"]) (by kernel_rfl)) (fun _ _ _ _ _ => (pg_name (i := 16) nd rfl (by first | exact .inl rfl | exact .inr rfl))) (fun _ _ _ _ _ => (pts_one (pt_cmpR (op_notInK K) (pv 16) (pv 3) (by rfl)))) (fun _ _ _ _ _ => (pv 16)))
  (pss_cons (ps_expr (pe_bmK K PySem.F.plainAttrs_list PySem.F.slot_list_append PySem.F.type_list_append mt_append (pv 8) (pa_cons (pe_tup (pa_cons (pe_op (op_catK K) (pe_op (op_catK K) (pe_slice (sl_tupK K) (pv 11) po_none (po_some pe_int)) (pe_tup (pa_cons (pe_ix (ix_listK K) (pv 14) pe_int (fun _ _ => rfl)) pa_nil))) (pe_slice (sl_tupK K) (pv 11) (po_some pe_int) po_none)) (pa_cons (pv 12) pa_nil))) pa_nil)))
  (pss_cons (ps_set (i := 15) nd rfl (by first | exact .inl rfl | exact .inr rfl) (pe_ix (ix_listK K) (pv 8) (pe_ix (ix_listK K) (pe_lst (pa_cons pe_int (pa_cons pe_int (pa_cons pe_int (pa_cons pe_int (pa_cons pe_int (pa_cons pe_int (pa_cons pe_int (pa_cons pe_int pa_nil))))))))) (pe_callG G__law_take (hr.mono (by first | decide | omega)) (by rfl) (pa_cons (pv 1) (pa_cons pe_int pa_nil))) (fun _ _ => rfl)) (fun _ _ => rfl)))
  (pss_one (ps_ret (pe_cmpR op_isBn (pe_callG G_is_script (hr.mono (by first | decide | omega)) (by rfl) (pa_cons (pv 2) (pa_cons (pe_tup (pa_cons (pv 3) (pa_cons (pe_callTy (c_tupK K) (by rfl) T.n_tuple (by decide +kernel) (pa_cons (pe_op op_cat (pe_op op_cat (pe_slice (sl_listK K) (pv 4) po_none (po_some (pv 10))) (pe_lst (pa_cons (pv 15) pa_nil))) (pe_slice (sl_listK K) (pv 4) (po_some (pe_op op_add (pv 10) pe_int)) po_none)) pa_nil)) pa_nil))) pa_nil))) pe_bl (nomark _))))))))))))))))))))), ?_⟩
  try dsimp only [cxOf, Cx.wish]
  obtain ⟨⟨ns, hsc, hns⟩, q⟩ := hyp
  have line : (100000 : Nat) < sizeLine := by decide
  kc_close
  refine u_start hsc hns fun H1 c L s1 d1 => ?_
  kc_close
  refine ⟨c, 6, rfl, L, d1, by omega, by omega, fun H2 su p n t m b2 d2 hs2 ok => ?_⟩
  have pr := ok.pr.lt
  have ot0 := ok.t0
  have ot2 := ok.t2
  have ont := ok.nt
  have on7 := ok.n7
  kc_close
  refine u_foes d2 hs2 ok fun H3 fo fs b3 d3 hf3 fok => ?_
  have ffew := fok.few
  have hs3 : SU K H3 su p n t m := sqt_butD b3 d2 hs2
  kc_close
  refine ⟨c, su, fo, 12, rfl, L, p, n, t, m, fs, d3, hs3, ok, hf3, fok, by omega, by omega, fun H4 r0 as rs b4 d4 hr4 hps hrs lrs => ?_⟩
  have las := Paired.length hps
  kc_close
  refine ⟨r0, _, rfl, .inr hr4, fun R nR => ?_⟩
  have s5 := same_upd (o := .lst (as.map V.ref)) nR
  have eR : upd H4 R (.lst (as.map V.ref)) R = some (.lst (as.map V.ref)) := upd_same
  generalize upd H4 R (.lst (as.map V.ref)) = H5 at s5 eR ⊢
  have cx : Cx15 K H5 c L su fo R p n t m fs as rs := ⟨d4.same s5, sqt_same s5 (sqt_butD b4 d3 hs3), sqt_same s5 (sqt_butD b4 d3 hf3), eR, L2.Paired.mapP hps fun a x h => h.tk (TK.same s5)⟩
  kc_close
  refine s_cut (fun σ' H' => ∃ (R : Addr) (y : Option V) (as : List Addr) (rs : List (List Int × M.Chg)), σ' = stL (some (.ref s0)) (some (.ref c)) (some (.ref su)) (some (.ref fo)) (some (.ref R)) y ∧ Cx15 K H' c L su fo R p n t m fs as rs ∧ (∀ r ∈ rs, RuleOk p n t m fs r) ∧ rs.length ≤ 1000) (fun N hN => ?_) ?_
  · refine s_if ?_
    kc_close
    by_cases hm : as = []
    · refine ifFalse (by rw [hm]; rfl) ?_
      kc_close
      exact hN _ _ ⟨R, _, as, rs, rfl, cx, hrs, by omega⟩
    · refine ifTrue (by cases as with | nil => exact absurd rfl hm | cons _ _ => rfl) ?_
      kc_close
      refine u_take cx.dr (by omega) (by omega) fun H6 x6 b6 d6 g0 g1 => ?_
      have cx6 := cx.but b6 d6
      kc_close
      refine ifI (fun h6 => ?_) (fun h6 => ?_)
      · kc_close
        refine u_take d6 (by omega) (by omega) fun H7 x7 b7 d7 g2 g3 => ?_
        have cx7 := cx6.but b7 d7
        kc_close
        refine s_rep cx7.ru (by decide) (by decide) (by rw [List.length_map]; show as.length * 44 ≤ sizeLine; omega) fun R2 H8 n8 s8 e8 => ?_
        have cx8 := cx7.same s8
        kc_close
        refine s_slL (SqL.of e8) fun R3 H9 n9 s9 e9 => ?_
        kc_close
        obtain ⟨mm, hmm⟩ : ∃ mm : Nat, 36 + x7 = (mm : Int) := ⟨(36 + x7).toNat, by omega⟩
        rw [hmm, cut_to] at e9
        refine hN _ _ ⟨R3, _, ((List.replicate 44 as).flatten).take mm, ((List.replicate 44 rs).flatten).take mm, rfl, ⟨cx8.dr.same s9, sqt_same s9 cx8.su, sqt_same s9 cx8.fo, ?_, L2.Paired.mapP (paired_take (paired_rep cx8.rs 44) mm) fun a x h => h.tk (TK.same s9)⟩, fun r hr => ?_, ?_⟩
        · rw [e9, List.map_take, List.map_flatten, List.map_replicate]
          rfl
        · have := List.mem_of_mem_take hr
          obtain ⟨l, hl, h2⟩ := List.mem_flatten.mp this
          rw [List.mem_replicate] at hl
          exact hrs r (hl.2 ▸ h2)
        · rw [List.length_take]
          omega
      · kc_close
        exact hN _ _ ⟨R, _, as, rs, rfl, cx6, hrs, by omega⟩
  rintro _ H6 ⟨R, y5, as, rs, rfl, cx, hrs, lrs⟩
  have las := Paired.length cx.rs
  kc_close
  refine s_tupL (SqL.of cx.ru) fun r1 H7 n7 s7 e7 => ?_
  have cx7 := cx.same s7
  kc_close
  intro pl1 H8 n8 s8 e8
  have cx8 := cx7.same s8
  have hds : ∀ r ∈ rs.map ruleD, Bd 4 30 r := fun r hr => by
    obtain ⟨x, hx, rfl⟩ := List.mem_map.mp hr
    exact rule_bd (hrs x hx)
  have pb := plan_bd (fs := fs) hds (by rw [List.length_map]; exact lrs) (by omega)
  have pim : Im K H8 (.tuple [.tuple (fs.map .int), .tuple (rs.map ruleD)]) (.ref pl1) := im_plan (SqT.of e8) cx8.fo (SqT.of (s8 _ _ e7)) (ims_rules cx8.rs)
  kc_close
  refine s_cut (fun σ' H' => σ' = stL (some (.ref s0)) (some (.ref c)) (some (.ref su)) (some (.ref fo)) (some (.ref R)) y5 (some (.ref pl1)) ∧ Cx15 K H' c L su fo R p n t m fs as rs) (fun N hN => ?_) ?_
  · refine s_if ?_
    kc_close
    refine u_isScr cx8.su ok pim pb fun H9 b9 s9 hb9 => ?_
    have cx9 := cx8.same s9
    have bval : b9 = decide (((as.map V.ref).length : Int) ≤ 40) := by
      rw [List.length_map, las]
      by_cases hl : rs.length ≤ 40
      · rw [decide_eq_true (by omega)]
        exact hb9.mpr (isScr_pos fok hrs hl)
      · rw [decide_eq_false (by omega)]
        cases b9 with
        | false => rfl
        | true =>
          have := (scr_inv2 (hb9.mp rfl)).2.1
          rw [List.length_map] at this
          exact absurd this hl
    kc_close
    refine s_lenL (SqL.of cx9.ru) ?_
    kc_close
    refine ifFalse (by rw [bval]; simp) ?_
    kc_close
    exact hN _ _ ⟨rfl, cx9⟩
  rintro _ H9 ⟨rfl, cx9⟩
  kc_close
  refine s_cut (fun σ' H' => ∃ y7 y8 y9, σ' = stL (some (.ref s0)) (some (.ref c)) (some (.ref su)) (some (.ref fo)) (some (.ref R)) y5 (some (.ref pl1)) y7 y8 y9 ∧ Cx15 K H' c L su fo R p n t m fs as rs) (fun N hN => ?_) ?_
  · have hs9 := cx9.su
    have hf9 := cx9.fo
    refine s_if ?_
    kc_close
    refine ifP (fun _ => ?_) (fun _ => ?_)
    · kc_close
      refine u_take cx9.dr (by omega) (by omega) fun G0 x0 b0 d0 g0 g1 => ?_
      have c0 := cx9.but b0 d0
      kc_close
      refine ifI (fun _ => ?_) (fun _ => ?_)
      · have hs0 := c0.su
        kc_close
        refine s_rng2v (by omega) (by omega) (by omega) (by omega) ?_
        rw [show (n + 1 - 1).toNat = n.toNat by omega]
        refine l_mapR (fun j => V.int (1 + (j : Nat))) (by omega) ?_ ?_
        · intro D N i H' hi sm kk
          kc_close
          exact kk _ (Same.refl _)
        intro D G1 nD z1 eD
        have c1 := c0.same z1
        kc_close
        refine s_tupL (SqL.of eD) fun M1 G2 n2 z2 eM => ?_
        have c2 := c1.same z2
        have hs2' := c2.su
        have hf2' := c2.fo
        have hM2 : SqT K G2 M1 (((List.range n.toNat).map fun j => (1 : Int) + (j : Nat)).map V.int) := by rw [List.map_map]; exact SqT.of eM
        kc_close
        refine s_slT hM2 fun q1 G3 z3 h3 => ?_
        obtain ⟨t1, ht1⟩ : ∃ t1 : Nat, t + 1 = (t1 : Int) := ⟨(t + 1).toNat, by omega⟩
        rw [ht1, cut_to, ← List.map_take] at h3
        kc_close
        intro u1 G4 n4 z4 f4
        kc_close
        intro p1 G5 n5 z5 f5
        have w5 := z3.trans (z4.trans z5)
        kc_close
        refine s_slT (sqt_same w5 hf2') fun q2 G6 z6 h6 => ?_
        have l6 := cutV_length (fs.map V.int) (some (-1)) none
        rw [List.length_map] at l6
        refine s_catA (sqt_same (w5.trans z6) hf2') h6 (by rw [List.length_map]; omega) fun q3 G7 z7 h7 => ?_
        kc_close
        intro u2 G8 n8 z8 f8
        kc_close
        intro p2 G9 n9 z9 f9
        have y9 := w5.trans (z6.trans (z7.trans (z8.trans z9)))
        kc_close
        intro t3 G10 n10 z10 f10
        refine s_catA (sqt_same (y9.trans z10) hf2') (ys := [V.int 0]) (SqT.of f10) (by rw [List.length_map]; show fs.length + 1 ≤ sizeLine; omega) fun q4 G11 z11 h11 => ?_
        kc_close
        intro u3 G12 n12 z12 f12
        kc_close
        intro p3 G13 n13 z13 f13
        have y13 := y9.trans (z10.trans (z11.trans (z12.trans z13)))
        have hs13 := sqt_same y13 hs2'
        kc_close
        intro t4 G14 n14 z14 f14
        refine s_catA (sqt_same (y13.trans z14) hf2') (ys := [V.int (n + 1)]) (SqT.of f14) (by rw [List.length_map]; show fs.length + 1 ≤ sizeLine; omega) fun q5 G15 z15 h15 => ?_
        kc_close
        intro u4 G16 n16 z16 f16
        kc_close
        intro p4 G17 n17 z17 f17
        have y17 := y13.trans (z14.trans (z15.trans (z16.trans z17)))
        kc_close
        intro p5 G18 n18 z18 f18
        have y18 := y17.trans z18
        kc_close
        refine s_tupL (SqL.of (y18 _ _ c2.ru)) fun q6 G19 n19 z19 f19 => ?_
        kc_close
        intro u6 G20 n20 z20 f20
        kc_close
        intro p6 G21 n21 z21 f21
        have y21 := y18.trans (z19.trans (z20.trans z21))
        kc_close
        intro lb G22 n22 z22 f22
        have y22 := y21.trans z22
        have c22 := c2.same y22
        kc_close
        refine u_take c22.dr (by omega) (by omega) fun G23 x23 b23 d23 g23 g24 => ?_
        have c23 := c22.but b23 d23
        have f23 := b23 _ _ (lst_ne c22.dr f22 (.inl (by simp))) f22
        have k5 : TK K G5 G23 := (TK.same (z6.trans (z7.trans (z8.trans (z9.trans (z10.trans (z11.trans (z12.trans (z13.trans (z14.trans (z15.trans (z16.trans (z17.trans (z18.trans (z19.trans (z20.trans (z21.trans z22))))))))))))))))).trans (tk_butD b23 c22.dr)
        have k9 : TK K G9 G23 := (TK.same (z10.trans (z11.trans (z12.trans (z13.trans (z14.trans (z15.trans (z16.trans (z17.trans (z18.trans (z19.trans (z20.trans (z21.trans z22))))))))))))).trans (tk_butD b23 c22.dr)
        have k13 : TK K G13 G23 := (TK.same (z14.trans (z15.trans (z16.trans (z17.trans (z18.trans (z19.trans (z20.trans (z21.trans z22))))))))).trans (tk_butD b23 c22.dr)
        have k17 : TK K G17 G23 := (TK.same (z18.trans (z19.trans (z20.trans (z21.trans z22))))).trans (tk_butD b23 c22.dr)
        have k18 : TK K G18 G23 := (TK.same (z19.trans (z20.trans (z21.trans z22)))).trans (tk_butD b23 c22.dr)
        have k21 : TK K G21 G23 := (TK.same z22).trans (tk_butD b23 c22.dr)
        have bd0 : ∀ gs : List Int, gs.length ≤ 1000 → pl (.tuple [.tuple (gs.map .int), .tuple []]) = true ∧ sz (.tuple [.tuple (gs.map .int), .tuple []]) ≤ 100000 ∧ ht (.tuple [.tuple (gs.map .int), .tuple []]) ≤ 130 := fun gs h => plan_bd (rs := []) (fun r h => by cases h) (by simp) h
        have bads : ∀ r : Addr, (r = p1 ∨ (r = p2 ∧ fs ≠ []) ∨ r = p3 ∨ r = p4 ∨ r = p5 ∨ r = p6) → ∃ d, Im K G23 d (.ref r) ∧ (pl d = true ∧ sz d ≤ 100000 ∧ ht d ≤ 130) ∧ ¬ isScr p n t m d := by
          rintro r (rfl | ⟨rfl, hne⟩ | rfl | rfl | rfl | rfl)
          · refine ⟨_, im_plan (k5 _ _ (SqT.of f5)) (k5 _ _ (sqt_same (z4.trans z5) h3)) (k5 _ _ (SqT.of (z5 _ _ f4))) (ds := []) rfl, bd0 _ ?_, not_foes (few_not ?_)⟩
            · rw [List.length_take, List.length_map, List.length_range]
              omega
            · rw [List.length_take, List.length_map, List.length_range]
              omega
          · obtain ⟨y, hy, ey⟩ := cut_end1 hne
            rw [ey] at h7
            refine ⟨_, im_plan (fs := fs ++ [y]) (k9 _ _ (SqT.of f9)) (k9 _ _ ?_) (k9 _ _ (SqT.of (z9 _ _ f8))) (ds := []) rfl, bd0 _ (by rw [List.length_append]; show _ + 1 ≤ 1000; omega), not_foes (twice_not hy)⟩
            show SqT K G9 q3 ((fs ++ [y]).map V.int)
            rw [List.map_append]
            exact sqt_same (z8.trans z9) h7
          · refine ⟨_, im_plan (fs := fs ++ [0]) (k13 _ _ (SqT.of f13)) (k13 _ _ ?_) (k13 _ _ (SqT.of (z13 _ _ f12))) (ds := []) rfl, bd0 _ (by rw [List.length_append]; show _ + 1 ≤ 1000; omega), not_foes (pty_not (by omega))⟩
            show SqT K G13 q4 ((fs ++ [0]).map V.int)
            rw [List.map_append]
            exact sqt_same (z12.trans z13) h11
          · refine ⟨_, im_plan (fs := fs ++ [n + 1]) (k17 _ _ (SqT.of f17)) (k17 _ _ ?_) (k17 _ _ (SqT.of (z17 _ _ f16))) (ds := []) rfl, bd0 _ (by rw [List.length_append]; show _ + 1 ≤ 1000; omega), not_foes (pty_not (by omega))⟩
            show SqT K G17 q5 ((fs ++ [n + 1]).map V.int)
            rw [List.map_append]
            exact sqt_same (z16.trans z17) h15
          · exact ⟨.tuple [.tuple (fs.map .int)], ⟨_, _, rfl, k18 _ _ (SqT.of f18), _, _, rfl, im_ints c23.fo, rfl⟩, one_bd (by omega), not_len (by simp)⟩
          · exact ⟨.tuple [.tuple (fs.map .int), .tuple (rs.map ruleD), .tuple []], ⟨_, _, rfl, k21 _ _ (SqT.of f21), _, _, rfl, im_ints c23.fo, _, _, rfl, ⟨_, _, rfl, k21 _ _ (SqT.of ((z20.trans z21) _ _ f19)), ims_rules c23.rs⟩, _, _, rfl, ⟨_, _, rfl, k21 _ _ (SqT.of (z21 _ _ f20)), rfl⟩, rfl⟩, three_bd hds (by rw [List.length_map]; exact lrs) (by omega), not_len (by simp)⟩
        kc_close
        refine s_cut (fun σ' H' => ∃ a : Int, σ' = stL (some (.ref s0)) (some (.ref c)) (some (.ref su)) (some (.ref fo)) (some (.ref R)) y5 (some (.ref pl1)) (some (.ref M1)) (some (.ref lb)) (some (.int a)) ∧ H' = G23 ∧ 0 ≤ a ∧ a < 6 ∧ (a = 1 → fs ≠ [])) (fun N' hN' => ?_) ?_
        · have hf23 := c23.fo
          refine s_if ?_
          kc_close
          refine ifI (fun h => ?_) (fun h => ?_)
          · kc_close
            by_cases hm : fs = []
            · first
                | (refine ifTrue (by rw [hm]; rfl) ?_; kc_close; exact hN' _ _ ⟨2, rfl, rfl, by omega, by omega, by omega⟩)
                | (refine ifFalse (by rw [hm]; rfl) ?_; kc_close; exact hN' _ _ ⟨2, rfl, rfl, by omega, by omega, by omega⟩)
            · have hne : (fs.map V.int).isEmpty = false := by cases fs with | nil => exact absurd rfl hm | cons _ _ => rfl
              first
                | (refine ifTrue (by rw [hne]; rfl) ?_; kc_close; exact hN' _ _ ⟨x23, rfl, rfl, g23, g24, fun _ => hm⟩)
                | (refine ifFalse (by rw [hne]; rfl) ?_; kc_close; exact hN' _ _ ⟨x23, rfl, rfl, g23, g24, fun _ => hm⟩)
          · refine iteF ?_
            kc_close
            exact hN' _ _ ⟨x23, rfl, rfl, g23, g24, fun z => absurd z h⟩
        rintro _ G23 ⟨a, rfl, rfl, a0, a6, a1⟩
        kc_close
        have pick : ∃ r : Addr, (r = p1 ∨ (r = p2 ∧ fs ≠ []) ∨ r = p3 ∨ r = p4 ∨ r = p5 ∨ r = p6) ∧ atI [V.ref p1, .ref p2, .ref p3, .ref p4, .ref p5, .ref p6] a = some (.ref r) := by
          rcases (show a = 0 ∨ a = 1 ∨ a = 2 ∨ a = 3 ∨ a = 4 ∨ a = 5 by omega) with rfl | rfl | rfl | rfl | rfl | rfl
          · exact ⟨p1, .inl rfl, rfl⟩
          · exact ⟨p2, .inr (.inl ⟨rfl, a1 rfl⟩), rfl⟩
          · exact ⟨p3, .inr (.inr (.inl rfl)), rfl⟩
          · exact ⟨p4, .inr (.inr (.inr (.inl rfl))), rfl⟩
          · exact ⟨p5, .inr (.inr (.inr (.inr (.inl rfl)))), rfl⟩
          · exact ⟨p6, .inr (.inr (.inr (.inr (.inr rfl)))), rfl⟩
        obtain ⟨r, hr, er⟩ := pick
        refine s_ixL (SqL.of f23) er ?_
        obtain ⟨dd, i1, i2, i3⟩ := bads r hr
        kc_close
        refine u_isScr c23.su ok i1 i2 fun G25 b25 z25 hb25 => ?_
        have hb : b25 = false := by
          cases b25 with
          | false => rfl
          | true => exact absurd (hb25.mp rfl) i3
        subst hb
        kc_close
        exact q _
      · kc_close
        exact hN _ _ ⟨_, _, _, rfl, c0⟩
    · refine iteF ?_
      kc_close
      exact hN _ _ ⟨_, _, _, rfl, cx9⟩
  rintro _ H10 ⟨y7, y8, y9, rfl, cx10⟩
  have hs10 := cx10.su
  have hR10 := cx10.ru
  have las10 := Paired.length cx10.rs
  kc_close
  refine s_if ?_
  kc_close
  by_cases hm : as = []
  · have hne : (as.map V.ref).isEmpty = true := by rw [hm]; rfl
    first
      | (refine ifTrue (by rw [hne]; rfl) ?_; kc_close; exact q _)
      | (refine ifFalse (by rw [hne]; rfl) ?_; kc_close; exact q _)
  have hne : (as.map V.ref).isEmpty = false := by cases as with | nil => exact absurd rfl hm | cons _ _ => rfl
  have lpos : 0 < as.length := List.length_pos_iff.mpr hm
  first
    | refine ifFalse (by rw [hne]; rfl) ?_
    | refine ifTrue (by rw [hne]; rfl) ?_
  kc_close
  refine ifP (fun h => ?_) (fun h => ?_)
  · kc_close
    exact q _
  rw [List.length_map] at h
  kc_close
  refine u_take cx10.dr (by rw [List.length_map]; omega) (by rw [List.length_map]; omega) fun H11 ki b11 d11 g0 g1 => ?_
  rw [List.length_map] at g1
  have cx11 := cx10.but b11 d11
  obtain ⟨k, rfl⟩ : ∃ k : Nat, ki = (k : Int) := ⟨ki.toNat, by omega⟩
  have hk : k < as.length := by omega
  have hr11 := cx11.ru
  have hs11 := cx11.su
  obtain ⟨ra, eA⟩ : ∃ ra, as[k]? = some ra := ⟨_, List.getElem?_eq_getElem hk⟩
  obtain ⟨rr, eRR⟩ : ∃ rr, rs[k]? = some rr := ⟨_, List.getElem?_eq_getElem (by omega)⟩
  have hrule : IsRule K H11 ra rr := paired_get cx11.rs eA eRR
  have hrok : RuleOk p n t m fs rr := hrs rr (List.mem_of_getElem? eRR)
  obtain ⟨A, B, hra, hA, hB⟩ := id hrule
  kc_close
  refine s_ixL (SqL.of hr11) (at_ref eA rfl) ?_
  kc_close
  refine s_slL (SqL.of hr11) fun X1 J1 m1 x1 j1 => ?_
  rw [cut_to, ← List.map_take] at j1
  have cy1 := cx11.same x1
  have hB1 : IsChg K J1 B rr.2 := hB.tk (TK.same x1)
  kc_close
  refine ⟨c, su, fo, B, rfl, L, p, n, t, m, rr.2, cy1.dr, cy1.su, ok, hB1, hrok.2, fun J2 B2 x2 c2 e2 hB2 hx2 => ?_⟩
  kc_close
  intro r2 J3 m3 x3 j3
  kc_close
  intro l2 J4 m4 x4 j4
  have cy2 := cy1.but c2 e2
  have cy4 := (cy2.same x3).same x4
  have j1' := (x3.trans x4) _ _ (c2 _ _ (lst_ne cy1.dr j1 (.inr (.inr ⟨_, rfl⟩))) j1)
  kc_close
  refine s_catL j1' j4 (by rw [List.length_map, List.length_take]; show _ + 1 ≤ sizeLine; omega) fun X2 J5 m5 x5 j5 => ?_
  kc_close
  refine s_slL (SqL.of (x5 _ _ cy4.ru)) fun X3 J6 m6 x6 j6 => ?_
  rw [show ((k : Int) + 1) = ((k + 1 : Nat) : Int) by omega, cut_from, ← List.map_drop] at j6
  refine s_catL (x6 _ _ j5) j6 (by rw [List.length_append, List.length_map, List.length_map, List.length_take, List.length_drop]; show _ + 1 + _ ≤ sizeLine; omega) fun X4 J7 m7 x7 j7 => ?_
  have cy7 := ((cy4.same x5).same x6).same x7
  have k27 : TK K J2 J7 := ((TK.same x3).trans (TK.same x4)).trans ((TK.same x5).trans ((TK.same x6).trans (TK.same x7)))
  have k37 : TK K J3 J7 := (TK.same x4).trans ((TK.same x5).trans ((TK.same x6).trans (TK.same x7)))
  have hA7 : IsT K J7 A rr.1 := k27 _ _ (tk_butD c2 cy1.dr _ _ (sqt_same x1 hA))
  have hr2 : IsRule K J7 r2 (rr.1, x2) := ⟨A, B2, k37 _ _ (SqT.of j3), hA7, hB2.tk k27⟩
  have hG : Paired (IsRule K J7) (as.take k ++ [r2] ++ as.drop (k + 1)) (rs.take k ++ [(rr.1, x2)] ++ rs.drop (k + 1)) := paired_app (paired_app (paired_take cy7.rs k) (.cons hr2 .nil)) (paired_drop cy7.rs (k + 1))
  have j7' : J7 X4 = some (.lst ((as.take k ++ [r2] ++ as.drop (k + 1)).map V.ref)) := by
    rw [j7, List.map_append, List.map_append]
    rfl
  have okG : ∀ r ∈ rs.take k ++ [(rr.1, x2)] ++ rs.drop (k + 1), RuleOk p n t m fs r := fun r hr => by
    rcases List.mem_append.mp hr with hr | hr
    · rcases List.mem_append.mp hr with hr | hr
      · exact hrs r (List.mem_of_mem_take hr)
      · rw [List.mem_singleton.mp hr]
        exact ⟨hrok.1, hx2⟩
    · exact hrs r (List.mem_of_mem_drop hr)
  have lenG : (rs.take k ++ [(rr.1, x2)] ++ rs.drop (k + 1)).length ≤ 40 := by
    rw [List.length_append, List.length_append, List.length_take, List.length_drop]
    show _ + 1 + _ ≤ 40
    omega
  kc_close
  refine s_cut (fun σ' H' => ∃ y13, σ' = stL (some (.ref s0)) (some (.ref c)) (some (.ref su)) (some (.ref fo)) (some (.ref R)) y5 (some (.ref pl1)) y7 y8 y9 (some (.int k)) (some (.ref A)) (some (.ref B)) y13 ∧ Cx15 K H' c L su fo R p n t m fs as rs ∧ IsT K H' A rr.1 ∧ IsChg K H' B rr.2) (fun N hN => ?_) ?_
  · have hf7 := cy7.fo
    refine s_if ?_
    kc_close
    refine s_tupL (SqL.of j7') fun T1 J8 m8 x8 j8 => ?_
    kc_close
    intro T2 J9 m9 x9 j9
    have cy9 := (cy7.same x8).same x9
    have hG9 := L2.Paired.mapP hG fun a x h => IsRule.tk h ((TK.same x8).trans (TK.same x9))
    kc_close
    refine u_isScr cy9.su ok (im_plan (SqT.of j9) cy9.fo (SqT.of (x9 _ _ j8)) (ims_rules hG9)) (plan_bd (fun r hr => ?_) (by rw [List.length_map]; omega) (by omega)) fun J10 b10 x10 hb10 => ?_
    · obtain ⟨x, hx, rfl⟩ := List.mem_map.mp hr
      exact rule_bd (okG x hx)
    have hb : b10 = true := hb10.mpr (isScr_pos fok okG lenG)
    subst hb
    kc_close
    refine ifFalse rfl ?_
    kc_close
    have kf : TK K J7 J10 := ((TK.same x8).trans (TK.same x9)).trans (TK.same x10)
    exact hN _ _ ⟨_, rfl, cy9.same x10, kf _ _ hA7, (hB1.tk ((tk_butD c2 cy1.dr).trans k27)).tk kf⟩
  rintro _ H12 ⟨y13, rfl, cx12, hA12, hB12⟩
  obtain ⟨⟨st, sd, hadr, hsd⟩, hchg⟩ := id hrok
  have hs12 := cx12.su
  have len12 := addr_len hadr
  -- bad
  refine s_seq ?_
  refine s_cut (fun σ' H' => ∃ (y13 : Option V) (lb p1 p2 p3 p4 : Addr) (d1 d2 : PyData), σ' = stL (some (.ref s0)) (some (.ref c)) (some (.ref su)) (some (.ref fo)) (some (.ref R)) y5 (some (.ref pl1)) y7 (some (.ref lb)) y9 (some (.int k)) (some (.ref A)) (some (.ref B)) y13 ∧ Cx15 K H' c L su fo R p n t m fs as rs ∧ IsT K H' A rr.1 ∧ IsChg K H' B rr.2 ∧
    H' lb = some (.lst [.ref p1, .ref p2, .ref p3, .ref p4, .non]) ∧ lb ≠ c ∧ lb ≠ R ∧ Im K H' (.tuple [d1, chgD rr.2]) (.ref p1) ∧ Bd 2 9 d1 ∧ ¬ isAddr n t m d1 ∧ Im K H' (.tuple [.tuple (rr.1.map .int), d2]) (.ref p2) ∧ Bd 3 12 d2 ∧ ¬ ChgP p n t m d2 ∧ Im K H' (.tuple [.tuple (rr.1.map .int)]) (.ref p3) ∧ Im K H' (.tuple [.tuple (rr.1.map .int), chgD rr.2, .int 0]) (.ref p4)) (fun N hN => ?_) ?_
  · kc_close
    refine ⟨c, su, A, rfl, L, p, n, t, m, st, sd, rr.1, cx12.dr, hs12, ok, hA12, hadr, fun G1 v1 d1 w1 e1 i1 bd1 nd1 => ?_⟩
    have z1 := cx12.but w1 e1
    have hs1 := z1.su
    kc_close
    intro p1 G2 n2 w2 f2
    have z2 := z1.same w2
    have hs2 := z2.su
    kc_close
    refine ⟨c, su, B, rfl, L, p, n, t, m, rr.2, z2.dr, hs2, ok, (hB12.tk (tk_butD w1 cx12.dr)).tk (TK.same w2), hchg, fun G3 v2 d2 w3 e3 i3 bd2 nd2 => ?_⟩
    have z3 := z2.but w3 e3
    have k3 : TK K H12 G3 := ((tk_butD w1 cx12.dr).trans (TK.same w2)).trans (tk_butD w3 z2.dr)
    kc_close
    intro p2 G4 n4 w4 f4
    kc_close
    intro p3 G5 n5 w5 f5
    kc_close
    intro p4 G6 n6 w6 f6
    kc_close
    intro lb G7 n7 w7 f7
    have w47 := w4.trans (w5.trans (w6.trans w7))
    have z7 := z3.same w47
    have hA7' := sqt_same w47 (k3 _ _ hA12)
    have hB7' := (hB12.tk k3).tk (TK.same w47)
    have iA : Im K G7 (.tuple (rr.1.map .int)) (.ref A) := im_ints hA7'
    have iB := im_chg hB7'
    have k17 : TK K G1 G7 := (TK.same w2).trans ((tk_butD w3 z2.dr).trans (TK.same w47))
    have k27' : TK K G2 G7 := (tk_butD w3 z2.dr).trans (TK.same w47)
    kc_close
    refine hN _ _ ⟨_, lb, p1, p2, p3, p4, d1, d2, rfl, z7, hA7', hB7', f7, ?_, ?_, ⟨_, _, rfl, k27' _ _ (SqT.of f2), _, _, rfl, i1.tk k17, _, _, rfl, iB, rfl⟩, bd1, nd1, ⟨_, _, rfl, sqt_same (w5.trans (w6.trans w7)) (SqT.of f4), _, _, rfl, iA, _, _, rfl, i3.tk (TK.same w47), rfl⟩, bd2, nd2, ⟨_, _, rfl, sqt_same (w6.trans w7) (SqT.of f5), _, _, rfl, iA, rfl⟩, ⟨_, _, rfl, sqt_same w7 (SqT.of f6), _, _, rfl, iA, _, _, rfl, iB, _, _, rfl, rfl, rfl⟩⟩
    · exact lst_ne z7.dr f7 (.inl (by simp))
    · intro z
      have := z7.ru
      rw [← z, f7] at this
      have e := HO.lst.inj (Option.some.inj this)
      have m : V.non ∈ as.map V.ref := by rw [← e]; simp
      obtain ⟨_, _, e⟩ := List.mem_map.mp m
      cases e
  rintro _ H13 ⟨y14, lb, p1, p2, p3, p4, d1, d2, rfl, cx13, hA13, hB13, f13, hlc, hlR, j1i, bd1, nd1, j2i, bd2, nd2, j3i, j4i⟩
  have hs13 := cx13.su
  have hf13 := cx13.fo
  obtain ⟨rrest, err⟩ := addr_cons hadr
  kc_close
  refine s_rng2v (by omega) (by omega) (by omega) (by omega) ?_
  rw [show (n + 1 - 1).toNat = n.toNat by omega]
  refine l_range (fun D i H' => H13 D = none ∧ Same H13 H' ∧ ∃ acc : List Int, H' D = some (.lst (acc.map V.int)) ∧ (∀ x ∈ acc, x ∉ fs) ∧ (acc = [] → ∀ j : Nat, j < i → (1 + (j : Int)) ∈ fs) ∧ acc.length ≤ i) ?_ ?_ ?_
  · intro D H' nD z1 eD
    exact ⟨nD, z1, [], eD, fun x h => (by cases h), fun _ j h => absurd h (Nat.not_lt_zero j), Nat.le_refl _⟩
  · rintro D i H' hi ⟨nD, z1, acc, eD, a1, a2, a3⟩
    have hf := sqt_same z1 hf13
    kc_close
    refine s_notInI (.inr hf) ?_
    kc_close
    by_cases hm : (1 + (i : Int)) ∈ fs
    · refine ifFalse (by simp [hm]) ?_
      exact ⟨nD, z1, acc, eD, a1, fun e j hj => (if h : j < i then a2 e j h else by rw [show j = i by omega]; exact hm), by omega⟩
    · refine ifTrue (by simp [hm]) ?_
      kc_close
      refine s_lcEnd eD (by rw [List.length_map]; omega) fun H4 b4 e4 => ⟨nD, But.same b4 z1 nD, acc ++ [1 + (i : Int)], by rw [List.map_append]; exact e4, fun x hx => ?_, fun e => by simp at e, by rw [List.length_append]; show _ + 1 ≤ _; omega⟩
      rcases List.mem_append.mp hx with hx | hx
      · exact a1 x hx
      · rw [List.mem_singleton.mp hx]
        exact hm
  rintro D H14 ⟨nD, z14, acc, eD, a1, a2, a3⟩
  obtain ⟨fr, accr, rfl⟩ : ∃ fr r, acc = fr :: r := by
    cases acc with
    | cons x r => exact ⟨x, r, rfl⟩
    | nil =>
      have := pig n.toNat fs (a2 rfl)
      omega
  have hfr := a1 fr (List.mem_cons_self ..)
  have cx14 := cx13.same z14
  have hA14 := sqt_same z14 hA13
  have f14 := z14 _ _ f13
  have hlD : lb ≠ D := fun z => by
    rw [z] at f13
    rw [nD] at f13
    cases f13
  kc_close
  refine s_slT hA14 fun q1 G1 z1 h1 => ?_
  rw [show (1 : Int) = ((1 : Nat) : Int) from rfl, cut_to, err] at h1
  kc_close
  refine s_ixL (SqL.of (z1 _ _ eD)) at_c0 ?_
  kc_close
  intro q2 G2 n2 z2 h2
  refine s_catA (sqt_same z2 h1) (SqT.of h2) (by show 1 + 1 ≤ sizeLine; omega) fun q3 G3 z3 h3 => ?_
  kc_close
  refine s_slT (sqt_same (z1.trans (z2.trans z3)) hA14) fun q4 G4 z4 h4 => ?_
  rw [show (2 : Int) = ((2 : Nat) : Int) from rfl, cut_from, err] at h4
  refine s_catA (sqt_same z4 h3) h4 (by rw [List.length_append]; have := congrArg List.length err; rw [List.length_cons, List.length_cons] at this; rw [List.length_drop, List.length_map, List.length_take, List.length_map, List.length_cons, List.length_cons]; show _ + 1 + _ ≤ _; omega) fun q5 G5 z5 h5 => ?_
  kc_close
  intro p5 G6 n6 z6 h6
  have hlL : lb ≠ L := by
    intro z
    obtain ⟨ns', _, _, _, _, e2, _, _⟩ := cx13.dr
    rw [← z, f13] at e2
    have e := HO.lst.inj (Option.some.inj e2)
    have m : V.non ∈ ns'.map V.int := by rw [← e]; simp
    obtain ⟨_, _, e⟩ := List.mem_map.mp m
    cases e
  have w6 := z1.trans (z2.trans (z3.trans (z4.trans (z5.trans z6))))
  kc_close
  refine s_append (w6 _ _ f14) (by show 5 < sizeLine; omega) fun G7 b7 e7 => ?_
  have k6 : TK K G6 G7 := TK.but b7 (w6 _ _ f14)
  have k14 : TK K H14 G7 := (TK.same w6).trans k6
  have y6 := cx14.same w6
  have y7 : Cx15 K G7 c L su fo R p n t m fs as rs := ⟨y6.dr.but b7 hlc hlL, k6 _ _ y6.su, k6 _ _ y6.fo, b7 _ _ (Ne.symm hlR) y6.ru, L2.Paired.mapP y6.rs fun a x h => h.tk k6⟩
  kc_close
  intro il G8 n8 z8 f8
  have y8 := y7.same z8
  kc_close
  refine u_take y8.dr (by omega) (by omega) fun G9 x9 b9 d9 g9 g10 => ?_
  have y9 := y8.but b9 d9
  have k9 : TK K G7 G9 := (TK.same z8).trans (tk_butD b9 y8.dr)
  obtain ⟨av, av0, av1, eav⟩ := at8v g9 g10
  kc_close
  refine s_ixL (SqL.of (b9 _ _ (lst_ne y8.dr f8 (.inl (by simp))) f8)) eav ?_
  have f9 : G9 lb = some (.lst ([.ref p1, .ref p2, .ref p3, .ref p4, .non] ++ [.ref p5])) := b9 _ _ hlc (z8 _ _ e7)
  have kk : TK K H13 G9 := ((TK.same z14).trans k14).trans k9
  have cb := chg_bd hchg
  have bads : ∃ v d, atI ([V.ref p1, .ref p2, .ref p3, .ref p4, .non] ++ [.ref p5]) av = some v ∧ Im K G9 d v ∧ Bd 4 30 d ∧ ¬ RuleP p n t m fs d := by
    rcases (show av = 0 ∨ av = 1 ∨ av = 2 ∨ av = 3 ∨ av = 4 ∨ av = 5 by omega) with rfl | rfl | rfl | rfl | rfl | rfl
    · exact ⟨_, _, rfl, j1i.tk kk, (bd_2 (bd1.mono (show 2 ≤ 3 by omega) (Nat.le_refl _)) cb).mono (by omega) (by omega), rp_addr nd1⟩
    · exact ⟨_, _, rfl, j2i.tk kk, (bd_2 ((bd_ints rr.1).mono (show 2 ≤ 3 by omega) (Nat.le_refl _)) bd2).mono (by omega) (by omega), rp_chg nd2⟩
    · exact ⟨_, _, rfl, j3i.tk kk, (bd_t1 (bd_ints rr.1)).mono (by omega) (by omega), rp_len (by simp)⟩
    · exact ⟨_, _, rfl, j4i.tk kk, (bd_t3 ((bd_ints rr.1).mono (show 2 ≤ 3 by omega) (Nat.le_refl _)) cb ((bd_i1 0).mono (show 1 ≤ 3 by omega) (Nat.le_refl _))).mono (by omega) (by omega), rp_len (by simp)⟩
    · exact ⟨.non, .none, rfl, rfl, ⟨by show 1 ≤ 4; omega, by show 1 ≤ 30; omega, rfl⟩, rp_none⟩
    · refine ⟨.ref p5, .tuple [.tuple ((st :: fr :: rrest).map .int), chgD rr.2], rfl, ⟨_, _, rfl, k9 _ _ (k6 _ _ (SqT.of h6)), _, _, rfl, im_ints (k9 _ _ (k6 _ _ (sqt_same z6 ?_))), _, _, rfl, im_chg (hB13.tk kk), rfl⟩, (bd_2 ((bd_ints _).mono (show 2 ≤ 3 by omega) (Nat.le_refl _)) cb).mono (by omega) ?_, rp_sender hfr⟩
      · exact h5
      · have := congrArg List.length err
        rw [List.length_cons, List.length_cons] at this ⊢
        omega
  obtain ⟨v, d, eat, iv, bv, nv⟩ := bads
  kc_close
  refine s_ixL (SqL.of f9) eat ?_
  kc_close
  refine s_slL (SqL.of y9.ru) fun X1 J1 m1 x1 j1 => ?_
  rw [cut_to, ← List.map_take] at j1
  kc_close
  intro l2 J2 m2 x2 j2
  refine s_catL (x2 _ _ j1) j2 (by rw [List.length_map, List.length_take]; show _ + 1 ≤ sizeLine; omega) fun X2 J3 m3 x3 j3 => ?_
  kc_close
  refine s_slL (SqL.of ((x1.trans (x2.trans x3)) _ _ y9.ru)) fun X3 J4 m4 x4 j4 => ?_
  rw [show ((k : Int) + 1) = ((k + 1 : Nat) : Int) by omega, cut_from, ← List.map_drop] at j4
  refine s_catL (x4 _ _ j3) j4 (by rw [List.length_append, List.length_map, List.length_map, List.length_take, List.length_drop]; show _ + 1 + _ ≤ sizeLine; omega) fun X4 J5 m5 x5 j5 => ?_
  kc_close
  refine s_tupL (SqL.of j5) fun T1 J6 m6 x6 j6 => ?_
  kc_close
  intro T2 J7 m7 x7 j7
  have xx := x1.trans (x2.trans (x3.trans (x4.trans (x5.trans (x6.trans x7)))))
  have yf := y9.same xx
  have hsf := yf.su
  have irs : Ims K J7 ((rs.take k).map ruleD ++ [d] ++ (rs.drop (k + 1)).map ruleD) ((as.take k).map V.ref ++ [v] ++ (as.drop (k + 1)).map V.ref) := ((ims_rules (paired_take yf.rs k)).app (.one (iv.tk (TK.same xx)))).app (ims_rules (paired_drop yf.rs (k + 1)))
  kc_close
  refine u_isScr hsf ok (im_plan (SqT.of j7) yf.fo (SqT.of (x7 _ _ j6)) irs) (plan_bd (fun r hr => ?_) ?_ (by omega)) fun J8 b8 x8 hb8 => ?_
  · rcases List.mem_append.mp hr with hr | hr
    · rcases List.mem_append.mp hr with hr | hr
      · obtain ⟨x, hx, rfl⟩ := List.mem_map.mp hr
        exact rule_bd (hrs x (List.mem_of_mem_take hx))
      · rw [List.mem_singleton.mp hr]
        exact bv
    · obtain ⟨x, hx, rfl⟩ := List.mem_map.mp hr
      exact rule_bd (hrs x (List.mem_of_mem_drop hx))
  · rw [List.length_append, List.length_append, List.length_map, List.length_map, List.length_take, List.length_drop]
    show _ + 1 + _ ≤ 1000
    omega
  have hb : b8 = false := by
    cases b8 with
    | false => rfl
    | true => exact absurd (hb8.mp rfl) (not_rule (by simp) nv)
  subst hb
  kc_close
  exact q _
end
end K1
end
section
open PySem PySem.Spec PyProof.Rows L2 Z
local macro_rules | `(tactic| ktr_room) => `(tactic| first
  | assumption
  | (apply SqT.of; assumption)
  | (apply SqL.of; assumption)
  | (apply sqt_same; assumption; ktr_room)
  | (apply sql_same; assumption; ktr_room)
  | (apply sqt_but; assumption; assumption; ktr_room)
  | (apply sql_but; assumption; assumption; ktr_room)
  | (apply Same.of_; assumption; ktr_room)
  | (apply But.of_; assumption; assumption; ktr_room)
  | exact same_refl
  | exact but_refl
  | (apply same_tr; assumption; ktr_room)
  | (apply same_but; assumption; ktr_room; assumption)
  | (apply but_tr; assumption; ktr_room)
  | (apply but_trB; assumption; ktr_room))
local macro_rules | `(tactic| ktr_units) => `(tactic| first | with_reducible assumption | omega | rfl | exact ⟨by omega, by omega⟩ | exact .inl ⟨by omega, by omega⟩ | exact .inr ⟨by omega, by omega⟩ | exact ⟨by decide, by decide, by decide⟩ | exact Nat.le_of_ble_eq_true rfl | decide)
local macro_rules | `(tactic| kc_close) => `(tactic| repeat (with_reducible first
  | refine s_var (by with_unfolding_all rfl) ?_
  | refine s_c ?_
  | refine s_op ?_
  | refine s_rI0 ?_
  | refine s_asg ?_
  | refine s_gname ?_
  | refine s_seq ?_
  | refine s_cons ?_
  | refine s_nil ?_
  | refine s_call ?_
  | refine s_ret ?_
  | o_fieldsN
  | refine s_test ?_
  | refine s_bl ?_
  | refine s_rI (by with_unfolding_all (ktr_units)) ?_
  | refine s_rEq rfl ?_
  | refine s_rNe rfl ?_
  | refine s_cb ?_
  | refine s_int1 ?_
  | refine s_intB ?_
  | refine s_max2 ?_
  | refine s_min2 ?_
  | refine s_tup ?_
  | refine s_lst ?_
  | refine s_newT (by with_unfolding_all first | decide | exact Nat.le_of_ble_eq_true rfl) ?_
  | refine s_newL (by with_unfolding_all first | decide | exact Nat.le_of_ble_eq_true rfl) ?_
  | refine s_ixT (by ktr_room) (by with_unfolding_all rfl) ?_
  | refine s_ixL (by ktr_room) (by with_unfolding_all rfl) ?_
  | refine s_lenT (by ktr_room) ?_
  | refine s_lenL (by ktr_room) ?_
  | refine s_un ?_
  | refine s_rU ?_
  | refine s_and ?_
  | refine s_or ?_
  | refine s_not ?_
  | refine s_tB ?_
  | refine s_tru ?_
  | refine s_drop ?_
  | refine s_next ?_
  | refine s_for ?_
  | refine s_rng1 ?_
  | refine s_rng2 ?_
  | refine s_rng3 ?_
  | refine s_ilist ?_
  | refine s_itup ?_
  | refine s_iany ?_
  | refine s_ienum ?_
  | refine s_irev ?_
  | refine s_gcons ?_
  | refine s_gnil ?_
  | refine s_gtup (by ktr_room) (by with_unfolding_all rfl) ?_
  | refine s_gsub ?_
  | refine s_augS ?_
  | refine s_aug (by with_unfolding_all rfl) ?_
  | refine s_ipI ?_
  | refine s_bm ?_
  | refine s_bm0 ?_
  | refine s_tyL (by ktr_room) ?_
  | refine s_tyL0 (by ktr_room) ?_
  | refine s_sl ?_
  | refine s_part ?_
  | refine s_partv ?_
  | refine s_noPart ?_
  | refine s_lc ?_
  | refine s_yes ?_
  | refine s_wipe (by with_unfolding_all rfl) ?_
  | refine iteT ?_
  | refine s_retN ?_
  | refine s_isN ?_
  | refine s_truB ?_
  | refine s_isB2 ?_
  | refine s_notB2 ?_
  | refine s_revT ?_
  | refine s_andV ?_
  | refine s_orV ?_
  | refine s_ifE ?_
  | refine s_notK ?_
  | refine s_notN ?_
  | refine s_truL (by ktr_room) ?_
  | refine s_truT (by ktr_room) ?_))
open K1
local macro_rules | `(tactic| ktr_room) => `(tactic| first
  | (apply DR.same; assumption; ktr_room)
  | (apply sqt_butD; assumption; ktr_room; ktr_room))
namespace K1
def wholeB (d : PyData) (lo hi : Int) : Bool := match d with
  | .int i => decide (lo ≤ i) && decide (i ≤ hi)
  | _ => false
theorem map_int_inj : ∀ {xs ys : List Int}, xs.map PyData.int = ys.map PyData.int → xs = ys
  | [], [], _ => rfl
  | [], _ :: _, h => by cases h
  | _ :: _, [], h => by cases h
  | x :: xs, y :: ys, h => by
    injection h with h1 h2
    injection h1 with h1
    rw [h1, map_int_inj h2]
theorem whole_int {d : PyData} {lo hi : Int} (h : wholeB d lo hi = true) : ∃ i, d = .int i ∧ lo ≤ i ∧ i ≤ hi := by
  cases d with
  | int i =>
    have h' : (decide (lo ≤ i) && decide (i ≤ hi)) = true := h
    rw [Bool.and_eq_true, decide_eq_true_eq, decide_eq_true_eq] at h'
    exact ⟨i, rfl, h'⟩
  | _ => cases h
theorem whole_of {i lo hi : Int} (h0 : lo ≤ i) (h1 : i ≤ hi) : wholeB (.int i) lo hi = true := by
  show (decide (lo ≤ i) && decide (i ≤ hi)) = true
  rw [decide_eq_true h0, decide_eq_true h1]
  rfl
theorem all_whole {ds : List PyData} {lo hi : Int} (h : ∀ d ∈ ds, wholeB d lo hi = true) : ∃ xs : List Int, ds = xs.map .int ∧ ∀ x ∈ xs, lo ≤ x ∧ x ≤ hi := by
  induction ds with
  | nil => exact ⟨[], rfl, fun x h => (by cases h)⟩
  | cons d r ih =>
    obtain ⟨xs, e, k⟩ := ih fun d m => h d (List.mem_cons_of_mem _ m)
    obtain ⟨i, ei, h0⟩ := whole_int (h d (List.mem_cons_self ..))
    refine ⟨i :: xs, by rw [ei, e]; rfl, fun x m => ?_⟩
    rcases List.mem_cons.mp m with m | m
    · rw [m]
      exact h0
    · exact k x m
theorem Ims.ints {K : PySem.W.Frag} {H : Hp} : ∀ {xs : List Int} {vs : List V}, Ims K H (xs.map .int) vs → vs = xs.map V.int
  | [], vs, h => h
  | x :: xs, vs, h => by
    obtain ⟨v, r, e, i, is⟩ := h
    rw [e, show v = V.int x from i, Ims.ints is]
    rfl
theorem dec_ne_iff {a b : Int} {p : Prop} (h : a ≠ b ↔ p) : ((!decide (V.int a = V.int b)) = true ↔ p) := by
  rw [← h]
  by_cases e : a = b
  · subst e
    simp
  · rw [decide_eq_false (fun z => e (V.int.inj z))]
    exact ⟨fun _ => e, fun _ => rfl⟩
def RulePx (p n t m : Int) (foes : List Int) (d : PyData) : Prop := ∃ ad cd st i xs, d = .tuple [ad, cd] ∧ ad = .tuple (xs.map .int) ∧ M.AddrAt n t m st i xs ∧ i ∈ foes ∧ ChgP p n t m cd
structure ScrPx (p n t m : Int) (foes : List Int) (rs : List PyData) : Prop where
  asc : foes.Pairwise (· < ·)
  pty : ∀ i ∈ foes, M.Pty n i
  few : (foes.length : Int) ≤ t
  len : rs.length ≤ 40
  rule : ∀ r ∈ rs, RulePx p n t m foes r
theorem rules_of {p n t m : Int} {foes : List Int} : ∀ {rs : List PyData}, (∀ r ∈ rs, RulePx p n t m foes r) → ∃ rules : List (List Int × M.Chg), rs = rules.map ruleD ∧ ∀ r ∈ rules, (∃ st i, M.AddrAt n t m st i r.1 ∧ i ∈ foes) ∧ M.ChgOk p n t m r.2
  | [], _ => ⟨[], rfl, fun r h => (by cases h)⟩
  | d :: rs, h => by
    obtain ⟨rules, e, k⟩ := rules_of fun r m => h r (List.mem_cons_of_mem _ m)
    obtain ⟨ad, cd, st, i, xs, rfl, rfl, ha, hi, c, rfl, hc⟩ := h d (List.mem_cons_self ..)
    refine ⟨(xs, c) :: rules, by rw [e]; rfl, fun r m => ?_⟩
    rcases List.mem_cons.mp m with m | m
    · rw [m]
      exact ⟨⟨st, i, ha, hi⟩, hc⟩
    · exact k r m
theorem isScr_iff {p n t m : Int} {foes : List Int} {rs : List PyData} : isScr p n t m (.tuple [.tuple (foes.map .int), .tuple rs]) ↔ ScrPx p n t m foes rs := by
  constructor
  · rintro ⟨⟨fs, rules⟩, e, h⟩
    injection e with e
    injection e with e1 e2
    injection e2 with e2
    injection e1 with e1
    injection e2 with e2
    have ef := map_int_inj e1
    have e2 : rs = rules.map ruleD := e2
    have ef : foes = fs := ef
    subst ef e2
    refine ⟨h.asc, h.pty, h.few, by rw [List.length_map]; exact h.len, fun r m => ?_⟩
    obtain ⟨⟨x, c⟩, mm, rfl⟩ := List.mem_map.mp m
    obtain ⟨⟨st, i, ha, hi⟩, hc⟩ := h.rule _ mm
    exact ⟨_, _, st, i, x, rfl, rfl, ha, hi, c, rfl, hc⟩
  · intro h
    obtain ⟨rules, e, k⟩ := rules_of h.rule
    subst e
    exact ⟨⟨foes, rules⟩, rfl, h.asc, h.pty, h.few, by have := h.len; rw [List.length_map] at this; exact this, k⟩
theorem scr_form {p n t m : Int} {d : PyData} (h : isScr p n t m d) : ∃ foes rs, d = .tuple [.tuple (foes.map .int), .tuple rs] ∧ ScrPx p n t m foes rs := by
  obtain ⟨s, rfl, k⟩ := h
  exact ⟨s.foes, s.rules.map ruleD, rfl, isScr_iff.mp ⟨s, rfl, k⟩⟩
theorem chg_two {p n t m : Int} {x : Str} {e : PyData} : ChgP p n t m (.tuple [.str x, e]) ↔ ((x = "is" ∨ x = "add") ∧ wholeB e 0 (p - 1) = true) ∨ (x = "copy" ∧ isAddr n t m e) := by
  constructor
  · rintro ⟨c, h, k⟩
    cases c with
    | is v =>
      injection h with h
      injection h with h1 h2
      injection h2 with h2
      injection h1 with h1
      subst h1 h2
      exact .inl ⟨.inl rfl, whole_of k.1 (by have := k.2; omega)⟩
    | add v =>
      injection h with h
      injection h with h1 h2
      injection h2 with h2
      injection h1 with h1
      subst h1 h2
      exact .inl ⟨.inr rfl, whole_of k.1 (by have := k.2; omega)⟩
    | drop =>
      injection h with h
      injection h with h1 h2
      cases h2
    | copy xs =>
      injection h with h
      injection h with h1 h2
      injection h2 with h2
      injection h1 with h1
      subst h1 h2
      obtain ⟨s, i, k⟩ := k
      exact .inr ⟨rfl, s, i, xs, rfl, k⟩
  · rintro (⟨rfl | rfl, h⟩ | ⟨rfl, st, i, xs, rfl, h⟩)
    · obtain ⟨v, rfl, h0, h1⟩ := whole_int h
      exact ⟨.is v, rfl, h0, by omega⟩
    · obtain ⟨v, rfl, h0, h1⟩ := whole_int h
      exact ⟨.add v, rfl, h0, by omega⟩
    · exact ⟨.copy xs, rfl, st, i, h⟩
end K1
end
section
open PySem PySem.Spec PyProof.Rows L2 Z
local macro_rules | `(tactic| ktr_room) => `(tactic| first
  | assumption
  | (apply SqT.of; assumption)
  | (apply SqL.of; assumption)
  | (apply sqt_same; assumption; ktr_room)
  | (apply sql_same; assumption; ktr_room)
  | (apply sqt_but; assumption; assumption; ktr_room)
  | (apply sql_but; assumption; assumption; ktr_room)
  | (apply Same.of_; assumption; ktr_room)
  | (apply But.of_; assumption; assumption; ktr_room)
  | exact same_refl
  | exact but_refl
  | (apply same_tr; assumption; ktr_room)
  | (apply same_but; assumption; ktr_room; assumption)
  | (apply but_tr; assumption; ktr_room)
  | (apply but_trB; assumption; ktr_room))
local macro_rules | `(tactic| ktr_units) => `(tactic| first | with_reducible assumption | omega | rfl | exact ⟨by omega, by omega⟩ | exact .inl ⟨by omega, by omega⟩ | exact .inr ⟨by omega, by omega⟩ | exact ⟨by decide, by decide, by decide⟩ | exact Nat.le_of_ble_eq_true rfl | decide)
local macro_rules | `(tactic| kc_close) => `(tactic| repeat (with_reducible first
  | refine s_var (by with_unfolding_all rfl) ?_
  | refine s_c ?_
  | refine s_op ?_
  | refine s_rI0 ?_
  | refine s_asg ?_
  | refine s_gname ?_
  | refine s_seq ?_
  | refine s_cons ?_
  | refine s_nil ?_
  | refine s_call ?_
  | refine s_ret ?_
  | o_fieldsN
  | refine s_test ?_
  | refine s_bl ?_
  | refine s_rI (by with_unfolding_all (ktr_units)) ?_
  | refine s_rEq rfl ?_
  | refine s_rNe rfl ?_
  | refine s_cb ?_
  | refine s_int1 ?_
  | refine s_intB ?_
  | refine s_max2 ?_
  | refine s_min2 ?_
  | refine s_tup ?_
  | refine s_lst ?_
  | refine s_newT (by with_unfolding_all first | decide | exact Nat.le_of_ble_eq_true rfl) ?_
  | refine s_newL (by with_unfolding_all first | decide | exact Nat.le_of_ble_eq_true rfl) ?_
  | refine s_ixT (by ktr_room) (by with_unfolding_all rfl) ?_
  | refine s_ixL (by ktr_room) (by with_unfolding_all rfl) ?_
  | refine s_lenT (by ktr_room) ?_
  | refine s_lenL (by ktr_room) ?_
  | refine s_un ?_
  | refine s_rU ?_
  | refine s_and ?_
  | refine s_or ?_
  | refine s_not ?_
  | refine s_tB ?_
  | refine s_tru ?_
  | refine s_drop ?_
  | refine s_next ?_
  | refine s_for ?_
  | refine s_rng1 ?_
  | refine s_rng2 ?_
  | refine s_rng3 ?_
  | refine s_ilist ?_
  | refine s_itup ?_
  | refine s_iany ?_
  | refine s_ienum ?_
  | refine s_irev ?_
  | refine s_gcons ?_
  | refine s_gnil ?_
  | refine s_gtup (by ktr_room) (by with_unfolding_all rfl) ?_
  | refine s_gsub ?_
  | refine s_augS ?_
  | refine s_aug (by with_unfolding_all rfl) ?_
  | refine s_ipI ?_
  | refine s_bm ?_
  | refine s_bm0 ?_
  | refine s_tyL (by ktr_room) ?_
  | refine s_tyL0 (by ktr_room) ?_
  | refine s_sl ?_
  | refine s_part ?_
  | refine s_partv ?_
  | refine s_noPart ?_
  | refine s_lc ?_
  | refine s_yes ?_
  | refine s_wipe (by with_unfolding_all rfl) ?_
  | refine iteT ?_
  | refine s_retN ?_
  | refine s_isN ?_
  | refine s_truB ?_
  | refine s_isB2 ?_
  | refine s_notB2 ?_
  | refine s_revT ?_
  | refine s_andV ?_
  | refine s_orV ?_
  | refine s_ifE ?_
  | refine s_notK ?_
  | refine s_notN ?_
  | refine s_truL (by ktr_room) ?_
  | refine s_truT (by ktr_room) ?_))
open K1
local macro_rules | `(tactic| ktr_room) => `(tactic| first
  | (apply DR.same; assumption; ktr_room)
  | (apply sqt_butD; assumption; ktr_room; ktr_room))
namespace K1
section
variable {P : Program} {w : World} {K : PySem.W.Frag} {mg : Str → Option Value} {base : Heap}
def spIsInteger (K : PySem.W.Frag) : Sp := fun vs H Q _ => ∃ (v : V), vs = [v] ∧ ∃ d, Im K H d v ∧ pl d = true ∧ Q (.bl (isInt d)) H
theorem ok_is_integer (T : NoB mg) (h : Has K mg "is_integer" (topS 1) ["value"]) : Good P w K mg base 1 "is_integer" ["value"] (spIsInteger K) := by
  have sc : FnScope ["value"] ["value"] (defScope (topS 1)) := ⟨rfl, rfl, rfl, by decide +kernel, rfl, by decide +kernel, by decide +kernel⟩
  have nd := sc.nd
  refine h.good sc (fun vs H Q E h => by obtain ⟨v, rfl, _⟩ := h; rfl) (fun f cdv A outer s H vs Q E hr h => ?_)
  obtain ⟨v, rfl, hyp⟩ := h
  refine ⟨_, (pss_one (ps_ret (pe_and (pe_callB (c_isiK K) (by rfl) T.n_isinstance (by decide +kernel) (pa_cons (pv 0) (pa_cons (pe_bltn (v := .ty "int") (by rfl) T.n_int (by decide +kernel) rfl) pa_nil))) (pe_one (pe_notK K (pe_callB (c_isiK K) (by rfl) T.n_isinstance (by decide +kernel) (pa_cons (pv 0) (pa_cons (pe_bltn (v := .ty "bool") (by rfl) T.n_bool (by decide +kernel) rfl) pa_nil)))))))), ?_⟩
  try dsimp only [cxOf, Cx.wish]
  obtain ⟨d, hd, pd, q⟩ := hyp
  kc_close
  refine s_isI hd ?_
  kc_close
  cases d with
  | int i =>
    have e : v = .int i := hd
    subst e
    refine iteT ?_
    kc_close
    refine s_isi (b := false) (by decide +kernel) ?_
    kc_close
    exact q
  | bool b => cases pd
  | none => refine iteF ?_; exact q
  | str _ => refine iteF ?_; exact q
  | tuple _ => refine iteF ?_; exact q
  | list _ => cases pd
  | dict _ => cases pd
def spIsBetween (K : PySem.W.Frag) : Sp := fun vs H Q _ => ∃ (v : V) (lo hi : Int), vs = [v, .int lo, .int hi] ∧ ∃ d, Im K H d v ∧ pl d = true ∧ Q (.bl (wholeB d lo hi)) H
theorem ok_is_between (h : Has K mg "is_between" (topS 2) ["value", "low", "high"]) (G_is_integer : Good P w K mg base 1 "is_integer" ["value"] (spIsInteger K)) : Good P w K mg base 2 "is_between" ["value", "low", "high"] (spIsBetween K) := by
  have sc : FnScope ["value", "low", "high"] ["value", "low", "high"] (defScope (topS 2)) := ⟨rfl, rfl, rfl, by decide +kernel, rfl, by decide +kernel, by decide +kernel⟩
  have nd := sc.nd
  refine h.good sc (fun vs H Q E h => by obtain ⟨v, lo, hi, rfl, _⟩ := h; rfl) (fun f cdv A outer s H vs Q E hr h => ?_)
  obtain ⟨v, lo, hi, rfl, hyp⟩ := h
  refine ⟨_, (pss_one (ps_ret (pe_and (pe_callG G_is_integer (hr.mono (by first | decide | omega)) (by rfl) (pa_cons (pv 0) pa_nil)) (pe_one (pe_chain op_le op_le (pv 1) (pv 0) (pv 2)))))), ?_⟩
  try dsimp only [cxOf, Cx.wish]
  obtain ⟨d, hd, pd, q⟩ := hyp
  kc_close
  refine ⟨v, rfl, d, hd, pd, ?_⟩
  kc_close
  cases d with
  | int i =>
    have e : v = .int i := hd
    subst e
    have q' : Q (.bl (decide (lo ≤ i) && decide (i ≤ hi))) H := q
    refine iteT ?_
    refine s_chain ?_
    kc_close
    refine ifP (fun h => ?_) (fun h => ?_)
    · kc_close
      rw [decide_eq_true h, Bool.true_and] at q'
      exact q'
    · rw [decide_eq_false h, Bool.false_and] at q'
      exact q'
  | bool b => cases pd
  | none => refine iteF ?_; exact q
  | str _ => refine iteF ?_; exact q
  | tuple _ => refine iteF ?_; exact q
  | list _ => cases pd
  | dict _ => cases pd
def tupB (d : PyData) (lo hi : Int) : Bool := match d with
  | .tuple ds => decide (lo ≤ ds.length) && decide ((ds.length : Int) ≤ hi)
  | _ => false
theorem tup_of {d : PyData} {lo hi : Int} (h : tupB d lo hi = true) : ∃ ds, d = .tuple ds ∧ lo ≤ ds.length ∧ (ds.length : Int) ≤ hi := by
  cases d with
  | tuple ds =>
    have h' : (decide (lo ≤ ds.length) && decide ((ds.length : Int) ≤ hi)) = true := h
    rw [Bool.and_eq_true, decide_eq_true_eq, decide_eq_true_eq] at h'
    exact ⟨ds, rfl, h'⟩
  | _ => cases h
theorem tupB_of {ds : List PyData} {lo hi : Int} (h0 : lo ≤ ds.length) (h1 : (ds.length : Int) ≤ hi) : tupB (.tuple ds) lo hi = true := by
  show (decide (lo ≤ ds.length) && decide ((ds.length : Int) ≤ hi)) = true
  rw [decide_eq_true h0, decide_eq_true h1]
  rfl
def spIsTuple (K : PySem.W.Frag) : Sp := fun vs H Q _ => ∃ (v : V) (lo hi : Int), vs = [v, .int lo, .int hi] ∧ ∃ d, Im K H d v ∧ pl d = true ∧ Q (.bl (tupB d lo hi)) H
theorem ok_is_tuple (T : NoB mg) (h : Has K mg "is_tuple" (topS 3) ["value", "least", "most"]) : Good P w K mg base 1 "is_tuple" ["value", "least", "most"] (spIsTuple K) := by
  have sc : FnScope ["value", "least", "most"] ["value", "least", "most"] (defScope (topS 3)) := ⟨rfl, rfl, rfl, by decide +kernel, rfl, by decide +kernel, by decide +kernel⟩
  have nd := sc.nd
  refine h.good sc (fun vs H Q E h => by obtain ⟨v, lo, hi, rfl, _⟩ := h; rfl) (fun f cdv A outer s H vs Q E hr h => ?_)
  obtain ⟨v, lo, hi, rfl, hyp⟩ := h
  refine ⟨_, (pss_one (ps_ret (pe_and (pe_callB (c_isiK K) (by rfl) T.n_isinstance (by decide +kernel) (pa_cons (pv 0) (pa_cons (pe_bltn (v := .ty "tuple") (by rfl) T.n_tuple (by decide +kernel) rfl) pa_nil))) (pe_one (pe_chain op_le op_le (pv 1) (pe_callB (c_lenK K) (by rfl) T.n_len (by decide +kernel) (pa_cons (pv 0) pa_nil)) (pv 2)))))), ?_⟩
  try dsimp only [cxOf, Cx.wish]
  obtain ⟨d, hd, pd, q⟩ := hyp
  kc_close
  refine s_isT hd ?_
  kc_close
  cases d with
  | tuple ds =>
    obtain ⟨a, vs, rfl, hv, his⟩ := hd
    have lvs := Ims.length his
    have q' : Q (.bl (decide (lo ≤ ds.length) && decide ((ds.length : Int) ≤ hi))) H := q
    refine iteT ?_
    refine s_chain ?_
    kc_close
    rw [lvs]
    refine ifP (fun h => ?_) (fun h => ?_)
    · kc_close
      rw [decide_eq_true h, Bool.true_and] at q'
      exact q'
    · rw [decide_eq_false h, Bool.false_and] at q'
      exact q'
  | bool b => cases pd
  | none => refine iteF ?_; exact q
  | str _ => refine iteF ?_; exact q
  | int _ => refine iteF ?_; exact q
  | list _ => cases pd
  | dict _ => cases pd
def pairsB (d : PyData) (lo hi : Int) : Bool := match d with
  | .tuple ds => tupB (.tuple ds) lo hi && ds.all fun e => tupB e 2 2
  | _ => false
theorem ims_map {K : PySem.W.Frag} {H : Hp} {ds : List PyData} {vs : List V} (f : PyData → Bool) (h : Ims K H ds vs) {B : Addr} (e : H B = some (.lst ((List.range vs.length).map fun i => V.bl (f (ds.getD i .none))))) : H B = some (.lst ((ds.map f).map V.bl)) := by
  rw [e, List.map_map, Ims.length h]
  congr 2
  refine List.ext_getElem? fun i => ?_
  rw [List.getElem?_map, List.getElem?_map]
  by_cases hi : i < ds.length
  · rw [List.getElem?_range hi, List.getElem?_eq_getElem hi]
    show some (V.bl (f (ds.getD i .none))) = _
    rw [List.getD_eq_getElem?_getD, List.getElem?_eq_getElem hi]
    rfl
  · rw [List.getElem?_eq_none (by simpa using Nat.le_of_not_lt hi), List.getElem?_eq_none (Nat.le_of_not_lt hi)]
    rfl
theorem ims_same {K : PySem.W.Frag} {H H' : Hp} {ds : List PyData} {vs : List V} (s : Same H H') (h : Ims K H ds vs) : Ims K H' ds vs := Ims.tk (TK.same s) _ _ h
def spArePairs (K : PySem.W.Frag) : Sp := fun vs H Q _ => ∃ (v : V) (lo hi : Int), vs = [v, .int lo, .int hi] ∧ ∃ d, Im K H d v ∧ pl d = true ∧ hi ≤ 1000 ∧ ∀ H', Same H H' → Q (.bl (pairsB d lo hi)) H'
theorem ok_are_pairs (T : NoB mg) (h : Has K mg "are_pairs" (topS 4) ["value", "least", "most"]) (G_is_tuple : Good P w K mg base 1 "is_tuple" ["value", "least", "most"] (spIsTuple K)) : Good P w K mg base 2 "are_pairs" ["value", "least", "most"] (spArePairs K) := by
  have sc : FnScope ["value", "least", "most", "pair"] ["value", "least", "most"] (defScope (topS 4)) := ⟨rfl, rfl, rfl, by decide +kernel, rfl, by decide +kernel, by decide +kernel⟩
  have nd := sc.nd
  refine h.good sc (fun vs H Q E h => by obtain ⟨v, lo, hi, rfl, _⟩ := h; rfl) (fun f cdv A outer s H vs Q E hr h => ?_)
  obtain ⟨v, lo, hi, rfl, hyp⟩ := h
  refine ⟨_, (pss_one (ps_ret (pe_and (pe_callG G_is_tuple (hr.mono (by first | decide | omega)) (by rfl) (pa_cons (pv 0) (pa_cons (pv 1) (pa_cons (pv 2) pa_nil)))) (pe_one (pe_callB (cr_allK K rfl) (by rfl) T.n_all (by decide +kernel) (pa_cons (pe_lc (own := [("pair", 3)]) rfl nd (pi_tupK K (pv 0)) (blkOk_by (own := [("pair", 3)]) (N := ["value", "least", "most", "pair"]) (by kernel_rfl)) (fun _ _ _ _ _ => (pg_name (i := 3) nd rfl (by first | exact .inl rfl | exact .inr rfl))) (fun _ _ _ _ _ => pts_nil) (fun _ _ _ _ _ => (pe_callG G_is_tuple (hr.mono (by first | decide | omega)) (by rfl) (pa_cons (pv 3) (pa_cons pe_int (pa_cons pe_int pa_nil)))))) pa_nil)))))), ?_⟩
  try dsimp only [cxOf, Cx.wish]
  obtain ⟨d, hd, pd, h1000, q⟩ := hyp
  kc_close
  refine ⟨v, lo, hi, rfl, d, hd, pd, ?_⟩
  kc_close
  cases ht : tupB d lo hi with
  | false =>
    refine iteF ?_
    have := q H (Same.refl _)
    rw [show pairsB d lo hi = false by cases d with
      | tuple ds => show (tupB (.tuple ds) lo hi && _) = false; rw [ht]; rfl
      | _ => rfl] at this
    exact this
  | true =>
    obtain ⟨ds, rfl, l0, l1⟩ := tup_of ht
    obtain ⟨a, vs, rfl, hv, his⟩ := hd
    have lvs := Ims.length his
    have pds : pls ds = true := pd
    refine iteT ?_
    kc_close
    refine s_itupv hv ?_
    refine l_mapT (fun i => V.bl (tupB (ds.getD i .none) 2 2)) hv (by omega) ?_ ?_
    · intro D N' i y H' e s' k'
      obtain ⟨e1, ee, he⟩ := Ims.get his e
      have pe := pls_mem.mp pds e1 (List.mem_of_getElem? ee)
      kc_close
      refine ⟨y, 2, 2, rfl, e1, Im.tk (TK.same s') _ _ he, pe, ?_⟩
      have := k' _ (Same.refl _)
      rw [List.getD_eq_getElem?_getD, ee] at this
      exact this
    intro B H2 nB s2 eB
    have eB2 := ims_map (fun e => tupB e 2 2) (ims_same s2 his) eB
    kc_close
    refine s_all (SqL.of eB2) ?_
    have := q H2 s2
    rw [show pairsB (.tuple ds) lo hi = (tupB (.tuple ds) lo hi && ds.all fun e => tupB e 2 2) from rfl, ht, Bool.true_and] at this
    rw [List.all_map]
    exact this
end
end K1
end
section
open PySem PySem.Spec PyProof.Rows L2 Z
local macro_rules | `(tactic| ktr_room) => `(tactic| first
  | assumption
  | (apply SqT.of; assumption)
  | (apply SqL.of; assumption)
  | (apply sqt_same; assumption; ktr_room)
  | (apply sql_same; assumption; ktr_room)
  | (apply sqt_but; assumption; assumption; ktr_room)
  | (apply sql_but; assumption; assumption; ktr_room)
  | (apply Same.of_; assumption; ktr_room)
  | (apply But.of_; assumption; assumption; ktr_room)
  | exact same_refl
  | exact but_refl
  | (apply same_tr; assumption; ktr_room)
  | (apply same_but; assumption; ktr_room; assumption)
  | (apply but_tr; assumption; ktr_room)
  | (apply but_trB; assumption; ktr_room))
local macro_rules | `(tactic| ktr_units) => `(tactic| first | with_reducible assumption | omega | rfl | exact ⟨by omega, by omega⟩ | exact .inl ⟨by omega, by omega⟩ | exact .inr ⟨by omega, by omega⟩ | exact ⟨by decide, by decide, by decide⟩ | exact Nat.le_of_ble_eq_true rfl | decide)
local macro_rules | `(tactic| kc_close) => `(tactic| repeat (with_reducible first
  | refine s_var (by with_unfolding_all rfl) ?_
  | refine s_c ?_
  | refine s_op ?_
  | refine s_rI0 ?_
  | refine s_asg ?_
  | refine s_gname ?_
  | refine s_seq ?_
  | refine s_cons ?_
  | refine s_nil ?_
  | refine s_call ?_
  | refine s_ret ?_
  | o_fieldsN
  | refine s_test ?_
  | refine s_bl ?_
  | refine s_rI (by with_unfolding_all (ktr_units)) ?_
  | refine s_rEq rfl ?_
  | refine s_rNe rfl ?_
  | refine s_cb ?_
  | refine s_int1 ?_
  | refine s_intB ?_
  | refine s_max2 ?_
  | refine s_min2 ?_
  | refine s_tup ?_
  | refine s_lst ?_
  | refine s_newT (by with_unfolding_all first | decide | exact Nat.le_of_ble_eq_true rfl) ?_
  | refine s_newL (by with_unfolding_all first | decide | exact Nat.le_of_ble_eq_true rfl) ?_
  | refine s_ixT (by ktr_room) (by with_unfolding_all rfl) ?_
  | refine s_ixL (by ktr_room) (by with_unfolding_all rfl) ?_
  | refine s_lenT (by ktr_room) ?_
  | refine s_lenL (by ktr_room) ?_
  | refine s_un ?_
  | refine s_rU ?_
  | refine s_and ?_
  | refine s_or ?_
  | refine s_not ?_
  | refine s_tB ?_
  | refine s_tru ?_
  | refine s_drop ?_
  | refine s_next ?_
  | refine s_for ?_
  | refine s_rng1 ?_
  | refine s_rng2 ?_
  | refine s_rng3 ?_
  | refine s_ilist ?_
  | refine s_itup ?_
  | refine s_iany ?_
  | refine s_ienum ?_
  | refine s_irev ?_
  | refine s_gcons ?_
  | refine s_gnil ?_
  | refine s_gtup (by ktr_room) (by with_unfolding_all rfl) ?_
  | refine s_gsub ?_
  | refine s_augS ?_
  | refine s_aug (by with_unfolding_all rfl) ?_
  | refine s_ipI ?_
  | refine s_bm ?_
  | refine s_bm0 ?_
  | refine s_tyL (by ktr_room) ?_
  | refine s_tyL0 (by ktr_room) ?_
  | refine s_sl ?_
  | refine s_part ?_
  | refine s_partv ?_
  | refine s_noPart ?_
  | refine s_lc ?_
  | refine s_yes ?_
  | refine s_wipe (by with_unfolding_all rfl) ?_
  | refine iteT ?_
  | refine s_retN ?_
  | refine s_isN ?_
  | refine s_truB ?_
  | refine s_isB2 ?_
  | refine s_notB2 ?_
  | refine s_revT ?_
  | refine s_andV ?_
  | refine s_orV ?_
  | refine s_ifE ?_
  | refine s_notK ?_
  | refine s_notN ?_
  | refine s_truL (by ktr_room) ?_
  | refine s_truT (by ktr_room) ?_))
open K1
local macro_rules | `(tactic| ktr_room) => `(tactic| first
  | (apply DR.same; assumption; ktr_room)
  | (apply sqt_butD; assumption; ktr_room; ktr_room))
namespace K1
def partB (n t m : Int) (wd : Str) (d : PyData) : Bool := if wd = "party" then wholeB d 1 n else if wd = "board" then wholeB d 0 0 else if wd = "index" then wholeB d 0 (m - 1) else wholeB d 0 t
def formS (st : Int) : List Str := ([["party", "party", "index", "place"], ["party", "party", "party", "index"], ["party", "board", "party", "party"], ["party", "board", "party", "party", "index"], ["party", "board", "party"], ["party", "board", "party", "index", "place"], ["party", "board", "party"], ["party", "board", "index"]] : List (List Str)).getD (st - 1).toNat []
def diffS (st : Int) : Option (Nat × Nat) := [some (1, 2), some (1, 2), some (1, 4), some (3, 4)].getD (st - 1).toNat none
theorem pt_party {n t m : Int} {d : PyData} : partB n t m "party" d = wholeB d 1 n := rfl
theorem pt_board {n t m : Int} {d : PyData} : partB n t m "board" d = wholeB d 0 0 := by unfold partB; rw [if_neg (by decide), if_pos rfl]
theorem pt_index {n t m : Int} {d : PyData} : partB n t m "index" d = wholeB d 0 (m - 1) := by unfold partB; rw [if_neg (by decide), if_neg (by decide), if_pos rfl]
theorem pt_place {n t m : Int} {d : PyData} : partB n t m "place" d = wholeB d 0 t := by unfold partB; rw [if_neg (by decide), if_neg (by decide), if_neg (by decide)]
def partsB (n t m : Int) : List Str → List PyData → Bool
  | [], [] => true
  | x :: xs, d :: ds => partB n t m x d && partsB n t m xs ds
  | _, _ => false
theorem parts_list {n t m : Int} : ∀ (xs : List Str) (ds : List PyData), xs.length = ds.length → partsB n t m xs ds = ((List.range xs.length).map fun i => partB n t m (xs.getD i "") (ds.getD i .none)).all id
  | [], [], _ => rfl
  | x :: xs, d :: ds, h => by
    show (partB n t m x d && partsB n t m xs ds) = _
    rw [parts_list xs ds (by simpa using h), List.length_cons, List.range_succ_eq_map, List.map_cons, List.all_cons, List.map_map]
    rfl
  | [], _ :: _, h => by cases h
  | _ :: _, [], h => by cases h
theorem pd_int_ne {a b : Int} : (PyData.int a ≠ PyData.int b) ↔ a ≠ b := ⟨fun h e => h (by rw [e]), fun h e => h (by injection e)⟩
/-- an address, read part by part -/
theorem addr_read {n t m st : Int} {r : List PyData} (h1 : 1 ≤ st) (h8 : st ≤ 8) (hl : r.length = (formS st).length) :
    isAddr n t m (.tuple (.int st :: r)) ↔ partsB n t m (formS st) r = true ∧ ∀ f s, diffS st = some (f, s) → (.int st :: r : List PyData)[f]? ≠ (.int st :: r : List PyData)[s]? := by
  rcases (show st = 1 ∨ st = 2 ∨ st = 3 ∨ st = 4 ∨ st = 5 ∨ st = 6 ∨ st = 7 ∨ st = 8 by omega) with rfl | rfl | rfl | rfl | rfl | rfl | rfl | rfl
  · match r, hl with
    | [a, b, c, d], _ =>
      constructor
      · rintro ⟨st', sd, xs, e, h⟩
        injection e with e
        cases h with
        | r1 p1 p2 p3 p4 p5 =>
          injection e with e0 e; injection e with e1 e; injection e with e2 e; injection e with e3 e; injection e with e4 e
          subst e1 e2 e3 e4
          refine ⟨?_, fun f s z => ?_⟩
          · show (partB n t m "party" _ && (partB n t m "party" _ && (partB n t m "index" _ && (partB n t m "place" _ && true)))) = true
            rw [pt_party, pt_party, pt_index, pt_place, whole_of p1.1 p1.2, whole_of p2.1 p2.2, whole_of p4.1 (by have := p4.2; omega), whole_of p5.1 (by have := p5.2; omega)]
            rfl
          · cases z
            intro z
            injection z with z
            injection z with z
            exact p3 z.symm
        | _ => injection e with e0 e; injection e0 with e0; exact absurd e0 (by decide)
      · rintro ⟨hp, hd⟩
        have hp' : (partB n t m "party" a && (partB n t m "party" b && (partB n t m "index" c && (partB n t m "place" d && true)))) = true := hp
        rw [pt_party, pt_party, pt_index, pt_place, Bool.and_true, Bool.and_eq_true, Bool.and_eq_true, Bool.and_eq_true] at hp'
        obtain ⟨i, rfl, i1, i2⟩ := whole_int hp'.1
        obtain ⟨j, rfl, j1, j2⟩ := whole_int hp'.2.1
        obtain ⟨k, rfl, k1, k2⟩ := whole_int hp'.2.2.1
        obtain ⟨u, rfl, u1, u2⟩ := whole_int hp'.2.2.2
        exact ⟨1, i, [1, i, j, k, u], rfl, .r1 ⟨i1, i2⟩ ⟨j1, j2⟩ (fun z => hd 1 2 rfl (by rw [z]; rfl)) ⟨k1, by omega⟩ ⟨u1, by omega⟩⟩
  · match r, hl with
    | [a, b, c, d], _ =>
      constructor
      · rintro ⟨st', sd, xs, e, h⟩
        injection e with e
        cases h with
        | r2 p1 p2 p3 p4 p5 =>
          injection e with e0 e; injection e with e1 e; injection e with e2 e; injection e with e3 e; injection e with e4 e
          subst e1 e2 e3 e4
          refine ⟨?_, fun f s z => ?_⟩
          · show (partB n t m "party" _ && (partB n t m "party" _ && (partB n t m "party" _ && (partB n t m "index" _ && true)))) = true
            rw [pt_party, pt_party, pt_party, pt_index, whole_of p1.1 p1.2, whole_of p2.1 p2.2, whole_of p4.1 p4.2, whole_of p5.1 (by have := p5.2; omega)]
            rfl
          · cases z
            intro z
            injection z with z
            injection z with z
            exact p3 z.symm
        | _ => injection e with e0 e; injection e0 with e0; exact absurd e0 (by decide)
      · rintro ⟨hp, hd⟩
        have hp' : (partB n t m "party" a && (partB n t m "party" b && (partB n t m "party" c && (partB n t m "index" d && true)))) = true := hp
        rw [pt_party, pt_party, pt_party, pt_index, Bool.and_true, Bool.and_eq_true, Bool.and_eq_true, Bool.and_eq_true] at hp'
        obtain ⟨i, rfl, i1, i2⟩ := whole_int hp'.1
        obtain ⟨j, rfl, j1, j2⟩ := whole_int hp'.2.1
        obtain ⟨k, rfl, k1, k2⟩ := whole_int hp'.2.2.1
        obtain ⟨u, rfl, u1, u2⟩ := whole_int hp'.2.2.2
        exact ⟨2, i, [2, i, j, k, u], rfl, .r2 ⟨i1, i2⟩ ⟨j1, j2⟩ (fun z => hd 1 2 rfl (by rw [z]; rfl)) ⟨k1, k2⟩ ⟨u1, by omega⟩⟩
  · match r, hl with
    | [a, b, c, d], _ =>
      constructor
      · rintro ⟨st', sd, xs, e, h⟩
        injection e with e
        cases h with
        | r3 p1 p2 p3 p4 =>
          injection e with e0 e; injection e with e1 e; injection e with e2 e; injection e with e3 e; injection e with e4 e
          subst e1 e2 e3 e4
          refine ⟨?_, fun f s z => ?_⟩
          · show (partB n t m "party" _ && (partB n t m "board" _ && (partB n t m "party" _ && (partB n t m "party" _ && true)))) = true
            rw [pt_party, pt_party, pt_party, pt_board, whole_of p1.1 p1.2, whole_of p2.1 p2.2, whole_of p3.1 p3.2, whole_of (by omega) (by omega)]
            rfl
          · cases z
            intro z
            injection z with z
            injection z with z
            exact p4 z.symm
        | _ => injection e with e0 e; injection e0 with e0; exact absurd e0 (by decide)
      · rintro ⟨hp, hd⟩
        have hp' : (partB n t m "party" a && (partB n t m "board" b && (partB n t m "party" c && (partB n t m "party" d && true)))) = true := hp
        rw [pt_party, pt_party, pt_party, pt_board, Bool.and_true, Bool.and_eq_true, Bool.and_eq_true, Bool.and_eq_true] at hp'
        obtain ⟨i, rfl, i1, i2⟩ := whole_int hp'.1
        obtain ⟨j, rfl, j1, j2⟩ := whole_int hp'.2.1
        obtain ⟨k, rfl, k1, k2⟩ := whole_int hp'.2.2.1
        obtain ⟨u, rfl, u1, u2⟩ := whole_int hp'.2.2.2
        have : j = 0 := by omega
        subst this
        exact ⟨3, i, [3, i, 0, k, u], rfl, .r3 ⟨i1, i2⟩ ⟨k1, k2⟩ ⟨u1, u2⟩ (fun z => hd 1 4 rfl (by rw [z]; rfl))⟩
  · match r, hl with
    | [a, b, c, d, g], _ =>
      constructor
      · rintro ⟨st', sd, xs, e, h⟩
        injection e with e
        cases h with
        | r4 p1 p2 p3 p4 p5 =>
          injection e with e0 e; injection e with e1 e; injection e with e2 e; injection e with e3 e; injection e with e4 e; injection e with e5 e
          subst e1 e2 e3 e4 e5
          refine ⟨?_, fun f s z => ?_⟩
          · show (partB n t m "party" _ && (partB n t m "board" _ && (partB n t m "party" _ && (partB n t m "party" _ && (partB n t m "index" _ && true))))) = true
            rw [pt_party, pt_party, pt_party, pt_board, pt_index, whole_of p1.1 p1.2, whole_of p2.1 p2.2, whole_of p3.1 p3.2, whole_of (by omega) (by omega), whole_of p5.1 (by have := p5.2; omega)]
            rfl
          · cases z
            intro z
            injection z with z
            injection z with z
            exact p4 z.symm
        | _ => injection e with e0 e; injection e0 with e0; exact absurd e0 (by decide)
      · rintro ⟨hp, hd⟩
        have hp' : (partB n t m "party" a && (partB n t m "board" b && (partB n t m "party" c && (partB n t m "party" d && (partB n t m "index" g && true))))) = true := hp
        rw [pt_party, pt_party, pt_party, pt_board, pt_index, Bool.and_true, Bool.and_eq_true, Bool.and_eq_true, Bool.and_eq_true, Bool.and_eq_true] at hp'
        obtain ⟨i, rfl, i1, i2⟩ := whole_int hp'.1
        obtain ⟨j, rfl, j1, j2⟩ := whole_int hp'.2.1
        obtain ⟨k, rfl, k1, k2⟩ := whole_int hp'.2.2.1
        obtain ⟨u, rfl, u1, u2⟩ := whole_int hp'.2.2.2.1
        obtain ⟨y, rfl, y1, y2⟩ := whole_int hp'.2.2.2.2
        have : j = 0 := by omega
        subst this
        exact ⟨4, i, [4, i, 0, k, u, y], rfl, .r4 ⟨i1, i2⟩ ⟨k1, k2⟩ ⟨u1, u2⟩ (fun z => hd 3 4 rfl (by rw [z]; rfl)) ⟨y1, by omega⟩⟩
  · match r, hl with
    | [a, b, c], _ =>
      constructor
      · rintro ⟨st', sd, xs, e, h⟩
        injection e with e
        cases h with
        | r5 p1 p2 =>
          injection e with e0 e; injection e with e1 e; injection e with e2 e; injection e with e3 e
          subst e1 e2 e3
          refine ⟨?_, fun f s z => by cases z⟩
          show (partB n t m "party" _ && (partB n t m "board" _ && (partB n t m "party" _ && true))) = true
          rw [pt_party, pt_party, pt_board, whole_of p1.1 p1.2, whole_of p2.1 p2.2, whole_of (by omega) (by omega)]
          rfl
        | _ => injection e with e0 e; injection e0 with e0; exact absurd e0 (by decide)
      · rintro ⟨hp, hd⟩
        have hp' : (partB n t m "party" a && (partB n t m "board" b && (partB n t m "party" c && true))) = true := hp
        rw [pt_party, pt_party, pt_board, Bool.and_true, Bool.and_eq_true, Bool.and_eq_true] at hp'
        obtain ⟨i, rfl, i1, i2⟩ := whole_int hp'.1
        obtain ⟨j, rfl, j1, j2⟩ := whole_int hp'.2.1
        obtain ⟨k, rfl, k1, k2⟩ := whole_int hp'.2.2
        have : j = 0 := by omega
        subst this
        exact ⟨5, i, [5, i, 0, k], rfl, .r5 ⟨i1, i2⟩ ⟨k1, k2⟩⟩
  · match r, hl with
    | [a, b, c, d, g], _ =>
      constructor
      · rintro ⟨st', sd, xs, e, h⟩
        injection e with e
        cases h with
        | r6 p1 p2 p3 p4 =>
          injection e with e0 e; injection e with e1 e; injection e with e2 e; injection e with e3 e; injection e with e4 e; injection e with e5 e
          subst e1 e2 e3 e4 e5
          refine ⟨?_, fun f s z => by cases z⟩
          show (partB n t m "party" _ && (partB n t m "board" _ && (partB n t m "party" _ && (partB n t m "index" _ && (partB n t m "place" _ && true))))) = true
          rw [pt_party, pt_party, pt_board, pt_index, pt_place, whole_of p1.1 p1.2, whole_of p2.1 p2.2, whole_of p3.1 (by have := p3.2; omega), whole_of (by omega) (by omega), whole_of p4.1 (by have := p4.2; omega)]
          rfl
        | _ => injection e with e0 e; injection e0 with e0; exact absurd e0 (by decide)
      · rintro ⟨hp, hd⟩
        have hp' : (partB n t m "party" a && (partB n t m "board" b && (partB n t m "party" c && (partB n t m "index" d && (partB n t m "place" g && true))))) = true := hp
        rw [pt_party, pt_party, pt_board, pt_index, pt_place, Bool.and_true, Bool.and_eq_true, Bool.and_eq_true, Bool.and_eq_true, Bool.and_eq_true] at hp'
        obtain ⟨i, rfl, i1, i2⟩ := whole_int hp'.1
        obtain ⟨j, rfl, j1, j2⟩ := whole_int hp'.2.1
        obtain ⟨k, rfl, k1, k2⟩ := whole_int hp'.2.2.1
        obtain ⟨u, rfl, u1, u2⟩ := whole_int hp'.2.2.2.1
        obtain ⟨y, rfl, y1, y2⟩ := whole_int hp'.2.2.2.2
        have : j = 0 := by omega
        subst this
        exact ⟨6, i, [6, i, 0, k, u, y], rfl, .r6 ⟨i1, i2⟩ ⟨k1, k2⟩ ⟨u1, by omega⟩ ⟨y1, by omega⟩⟩
  · match r, hl with
    | [a, b, c], _ =>
      constructor
      · rintro ⟨st', sd, xs, e, h⟩
        injection e with e
        cases h with
        | r7 p1 p2 =>
          injection e with e0 e; injection e with e1 e; injection e with e2 e; injection e with e3 e
          subst e1 e2 e3
          refine ⟨?_, fun f s z => by cases z⟩
          show (partB n t m "party" _ && (partB n t m "board" _ && (partB n t m "party" _ && true))) = true
          rw [pt_party, pt_party, pt_board, whole_of p1.1 p1.2, whole_of p2.1 p2.2, whole_of (by omega) (by omega)]
          rfl
        | _ => injection e with e0 e; injection e0 with e0; exact absurd e0 (by decide)
      · rintro ⟨hp, hd⟩
        have hp' : (partB n t m "party" a && (partB n t m "board" b && (partB n t m "party" c && true))) = true := hp
        rw [pt_party, pt_party, pt_board, Bool.and_true, Bool.and_eq_true, Bool.and_eq_true] at hp'
        obtain ⟨i, rfl, i1, i2⟩ := whole_int hp'.1
        obtain ⟨j, rfl, j1, j2⟩ := whole_int hp'.2.1
        obtain ⟨k, rfl, k1, k2⟩ := whole_int hp'.2.2
        have : j = 0 := by omega
        subst this
        exact ⟨7, i, [7, i, 0, k], rfl, .r7 ⟨i1, i2⟩ ⟨k1, k2⟩⟩
  · match r, hl with
    | [a, b, c], _ =>
      constructor
      · rintro ⟨st', sd, xs, e, h⟩
        injection e with e
        cases h with
        | r8 p1 p2 =>
          injection e with e0 e; injection e with e1 e; injection e with e2 e; injection e with e3 e
          subst e1 e2 e3
          refine ⟨?_, fun f s z => by cases z⟩
          show (partB n t m "party" _ && (partB n t m "board" _ && (partB n t m "index" _ && true))) = true
          rw [pt_party, pt_index, pt_board, whole_of p1.1 p1.2, whole_of p2.1 (by have := p2.2; omega), whole_of (by omega) (by omega)]
          rfl
        | _ => injection e with e0 e; injection e0 with e0; exact absurd e0 (by decide)
      · rintro ⟨hp, hd⟩
        have hp' : (partB n t m "party" a && (partB n t m "board" b && (partB n t m "index" c && true))) = true := hp
        rw [pt_party, pt_index, pt_board, Bool.and_true, Bool.and_eq_true, Bool.and_eq_true] at hp'
        obtain ⟨i, rfl, i1, i2⟩ := whole_int hp'.1
        obtain ⟨j, rfl, j1, j2⟩ := whole_int hp'.2.1
        obtain ⟨k, rfl, k1, k2⟩ := whole_int hp'.2.2
        have : j = 0 := by omega
        subst this
        exact ⟨8, i, [8, i, 0, k], rfl, .r8 ⟨i1, i2⟩ ⟨k1, by omega⟩⟩
def spIsAddress (K : PySem.W.Frag) : Sp := fun vs H Q _ => ∃ (su : Addr) (v : V), vs = [.ref su, v] ∧ ∃ p n t m d, SU K H su p n t m ∧ Im K H d v ∧ pl d = true ∧ ∀ H' b, Same H H' → (b = true ↔ isAddr n t m d) → Q (.bl b) H'
end K1
end
section
open PySem PySem.Spec PyProof.Rows L2 Z
local macro_rules | `(tactic| ktr_room) => `(tactic| first
  | assumption
  | (apply SqT.of; assumption)
  | (apply SqL.of; assumption)
  | (apply sqt_same; assumption; ktr_room)
  | (apply sql_same; assumption; ktr_room)
  | (apply sqt_but; assumption; assumption; ktr_room)
  | (apply sql_but; assumption; assumption; ktr_room)
  | (apply Same.of_; assumption; ktr_room)
  | (apply But.of_; assumption; assumption; ktr_room)
  | exact same_refl
  | exact but_refl
  | (apply same_tr; assumption; ktr_room)
  | (apply same_but; assumption; ktr_room; assumption)
  | (apply but_tr; assumption; ktr_room)
  | (apply but_trB; assumption; ktr_room))
local macro_rules | `(tactic| ktr_units) => `(tactic| first | with_reducible assumption | omega | rfl | exact ⟨by omega, by omega⟩ | exact .inl ⟨by omega, by omega⟩ | exact .inr ⟨by omega, by omega⟩ | exact ⟨by decide, by decide, by decide⟩ | exact Nat.le_of_ble_eq_true rfl | decide)
local macro_rules | `(tactic| kc_close) => `(tactic| repeat (with_reducible first
  | refine s_var (by with_unfolding_all rfl) ?_
  | refine s_c ?_
  | refine s_op ?_
  | refine s_rI0 ?_
  | refine s_asg ?_
  | refine s_gname ?_
  | refine s_seq ?_
  | refine s_cons ?_
  | refine s_nil ?_
  | refine s_call ?_
  | refine s_ret ?_
  | o_fieldsN
  | refine s_test ?_
  | refine s_bl ?_
  | refine s_rI (by with_unfolding_all (ktr_units)) ?_
  | refine s_rEq rfl ?_
  | refine s_rNe rfl ?_
  | refine s_cb ?_
  | refine s_int1 ?_
  | refine s_intB ?_
  | refine s_max2 ?_
  | refine s_min2 ?_
  | refine s_tup ?_
  | refine s_lst ?_
  | refine s_newT (by with_unfolding_all first | decide | exact Nat.le_of_ble_eq_true rfl) ?_
  | refine s_newL (by with_unfolding_all first | decide | exact Nat.le_of_ble_eq_true rfl) ?_
  | refine s_ixT (by ktr_room) (by with_unfolding_all rfl) ?_
  | refine s_ixL (by ktr_room) (by with_unfolding_all rfl) ?_
  | refine s_lenT (by ktr_room) ?_
  | refine s_lenL (by ktr_room) ?_
  | refine s_un ?_
  | refine s_rU ?_
  | refine s_and ?_
  | refine s_or ?_
  | refine s_not ?_
  | refine s_tB ?_
  | refine s_tru ?_
  | refine s_drop ?_
  | refine s_next ?_
  | refine s_for ?_
  | refine s_rng1 ?_
  | refine s_rng2 ?_
  | refine s_rng3 ?_
  | refine s_ilist ?_
  | refine s_itup ?_
  | refine s_iany ?_
  | refine s_ienum ?_
  | refine s_irev ?_
  | refine s_gcons ?_
  | refine s_gnil ?_
  | refine s_gtup (by ktr_room) (by with_unfolding_all rfl) ?_
  | refine s_gsub ?_
  | refine s_augS ?_
  | refine s_aug (by with_unfolding_all rfl) ?_
  | refine s_ipI ?_
  | refine s_bm ?_
  | refine s_bm0 ?_
  | refine s_tyL (by ktr_room) ?_
  | refine s_tyL0 (by ktr_room) ?_
  | refine s_sl ?_
  | refine s_part ?_
  | refine s_partv ?_
  | refine s_noPart ?_
  | refine s_lc ?_
  | refine s_yes ?_
  | refine s_wipe (by with_unfolding_all rfl) ?_
  | refine iteT ?_
  | refine s_retN ?_
  | refine s_isN ?_
  | refine s_truB ?_
  | refine s_isB2 ?_
  | refine s_notB2 ?_
  | refine s_revT ?_
  | refine s_andV ?_
  | refine s_orV ?_
  | refine s_ifE ?_
  | refine s_notK ?_
  | refine s_notN ?_
  | refine s_truL (by ktr_room) ?_
  | refine s_truT (by ktr_room) ?_))
open K1
local macro_rules | `(tactic| ktr_room) => `(tactic| first
  | (apply DR.same; assumption; ktr_room)
  | (apply sqt_butD; assumption; ktr_room; ktr_room))
namespace K1
section
variable {P : Program} {w : World} {K : PySem.W.Frag} {mg : Str → Option Value} {base : Heap}
def spIsPart (K : PySem.W.Frag) : Sp := fun vs H Q _ => ∃ (su : Addr) (wd : Str) (v : V), vs = [.ref su, .str wd, v] ∧ ∃ p n t m d, SU K H su p n t m ∧ (wd = "party" ∨ wd = "board" ∨ wd = "index" ∨ wd = "place") ∧ Im K H d v ∧ pl d = true ∧ Q (.bl (partB n t m wd d)) H
theorem ok__is_part (h : Has K mg "_is_part" (topS 9) ["setup", "word", "part"]) (G_is_between : Good P w K mg base 2 "is_between" ["value", "low", "high"] (spIsBetween K)) : Good P w K mg base 3 "_is_part" ["setup", "word", "part"] (spIsPart K) := by
  have sc : FnScope ["setup", "word", "part", "_", "n", "t", "m"] ["setup", "word", "part"] (defScope (topS 9)) := ⟨rfl, rfl, rfl, by decide +kernel, rfl, by decide +kernel, by decide +kernel⟩
  have nd := sc.nd
  refine h.good sc (fun vs H Q E h => by obtain ⟨su, wd, v, rfl, _⟩ := h; rfl) (fun f cdv A outer s H vs Q E hr h => ?_)
  obtain ⟨su, wd, v, rfl, hyp⟩ := h
  refine ⟨_, (pss_cons (ps_asg (pv 0) (pg_tupK K 4 (by rfl) (pgs_cons (pg_name (i := 3) nd rfl (by first | exact .inl rfl | exact .inr rfl)) (pgs_cons (pg_name (i := 4) nd rfl (by first | exact .inl rfl | exact .inr rfl)) (pgs_cons (pg_name (i := 5) nd rfl (by first | exact .inl rfl | exact .inr rfl)) (pgs_cons (pg_name (i := 6) nd rfl (by first | exact .inl rfl | exact .inr rfl)) pgs_nil))))))
  (pss_cons (ps_if (pt_cmpR op_eq (pv 1) pe_str (nomark _))
  (pss_one (ps_ret (pe_callG G_is_between (hr.mono (by first | decide | omega)) (by rfl) (pa_cons (pv 2) (pa_cons pe_int (pa_cons (pv 4) pa_nil)))))) pss_nil)
  (pss_cons (ps_if (pt_cmpR op_eq (pv 1) pe_str (nomark _))
  (pss_one (ps_ret (pe_callG G_is_between (hr.mono (by first | decide | omega)) (by rfl) (pa_cons (pv 2) (pa_cons pe_int (pa_cons pe_int pa_nil)))))) pss_nil)
  (pss_cons (ps_if (pt_cmpR op_eq (pv 1) pe_str (nomark _))
  (pss_one (ps_ret (pe_callG G_is_between (hr.mono (by first | decide | omega)) (by rfl) (pa_cons (pv 2) (pa_cons pe_int (pa_cons (pe_op op_sub (pv 6) pe_int) pa_nil)))))) pss_nil)
  (pss_one (ps_ret (pe_callG G_is_between (hr.mono (by first | decide | omega)) (by rfl) (pa_cons (pv 2) (pa_cons pe_int (pa_cons (pv 5) pa_nil)))))))))), ?_⟩
  try dsimp only [cxOf, Cx.wish]
  obtain ⟨p, n, t, m, d, hs, hw, hd, pd, q⟩ := hyp
  refine s_seq ?_
  refine s_cut (fun σ' H' => σ' = [some (.ref su), some (.str wd), some v, some (.int p), some (.int n), some (.int t), some (.int m)] ∧ H' = H) (fun N hN => ?_) ?_
  · kc_close
    exact hN _ _ ⟨rfl, rfl⟩
  rintro _ H ⟨rfl, rfl⟩
  rcases hw with rfl | rfl | rfl | rfl
  · kc_close
    refine s_if ?_
    kc_close
    refine ifTrue (by decide +kernel) ?_
    kc_close
    refine ⟨v, 1, n, rfl, d, hd, pd, ?_⟩
    rw [pt_party] at q
    exact q
  · kc_close
    refine s_if ?_
    kc_close
    refine ifFalse (by decide +kernel) ?_
    kc_close
    refine s_if ?_
    kc_close
    refine ifTrue (by decide +kernel) ?_
    kc_close
    refine ⟨v, 0, 0, rfl, d, hd, pd, ?_⟩
    rw [pt_board] at q
    exact q
  · kc_close
    refine s_if ?_
    kc_close
    refine ifFalse (by decide +kernel) ?_
    kc_close
    refine s_if ?_
    kc_close
    refine ifFalse (by decide +kernel) ?_
    kc_close
    refine s_if ?_
    kc_close
    refine ifTrue (by decide +kernel) ?_
    kc_close
    refine ⟨v, 0, m - 1, rfl, d, hd, pd, ?_⟩
    rw [pt_index] at q
    exact q
  · kc_close
    refine s_if ?_
    kc_close
    refine ifFalse (by decide +kernel) ?_
    kc_close
    refine s_if ?_
    kc_close
    refine ifFalse (by decide +kernel) ?_
    kc_close
    refine s_if ?_
    kc_close
    refine ifFalse (by decide +kernel) ?_
    kc_close
    refine ⟨v, 0, t, rfl, d, hd, pd, ?_⟩
    rw [pt_place] at q
    exact q
theorem forms_at {st : Int} (W : Gs K mg) (h1 : 1 ≤ st) (h8 : st ≤ 8) : ∃ rows b, WInt K (refAt mg "FORMS") rows ∧ rows.lookup st = some b ∧ WTup K b ((formS st).map V.str) ∧ 3 ≤ (formS st).length ∧ (formS st).length ≤ 5 ∧ ∀ x ∈ formS st, x = "party" ∨ x = "board" ∨ x = "index" ∨ x = "place" := by
  obtain ⟨b0, b1, b2, b3, b4, b5, b6, b7, hW, t0, t1, t2, t3, t4, t5, t6, t7⟩ := W.w_FORMS
  rcases (show st = 1 ∨ st = 2 ∨ st = 3 ∨ st = 4 ∨ st = 5 ∨ st = 6 ∨ st = 7 ∨ st = 8 by omega) with rfl | rfl | rfl | rfl | rfl | rfl | rfl | rfl
  · exact ⟨_, b0, hW, rfl, t0, by decide, by decide, by decide +kernel⟩
  · exact ⟨_, b1, hW, rfl, t1, by decide, by decide, by decide +kernel⟩
  · exact ⟨_, b2, hW, rfl, t2, by decide, by decide, by decide +kernel⟩
  · exact ⟨_, b3, hW, rfl, t3, by decide, by decide, by decide +kernel⟩
  · exact ⟨_, b4, hW, rfl, t4, by decide, by decide, by decide +kernel⟩
  · exact ⟨_, b5, hW, rfl, t5, by decide, by decide, by decide +kernel⟩
  · exact ⟨_, b6, hW, rfl, t6, by decide, by decide, by decide +kernel⟩
  · exact ⟨_, b7, hW, rfl, t7, by decide, by decide, by decide +kernel⟩
theorem diff_at {st : Int} (W : Gs K mg) (h1 : 1 ≤ st) (h8 : st ≤ 8) : ∃ rows, WInt K (refAt mg "DIFFERENT") rows ∧ ((rows.lookup st = none ∧ diffS st = none) ∨ ∃ b f s, rows.lookup st = some b ∧ diffS st = some (f, s) ∧ WTup K b [.int (f : Int), .int (s : Int)] ∧ f < (formS st).length + 1 ∧ s < (formS st).length + 1) := by
  obtain ⟨b0, b1, b2, b3, hW, t0, t1, t2, t3⟩ := W.w_DIFFERENT
  rcases (show st = 1 ∨ st = 2 ∨ st = 3 ∨ st = 4 ∨ st = 5 ∨ st = 6 ∨ st = 7 ∨ st = 8 by omega) with rfl | rfl | rfl | rfl | rfl | rfl | rfl | rfl
  · exact ⟨_, hW, .inr ⟨b0, 1, 2, rfl, rfl, t0, by decide, by decide⟩⟩
  · exact ⟨_, hW, .inr ⟨b1, 1, 2, rfl, rfl, t1, by decide, by decide⟩⟩
  · exact ⟨_, hW, .inr ⟨b2, 1, 4, rfl, rfl, t2, by decide, by decide⟩⟩
  · exact ⟨_, hW, .inr ⟨b3, 3, 4, rfl, rfl, t3, by decide, by decide⟩⟩
  · exact ⟨_, hW, .inl ⟨rfl, rfl⟩⟩
  · exact ⟨_, hW, .inl ⟨rfl, rfl⟩⟩
  · exact ⟨_, hW, .inl ⟨rfl, rfl⟩⟩
  · exact ⟨_, hW, .inl ⟨rfl, rfl⟩⟩
theorem parts_int {n t m : Int} : ∀ {ws : List Str} {ds : List PyData}, partsB n t m ws ds = true → ∀ d ∈ ds, ∃ i, d = .int i
  | [], [], _, d, hm => by cases hm
  | x :: xs, e :: ds, h, d, hm => by
    have h' : (partB n t m x e && partsB n t m xs ds) = true := h
    rw [Bool.and_eq_true] at h'
    rcases List.mem_cons.mp hm with hm | hm
    · subst hm
      have h1 := h'.1
      unfold partB at h1
      split at h1
      · obtain ⟨i, e, _⟩ := whole_int h1; exact ⟨i, e⟩
      · split at h1
        · obtain ⟨i, e, _⟩ := whole_int h1; exact ⟨i, e⟩
        · split at h1
          · obtain ⟨i, e, _⟩ := whole_int h1; exact ⟨i, e⟩
          · obtain ⟨i, e, _⟩ := whole_int h1; exact ⟨i, e⟩
    · exact parts_int h'.2 d hm
  | [], _ :: _, h, _, _ => by cases h
  | _ :: _, [], h, _, _ => by cases h
theorem addr_head {n t m : Int} {d : PyData} (h : isAddr n t m d) : ∃ st r, d = .tuple (.int st :: r) ∧ 1 ≤ st ∧ st ≤ 8 ∧ r.length = (formS st).length := by
  obtain ⟨st, sd, xs, rfl, h⟩ := h
  cases h <;> exact ⟨_, _, rfl, by decide, by decide, rfl⟩
theorem ok_is_address (T : NoB mg) (W : Gs K mg) (h : Has K mg "is_address" (topS 8) ["setup", "value"]) (G_is_between : Good P w K mg base 2 "is_between" ["value", "low", "high"] (spIsBetween K)) (G_is_tuple : Good P w K mg base 1 "is_tuple" ["value", "least", "most"] (spIsTuple K)) (G__is_part : Good P w K mg base 3 "_is_part" ["setup", "word", "part"] (spIsPart K)) : Good P w K mg base 4 "is_address" ["setup", "value"] (spIsAddress K) := by
  have sc : FnScope ["setup", "value", "form", "first", "second", "word", "part"] ["setup", "value"] (defScope (topS 8)) := ⟨rfl, rfl, rfl, by decide +kernel, rfl, by decide +kernel, by decide +kernel⟩
  have nd := sc.nd
  refine h.good sc (fun vs H Q E h => by obtain ⟨su, v, rfl, _⟩ := h; rfl) (fun f cdv A outer s H vs Q E hr h => ?_)
  obtain ⟨su, v, rfl, hyp⟩ := h
  refine ⟨_, (pss_cons (ps_if (PW.pt (pw_or (pt_not (pt_val (pe_callG G_is_tuple (hr.mono (by first | decide | omega)) (by rfl) (pa_cons (pv 1) (pa_cons pe_int (pa_cons pe_int pa_nil)))))) (pw_or1 (pt_not (pt_val (pe_callG G_is_between (hr.mono (by first | decide | omega)) (by rfl) (pa_cons (pe_ix (ix_tupK K) (pv 1) pe_int (fun _ _ => rfl)) (pa_cons pe_int (pa_cons pe_int pa_nil)))))))))
  (pss_one (ps_ret pe_bl)) pss_nil)
  (pss_cons (ps_set (i := 2) nd rfl (by first | exact .inl rfl | exact .inr rfl) (pe_ix (ix_wintK K) (pe_globE (by rfl) W.g_FORMS) (pe_ix (ix_tupK K) (pv 1) pe_int (fun _ _ => rfl)) (fun _ _ => rfl)))
  (pss_cons (ps_if (pt_cmpR op_ne (pe_callB (c_lenK K) (by rfl) T.n_len (by decide +kernel) (pa_cons (pv 1) pa_nil)) (pe_op op_add (pe_callB (c_lenK K) (by rfl) T.n_len (by decide +kernel) (pa_cons (pv 2) pa_nil)) pe_int) (nomark _))
  (pss_one (ps_ret pe_bl)) pss_nil)
  (pss_cons (ps_if (pt_not (pt_val (pe_callB (cr_allK K rfl) (by rfl) T.n_all (by decide +kernel) (pa_cons (pe_lc (own := [("word", 5), ("part", 6)]) rfl nd (pi_zipAK K (by rfl) T.n_zip (pa_cons (pv 2) (pa_cons (pe_slice (sl_tupK K) (pv 1) (po_some pe_int) po_none) pa_nil))) (blkOk_by (own := [("word", 5), ("part", 6)]) (N := ["setup", "value", "form", "first", "second", "word", "part"]) (by kernel_rfl)) (fun _ _ _ _ _ => (pg_tupK K 2 (by rfl) (pgs_cons (pg_name (i := 5) nd rfl (by first | exact .inl rfl | exact .inr rfl)) (pgs_cons (pg_name (i := 6) nd rfl (by first | exact .inl rfl | exact .inr rfl)) pgs_nil)))) (fun _ _ _ _ _ => pts_nil) (fun _ _ _ _ _ => (pe_callG G__is_part (hr.mono (by first | decide | omega)) (by rfl) (pa_cons (pv 0) (pa_cons (pv 5) (pa_cons (pv 6) pa_nil)))))) pa_nil))))
  (pss_one (ps_ret pe_bl)) pss_nil)
  (pss_cons (ps_if (pt_cmpR (op_ninWK K) (pe_ix (ix_tupK K) (pv 1) pe_int (fun _ _ => rfl)) (pe_globE (by rfl) W.g_DIFFERENT) (by rfl))
  (pss_one (ps_ret pe_bl)) pss_nil)
  (pss_cons (ps_asg (pe_ix (ix_wintK K) (pe_globE (by rfl) W.g_DIFFERENT) (pe_ix (ix_tupK K) (pv 1) pe_int (fun _ _ => rfl)) (fun _ _ => rfl)) (pg_tupK K 2 (by rfl) (pgs_cons (pg_name (i := 3) nd rfl (by first | exact .inl rfl | exact .inr rfl)) (pgs_cons (pg_name (i := 4) nd rfl (by first | exact .inl rfl | exact .inr rfl)) pgs_nil))))
  (pss_one (ps_ret (pe_cmpR op_ne (pe_ix (ix_tupK K) (pv 1) (pv 3) (fun _ _ => rfl)) (pe_ix (ix_tupK K) (pv 1) (pv 4) (fun _ _ => rfl)) (nomark _)))))))))), ?_⟩
  try dsimp only [cxOf, Cx.wish]
  obtain ⟨p, n, t, m, d, hs, hd, pd, q⟩ := hyp
  have no : ∀ H', Same H H' → ¬ isAddr n t m d → Q (.bl false) H' := fun H' s h => q H' false s ⟨fun z => (by cases z), fun z => absurd z h⟩
  refine s_seq ?_
  refine s_cut (fun σ' H' => σ' = [some (.ref su), some v, none, none, none, none, none] ∧ H' = H ∧ ∃ (st : Int) (r : List PyData), d = .tuple (.int st :: r) ∧ 1 ≤ st ∧ st ≤ 8 ∧ 3 ≤ r.length ∧ r.length ≤ 5) (fun N hN => ?_) ?_
  · refine s_if ?_
    kc_close
    refine ⟨v, 4, 6, rfl, d, hd, pd, ?_⟩
    kc_close
    cases ht : tupB d 4 6 with
    | false =>
      refine iteT ?_
      refine iteT ?_
      kc_close
      refine no H (Same.refl _) fun z => ?_
      obtain ⟨st, r, rfl, h1, h8, hl⟩ := addr_head z
      have : 3 ≤ (formS st).length ∧ (formS st).length ≤ 5 := by
        rcases (show st = 1 ∨ st = 2 ∨ st = 3 ∨ st = 4 ∨ st = 5 ∨ st = 6 ∨ st = 7 ∨ st = 8 by omega) with rfl | rfl | rfl | rfl | rfl | rfl | rfl | rfl <;> decide
      rw [tupB_of (by rw [List.length_cons]; omega) (by rw [List.length_cons]; omega)] at ht
      cases ht
    | true =>
      obtain ⟨ds, rfl, l0, l1⟩ := tup_of ht
      obtain ⟨a, vs, rfl, hv, his⟩ := hd
      have pds : pls ds = true := pd
      refine iteF ?_
      kc_close
      match ds, vs, his, pds, hv, no, hN, q, l0, l1 with
      | [], vs, his, pds, hv, no, hN, q, l0, l1 => exact absurd l0 (by decide)
      | d0 :: r, vs, his, pds, hv, no, hN, q, l0, l1 =>
        obtain ⟨v0, vs1, rfl, h0, hr⟩ := his
        have p0 : pl d0 = true := pls_mem.mp pds d0 (List.mem_cons_self ..)
        refine s_ixT hv (at_of (j := 0) rfl rfl) ?_
        kc_close
        refine ⟨v0, 1, 8, rfl, d0, h0, p0, ?_⟩
        kc_close
        cases w0 : wholeB d0 1 8 with
        | false =>
          refine iteT ?_
          kc_close
          refine no H (Same.refl _) fun z => ?_
          obtain ⟨st, r', e, h1, h8, hl⟩ := addr_head z
          injection e with e
          injection e with e1 e2
          rw [e1, whole_of h1 h8] at w0
          cases w0
        | true =>
          obtain ⟨st, rfl, st1, st8⟩ := whole_int w0
          refine iteF ?_
          kc_close
          rw [List.length_cons] at l0 l1
          exact hN _ _ ⟨rfl, rfl, st, r, rfl, st1, st8, by omega, by omega⟩
  rintro _ H ⟨rfl, rfl, st, r, rfl, st1, st8, r3, r5⟩
  obtain ⟨a, vs, rfl, hv, his⟩ := hd
  have lvs := Ims.length his
  have pds : pls (.int st :: r) = true := pd
  obtain ⟨_, vr, rfl, rfl, hir⟩ := his
  have lvr := Ims.length hir
  obtain ⟨rows, b, hW, hl, hT, f3, f5, fw⟩ := forms_at W st1 st8
  obtain ⟨rows2, hW2, hD⟩ := diff_at W st1 st8
  -- the form
  refine s_seq ?_
  refine s_cut (fun σ' H' => σ' = [some (.ref su), some (.ref a), some (.ref b), none, none, none, none] ∧ H' = H) (fun N hN => ?_) ?_
  · kc_close
    refine s_ixT hv (at_of (j := 0) rfl rfl) ?_
    kc_close
    refine s_ixW hW hl ?_
    kc_close
    exact hN _ _ ⟨rfl, rfl⟩
  rintro _ H ⟨rfl, rfl⟩
  have hf := hT.sq (H := H)
  refine s_seq ?_
  refine s_cut (fun σ' H' => σ' = [some (.ref su), some (.ref a), some (.ref b), none, none, none, none] ∧ H' = H ∧ r.length = (formS st).length) (fun N hN => ?_) ?_
  · refine s_if ?_
    kc_close
    rw [lvs, List.length_map]
    refine ifN (fun h => ?_) (fun h => ?_)
    · kc_close
      refine no H (Same.refl _) fun z => ?_
      obtain ⟨st', r', e, h1, h8, hl⟩ := addr_head z
      injection e with e
      injection e with e1 e2
      injection e1 with e1
      subst e1 e2
      rw [List.length_cons] at h
      exact h (by omega)
    · kc_close
      rw [List.length_cons] at h
      exact hN _ _ ⟨rfl, rfl, by omega⟩
  rintro _ H ⟨rfl, rfl, hlen⟩
  have key := addr_read (n := n) (t := t) (m := m) (r := r) st1 st8 hlen
  -- the parts
  refine s_seq ?_
  refine s_cut (fun σ' H' => σ' = [some (.ref su), some (.ref a), some (.ref b), none, none, none, none] ∧ Same H H' ∧ partsB n t m (formS st) r = true) (fun N hN => ?_) ?_
  · refine s_if ?_
    kc_close
    refine s_izipA ?_
    kc_close
    refine s_slT hv fun q1 H1 s1 hq1 => ?_
    rw [show cutV (V.int st :: vr) (some 1) none = vr from cut_fromZ _ 1] at hq1
    kc_close
    have hs1 := sqt_same s1 hs
    have hir1 := ims_same s1 hir
    refine s_zipTT hT.sq hq1 ?_
    refine l_mapZT (fun i => V.bl (partB n t m ((formS st).getD i "") (r.getD i .none))) (by rw [List.length_map]; omega) hT.sq hq1 (by rw [List.length_map]; omega) ?_ ?_
    · intro D N' i x y T' H' ex ey s' eT k'
      obtain ⟨e1, ee, he⟩ := Ims.get hir1 ey
      have pe : pl e1 = true := pls_mem.mp pds e1 (List.mem_cons_of_mem _ (List.mem_of_getElem? ee))
      rw [List.getElem?_map] at ex
      cases hx : (formS st)[i]? with
      | none => rw [hx] at ex; cases ex
      | some wd =>
        rw [hx] at ex
        have : x = V.str wd := by injection ex with ex; exact ex.symm
        subst this
        kc_close
        refine ⟨su, wd, y, rfl, p, n, t, m, e1, sqt_same s' hs1, fw wd (List.mem_of_getElem? hx), Im.tk (TK.same s') _ _ he, pe, ?_⟩
        have := k' _ (Same.refl _)
        rw [List.getD_eq_getElem?_getD, List.getD_eq_getElem?_getD, ee, hx] at this
        exact this
    intro B H2 nB s2 eB
    rw [List.length_map] at eB
    have eB2 : H2 B = some (.lst (((List.range (formS st).length).map fun i => partB n t m ((formS st).getD i "") (r.getD i .none)).map V.bl)) := by
      rw [eB, List.map_map]
      rfl
    kc_close
    refine s_all (SqL.of eB2) ?_
    rw [← parts_list _ _ hlen.symm]
    kc_close
    cases hb : partsB n t m (formS st) r with
    | false =>
      refine iteT ?_
      kc_close
      refine no H2 (s1.trans s2) fun z => ?_
      have := (key.mp z).1
      rw [hb] at this
      cases this
    | true =>
      refine iteF ?_
      kc_close
      exact hN _ _ ⟨rfl, s1.trans s2, hb⟩
  rintro _ H1 ⟨rfl, s1, hparts⟩
  have hv1 := sqt_same s1 hv
  rw [hparts] at key
  rcases hD with ⟨hl2, hd2⟩ | ⟨b2, f, s, hl2, hd2, hT2, lf, ls⟩
  · refine s_seq ?_
    refine s_if ?_
    kc_close
    refine s_ixT hv1 (at_of (j := 0) rfl rfl) ?_
    kc_close
    refine s_ninW hW2 ?_
    rw [hl2]
    kc_close
    refine q H1 true s1 ⟨fun _ => key.mpr ⟨rfl, fun f s z => ?_⟩, fun _ => rfl⟩
    rw [hd2] at z
    cases z
  · refine s_seq ?_
    refine s_if ?_
    kc_close
    refine s_ixT hv1 (at_of (j := 0) rfl rfl) ?_
    kc_close
    refine s_ninW hW2 ?_
    rw [hl2]
    kc_close
    refine iteF ?_
    kc_close
    refine s_ixT hv1 (at_of (j := 0) rfl rfl) ?_
    kc_close
    refine s_ixW hW2 hl2 ?_
    have hf2 := hT2.sq (H := H1)
    kc_close
    rw [List.length_cons] at lvs
    have at_ : ∀ j, j < (formS st).length + 1 → ∃ i : Int, (V.int st :: vr)[j]? = some (V.int i) ∧ (PyData.int st :: r)[j]? = some (.int i) := by
      intro j hj
      cases j with
      | zero => exact ⟨st, rfl, rfl⟩
      | succ j =>
        have hj' : j < r.length := by omega
        have er : r[j]? = some r[j] := List.getElem?_eq_getElem hj'
        obtain ⟨i, ei⟩ := parts_int hparts _ (List.mem_of_getElem? er)
        rw [ei] at er
        obtain ⟨v, ev, hv⟩ := Ims.at hir er
        exact ⟨i, by rw [show v = V.int i from hv] at ev; exact ev, er⟩
    obtain ⟨x, ex, dx⟩ := at_ f lf
    obtain ⟨y, ey, dy⟩ := at_ s ls
    refine s_ixT hv1 (at_of (j := f) (by omega) ex) ?_
    kc_close
    refine s_ixT hv1 (at_of (j := s) (by omega) ey) ?_
    kc_close
    refine q H1 _ s1 (dec_ne_iff ⟨fun z => key.mpr ⟨rfl, fun f' s' z' => ?_⟩, fun z => ?_⟩)
    · rw [hd2] at z'
      injection z' with z'
      injection z' with z1 z2
      subst z1 z2
      rw [dx, dy]
      intro e
      injection e with e
      injection e with e
      exact z e
    · have := (key.mp z).2 f s hd2
      rw [dx, dy] at this
      exact fun e => this (by rw [e])
end
end K1
end
section
open PySem PySem.Spec PyProof.Rows L2 Z
local macro_rules | `(tactic| ktr_room) => `(tactic| first
  | assumption
  | (apply SqT.of; assumption)
  | (apply SqL.of; assumption)
  | (apply sqt_same; assumption; ktr_room)
  | (apply sql_same; assumption; ktr_room)
  | (apply sqt_but; assumption; assumption; ktr_room)
  | (apply sql_but; assumption; assumption; ktr_room)
  | (apply Same.of_; assumption; ktr_room)
  | (apply But.of_; assumption; assumption; ktr_room)
  | exact same_refl
  | exact but_refl
  | (apply same_tr; assumption; ktr_room)
  | (apply same_but; assumption; ktr_room; assumption)
  | (apply but_tr; assumption; ktr_room)
  | (apply but_trB; assumption; ktr_room))
local macro_rules | `(tactic| ktr_units) => `(tactic| first | with_reducible assumption | omega | rfl | exact ⟨by omega, by omega⟩ | exact .inl ⟨by omega, by omega⟩ | exact .inr ⟨by omega, by omega⟩ | exact ⟨by decide, by decide, by decide⟩ | exact Nat.le_of_ble_eq_true rfl | decide)
local macro_rules | `(tactic| kc_close) => `(tactic| repeat (with_reducible first
  | refine s_var (by with_unfolding_all rfl) ?_
  | refine s_c ?_
  | refine s_op ?_
  | refine s_rI0 ?_
  | refine s_asg ?_
  | refine s_gname ?_
  | refine s_seq ?_
  | refine s_cons ?_
  | refine s_nil ?_
  | refine s_call ?_
  | refine s_ret ?_
  | o_fieldsN
  | refine s_test ?_
  | refine s_bl ?_
  | refine s_rI (by with_unfolding_all (ktr_units)) ?_
  | refine s_rEq rfl ?_
  | refine s_rNe rfl ?_
  | refine s_cb ?_
  | refine s_int1 ?_
  | refine s_intB ?_
  | refine s_max2 ?_
  | refine s_min2 ?_
  | refine s_tup ?_
  | refine s_lst ?_
  | refine s_newT (by with_unfolding_all first | decide | exact Nat.le_of_ble_eq_true rfl) ?_
  | refine s_newL (by with_unfolding_all first | decide | exact Nat.le_of_ble_eq_true rfl) ?_
  | refine s_ixT (by ktr_room) (by with_unfolding_all rfl) ?_
  | refine s_ixL (by ktr_room) (by with_unfolding_all rfl) ?_
  | refine s_lenT (by ktr_room) ?_
  | refine s_lenL (by ktr_room) ?_
  | refine s_un ?_
  | refine s_rU ?_
  | refine s_and ?_
  | refine s_or ?_
  | refine s_not ?_
  | refine s_tB ?_
  | refine s_tru ?_
  | refine s_drop ?_
  | refine s_next ?_
  | refine s_for ?_
  | refine s_rng1 ?_
  | refine s_rng2 ?_
  | refine s_rng3 ?_
  | refine s_ilist ?_
  | refine s_itup ?_
  | refine s_iany ?_
  | refine s_ienum ?_
  | refine s_irev ?_
  | refine s_gcons ?_
  | refine s_gnil ?_
  | refine s_gtup (by ktr_room) (by with_unfolding_all rfl) ?_
  | refine s_gsub ?_
  | refine s_augS ?_
  | refine s_aug (by with_unfolding_all rfl) ?_
  | refine s_ipI ?_
  | refine s_bm ?_
  | refine s_bm0 ?_
  | refine s_tyL (by ktr_room) ?_
  | refine s_tyL0 (by ktr_room) ?_
  | refine s_sl ?_
  | refine s_part ?_
  | refine s_partv ?_
  | refine s_noPart ?_
  | refine s_lc ?_
  | refine s_yes ?_
  | refine s_wipe (by with_unfolding_all rfl) ?_
  | refine iteT ?_
  | refine s_retN ?_
  | refine s_isN ?_
  | refine s_truB ?_
  | refine s_isB2 ?_
  | refine s_notB2 ?_
  | refine s_revT ?_
  | refine s_andV ?_
  | refine s_orV ?_
  | refine s_ifE ?_
  | refine s_notK ?_
  | refine s_notN ?_
  | refine s_truL (by ktr_room) ?_
  | refine s_truT (by ktr_room) ?_))
open K1
local macro_rules | `(tactic| ktr_room) => `(tactic| first
  | (apply DR.same; assumption; ktr_room)
  | (apply sqt_butD; assumption; ktr_room; ktr_room))
namespace K1
section
variable {P : Program} {w : World} {K : PySem.W.Frag} {mg : Str → Option Value} {base : Heap}
/-! changes, rules, foes, scripts -/
def ChgQ (p n t m : Int) (d : PyData) : Prop := ChgP p n t m d
def spIsChange (K : PySem.W.Frag) : Sp := fun vs H Q _ => ∃ (su : Addr) (v : V), vs = [.ref su, v] ∧ ∃ p n t m d, SU K H su p n t m ∧ Im K H d v ∧ pl d = true ∧ ∀ H' b, Same H H' → (b = true ↔ ChgP p n t m d) → Q (.bl b) H'
theorem depth_str (x : Str) : (PyData.str x).depth = 0 := rfl
theorem eqv_str {d : PyData} {x : Str} (hp : pl d = true) (hx : strS x = true) : (PyData.eqv d (.str x) = true ↔ d = .str x) := eqv_iff d (.str x) (pl_noB d hp) rfl
theorem s_eqStr {K : PySem.W.Frag} {H : Hp} {Q : VK} {d : PyData} {v : V} {x : Str} (hd : Im K H d v) (pd : pl d = true) (hx : strS x = true) (h : Q (.bl (PyData.eqv d (.str x))) H) : rEqM K v (.str x) H Q :=
  ⟨d, .str x, Im.dp d v hd, .str x, pl_lay d pd, pl_lay (.str x) hx, by show min d.depth 0 ≤ 64; omega, h⟩
theorem chg_len {p n t m : Int} {d : PyData} (h : ChgP p n t m d) : ∃ x r, d = .tuple (.str x :: r) ∧ ((x = "drop" ∧ r = []) ∨ ∃ e, r = [e] ∧ (((x = "is" ∨ x = "add") ∧ wholeB e 0 (p - 1) = true) ∨ (x = "copy" ∧ isAddr n t m e))) := by
  obtain ⟨c, rfl, k⟩ := h
  cases c with
  | is v => exact ⟨_, _, rfl, .inr ⟨_, rfl, .inl ⟨.inl rfl, whole_of k.1 (by have := k.2; omega)⟩⟩⟩
  | add v => exact ⟨_, _, rfl, .inr ⟨_, rfl, .inl ⟨.inr rfl, whole_of k.1 (by have := k.2; omega)⟩⟩⟩
  | drop => exact ⟨_, _, rfl, .inl ⟨rfl, rfl⟩⟩
  | copy x =>
    obtain ⟨s, i, k⟩ := k
    exact ⟨_, _, rfl, .inr ⟨_, rfl, .inr ⟨rfl, s, i, x, rfl, k⟩⟩⟩
theorem im_one {K : PySem.W.Frag} {H : Hp} {a : Addr} {vs : List V} {d : PyData} (hv : SqT K H a vs) (h : Ims K H [d] vs) : ∃ v, vs = [v] ∧ Im K H d v := by
  obtain ⟨v, r, rfl, hd, rfl⟩ := h
  exact ⟨v, rfl, hd⟩
theorem ok__is_change (h : Has K mg "_is_change" (topS 15) ["setup", "value"]) (G_is_tuple : Good P w K mg base 1 "is_tuple" ["value", "least", "most"] (spIsTuple K)) (G_is_address : Good P w K mg base 4 "is_address" ["setup", "value"] (spIsAddress K)) (G_is_between : Good P w K mg base 2 "is_between" ["value", "low", "high"] (spIsBetween K)) : Good P w K mg base 5 "_is_change" ["setup", "value"] (spIsChange K) := by
  have sc : FnScope ["setup", "value", "word", "told"] ["setup", "value"] (defScope (topS 15)) := ⟨rfl, rfl, rfl, by decide +kernel, rfl, by decide +kernel, by decide +kernel⟩
  have nd := sc.nd
  refine h.good sc (fun vs H Q E h => by obtain ⟨su, v, rfl, _⟩ := h; rfl) (fun f cdv A outer s H vs Q E hr h => ?_)
  obtain ⟨su, v, rfl, hyp⟩ := h
  refine ⟨_, (pss_cons (ps_if (pt_val (pe_callG G_is_tuple (hr.mono (by first | decide | omega)) (by rfl) (pa_cons (pv 1) (pa_cons pe_int (pa_cons pe_int pa_nil)))))
  (pss_one (ps_ret (pe_cmpR (op_eqMK K hr.units) (pe_ix (ix_tupK K) (pv 1) pe_int (fun _ _ => rfl)) pe_str (nomark _)))) pss_nil)
  (pss_cons (ps_if (pt_not (pt_val (pe_callG G_is_tuple (hr.mono (by first | decide | omega)) (by rfl) (pa_cons (pv 1) (pa_cons pe_int (pa_cons pe_int pa_nil))))))
  (pss_one (ps_ret pe_bl)) pss_nil)
  (pss_cons (ps_asg (pv 1) (pg_tupK K 2 (by rfl) (pgs_cons (pg_name (i := 2) nd rfl (by first | exact .inl rfl | exact .inr rfl)) (pgs_cons (pg_name (i := 3) nd rfl (by first | exact .inl rfl | exact .inr rfl)) pgs_nil))))
  (pss_cons (ps_if (pt_cmpR (op_eqMK K hr.units) (pv 2) pe_str (nomark _))
  (pss_one (ps_ret (pe_callG G_is_address (hr.mono (by first | decide | omega)) (by rfl) (pa_cons (pv 0) (pa_cons (pv 3) pa_nil))))) pss_nil)
  (pss_one (ps_ret (pe_and (pe_or (pe_cmpR (op_eqMK K hr.units) (pv 2) pe_str (nomark _)) (pe_one (pe_cmpR (op_eqMK K hr.units) (pv 2) pe_str (nomark _)))) (pe_one (pe_callG G_is_between (hr.mono (by first | decide | omega)) (by rfl) (pa_cons (pv 3) (pa_cons pe_int (pa_cons (pe_op op_sub (pe_ix (ix_tupK K) (pv 0) pe_int (fun _ _ => rfl)) pe_int) pa_nil)))))))))))), ?_⟩
  try dsimp only [cxOf, Cx.wish]
  obtain ⟨p, n, t, m, d, hs, hd, pd, q⟩ := hyp
  have no : ∀ H', Same H H' → ¬ ChgP p n t m d → Q (.bl false) H' := fun H' s h => q H' false s ⟨fun z => (by cases z), fun z => absurd z h⟩
  refine s_seq ?_
  refine s_cut (fun σ' H' => σ' = [some (.ref su), some v, none, none] ∧ H' = H ∧ tupB d 1 1 = false) (fun N hN => ?_) ?_
  · refine s_if ?_
    kc_close
    refine ⟨v, 1, 1, rfl, d, hd, pd, ?_⟩
    kc_close
    cases ht : tupB d 1 1 with
    | false =>
      refine iteF ?_
      kc_close
      exact hN _ _ ⟨rfl, rfl, ht⟩
    | true =>
      obtain ⟨ds, rfl, l0, l1⟩ := tup_of ht
      obtain ⟨a, vs, rfl, hv, his⟩ := hd
      match ds, l0, l1, his, pd, q, no with
      | [e], _, _, his, pd, q, no =>
        obtain ⟨v, rfl, he⟩ := im_one hv his
        have pe : pl e = true := pls_mem.mp pd e (List.mem_cons_self ..)
        refine iteT ?_
        kc_close
        refine s_eqStr he pe (by decide +kernel) ?_
        refine q H _ (Same.refl _) ((eqv_str pe (by decide +kernel)).trans ⟨fun z => ?_, fun z => ?_⟩)
        · rw [z]
          exact ⟨.drop, rfl, trivial⟩
        · obtain ⟨x, r, e1, h⟩ := chg_len z
          injection e1 with e1
          injection e1 with e1 e2
          rcases h with ⟨rfl, _⟩ | ⟨e', rfl, _⟩
          · exact e1
          · cases e2
      | [], l0, _, _, _, _, _ => exact absurd l0 (by decide)
      | _ :: _ :: _, _, l1, _, _, _, _ => rw [List.length_cons, List.length_cons] at l1; omega
  rintro _ H ⟨rfl, rfl, ht1⟩
  refine s_seq ?_
  refine s_cut (fun σ' H' => σ' = [some (.ref su), some v, none, none] ∧ H' = H ∧ ∃ e1 e2, d = .tuple [e1, e2]) (fun N hN => ?_) ?_
  · refine s_if ?_
    kc_close
    refine ⟨v, 2, 2, rfl, d, hd, pd, ?_⟩
    kc_close
    cases ht : tupB d 2 2 with
    | false =>
      refine iteT ?_
      kc_close
      refine no H (Same.refl _) fun z => ?_
      obtain ⟨x, r, rfl, h⟩ := chg_len z
      rcases h with ⟨rfl, rfl⟩ | ⟨e', rfl, _⟩
      · cases ht1
      · cases ht
    | true =>
      obtain ⟨ds, rfl, l0, l1⟩ := tup_of ht
      refine iteF ?_
      kc_close
      match ds, l0, l1 with
      | [e1, e2], _, _ => exact hN _ _ ⟨rfl, rfl, e1, e2, rfl⟩
      | [], l0, _ => exact absurd l0 (by decide)
      | [_], l0, _ => rw [List.length_cons, List.length_nil] at l0; omega
      | _ :: _ :: _ :: _, _, l1 => rw [List.length_cons, List.length_cons, List.length_cons] at l1; omega
  rintro _ H ⟨rfl, rfl, e1, e2, rfl⟩
  obtain ⟨a, vs, rfl, hv, v1, _, rfl, h1, v2, _, rfl, h2, rfl⟩ := hd
  have p1 : pl e1 = true := pls_mem.mp pd e1 (List.mem_cons_self ..)
  have p2 : pl e2 = true := pls_mem.mp pd e2 (List.mem_cons_of_mem _ (List.mem_cons_self ..))
  have key : ∀ x, e1 = .str x → (ChgP p n t m (.tuple [e1, e2]) ↔ ((x = "is" ∨ x = "add") ∧ wholeB e2 0 (p - 1) = true) ∨ (x = "copy" ∧ isAddr n t m e2)) := fun x hx => by rw [hx]; exact chg_two
  kc_close
  refine s_if ?_
  kc_close
  refine s_eqStr h1 p1 (by decide +kernel) ?_
  kc_close
  cases hc : PyData.eqv e1 (.str "copy") with
  | true =>
    have ec := (eqv_str p1 (by decide +kernel)).mp hc
    refine iteT ?_
    kc_close
    refine ⟨su, v2, rfl, p, n, t, m, e2, hs, h2, p2, fun H1 b s1 hb => ?_⟩
    refine q H1 b s1 (hb.trans ?_)
    rw [key _ ec]
    exact ⟨fun z => .inr ⟨rfl, z⟩, fun z => z.elim (fun z => (by rcases z.1 with z | z <;> exact absurd z (by decide +kernel))) (fun z => z.2)⟩
  | false =>
    have nc : e1 ≠ .str "copy" := fun z => by rw [(eqv_str p1 (by decide +kernel)).mpr z] at hc; cases hc
    refine iteF ?_
    kc_close
    refine s_eqStr h1 p1 (by decide +kernel) ?_
    kc_close
    have fin : (∃ x, e1 = .str x ∧ (x = "is" ∨ x = "add")) → Q (.bl (wholeB e2 0 (p - 1))) H := fun ⟨x, ex, hx⟩ => q H _ (Same.refl _) (by
      rw [key x ex]
      exact ⟨fun z => .inl ⟨hx, z⟩, fun z => z.elim (fun z => z.2) (fun z => (by rcases hx with rfl | rfl <;> exact absurd z.1 (by decide +kernel)))⟩)
    cases hi : PyData.eqv e1 (.str "is") with
    | true =>
      have ec := (eqv_str p1 (by decide +kernel)).mp hi
      refine iteT ?_
      kc_close
      refine ⟨v2, 0, p - 1, rfl, e2, h2, p2, ?_⟩
      exact fin ⟨_, ec, .inl rfl⟩
    | false =>
      have ni : e1 ≠ .str "is" := fun z => by rw [(eqv_str p1 (by decide +kernel)).mpr z] at hi; cases hi
      refine iteF ?_
      kc_close
      refine s_eqStr h1 p1 (by decide +kernel) ?_
      kc_close
      cases ha : PyData.eqv e1 (.str "add") with
      | true =>
        have ec := (eqv_str p1 (by decide +kernel)).mp ha
        refine iteT ?_
        kc_close
        refine ⟨v2, 0, p - 1, rfl, e2, h2, p2, ?_⟩
        exact fin ⟨_, ec, .inr rfl⟩
      | false =>
        have na : e1 ≠ .str "add" := fun z => by rw [(eqv_str p1 (by decide +kernel)).mpr z] at ha; cases ha
        refine iteF ?_
        refine no H (Same.refl _) fun z => ?_
        obtain ⟨x, r, e, h⟩ := chg_len z
        injection e with e
        injection e with e3 e4
        rcases h with ⟨_, rfl⟩ | ⟨e', rfl, h⟩
        · cases e4
        · rcases h with ⟨rfl | rfl, _⟩ | ⟨rfl, _⟩
          · exact ni e3
          · exact na e3
          · exact nc e3
def RuleQ (p n t m : Int) (fs : List Int) (ad cd : PyData) : Prop := ∃ st i xs, ad = .tuple (xs.map .int) ∧ M.AddrAt n t m st i xs ∧ i ∈ fs ∧ ChgP p n t m cd
def spIsRule (K : PySem.W.Frag) : Sp := fun vs H Q _ => ∃ (su f : Addr) (v u : V), vs = [.ref su, .ref f, v, u] ∧ ∃ p n t m fs ad cd, SU K H su p n t m ∧ IsT K H f fs ∧ Im K H ad v ∧ pl ad = true ∧ Im K H cd u ∧ pl cd = true ∧ ∀ H' b, Same H H' → (b = true ↔ RuleQ p n t m fs ad cd) → Q (.bl b) H'
theorem ok__is_rule (h : Has K mg "_is_rule" (topS 14) ["setup", "foes", "address", "change"]) (G__is_change : Good P w K mg base 5 "_is_change" ["setup", "value"] (spIsChange K)) (G_is_address : Good P w K mg base 4 "is_address" ["setup", "value"] (spIsAddress K)) : Good P w K mg base 6 "_is_rule" ["setup", "foes", "address", "change"] (spIsRule K) := by
  have sc : FnScope ["setup", "foes", "address", "change"] ["setup", "foes", "address", "change"] (defScope (topS 14)) := ⟨rfl, rfl, rfl, by decide +kernel, rfl, by decide +kernel, by decide +kernel⟩
  have nd := sc.nd
  refine h.good sc (fun vs H Q E h => by obtain ⟨su, f, v, u, rfl, _⟩ := h; rfl) (fun f cdv A outer s H vs Q E hr h => ?_)
  obtain ⟨su, f, v, u, rfl, hyp⟩ := h
  refine ⟨_, (pss_one (ps_ret (pe_and (pe_callG G_is_address (hr.mono (by first | decide | omega)) (by rfl) (pa_cons (pv 0) (pa_cons (pv 2) pa_nil))) (pe_and (pe_cmpR (op_inK K) (pe_ix (ix_tupK K) (pv 2) pe_int (fun _ _ => rfl)) (pv 1) (by rfl)) (pe_one (pe_callG G__is_change (hr.mono (by first | decide | omega)) (by rfl) (pa_cons (pv 0) (pa_cons (pv 3) pa_nil)))))))), ?_⟩
  try dsimp only [cxOf, Cx.wish]
  obtain ⟨p, n, t, m, fs, ad, cd, hs, hf, ha, pa, hc, pc, q⟩ := hyp
  kc_close
  refine ⟨su, v, rfl, p, n, t, m, ad, hs, ha, pa, fun H1 b s1 hb => ?_⟩
  kc_close
  cases b with
  | false =>
    refine iteF ?_
    refine q H1 false s1 ⟨fun z => (by cases z), fun z => ?_⟩
    obtain ⟨st, i, xs, e, h, _⟩ := z
    exact hb.mpr ⟨st, i, xs, e, h⟩
  | true =>
    obtain ⟨st, i, xs, rfl, h⟩ := hb.mp rfl
    obtain ⟨a, vs, rfl, hv, his⟩ := ha
    have evs := Ims.ints his
    subst evs
    have hv1 := sqt_same s1 hv
    have hf1 := sqt_same s1 hf
    have hs1 := sqt_same s1 hs
    have e1 : (xs.map V.int)[1]? = some (.int i) := by cases h <;> rfl
    refine iteT ?_
    kc_close
    refine s_ixT hv1 (at_of (j := 1) rfl e1) ?_
    kc_close
    refine s_inI (.inr hf1) ?_
    kc_close
    refine ifP (fun hi => ?_) (fun hi => ?_)
    · kc_close
      refine ⟨su, u, rfl, p, n, t, m, cd, hs1, Im.tk (TK.same s1) _ _ hc, pc, fun H2 b2 s2 hb2 => ?_⟩
      refine q H2 b2 (s1.trans s2) (hb2.trans ⟨fun z => ⟨st, i, xs, rfl, h, hi, z⟩, fun z => ?_⟩)
      obtain ⟨_, _, _, _, _, _, z⟩ := z
      exact z
    · refine q H1 false s1 ⟨fun z => (by cases z), fun z => ?_⟩
      obtain ⟨st', i', xs', e, h', hi', _⟩ := z
      injection e with e
      have e := map_int_inj e
      subst e
      have e1' : (xs.map V.int)[1]? = some (.int i') := by cases h' <;> rfl
      rw [e1] at e1'
      injection e1' with e1'
      injection e1' with e1'
      exact absurd (e1' ▸ hi') hi
def FoesP (n t : Int) (d : PyData) : Prop := ∃ fs : List Int, d = .tuple (fs.map .int) ∧ fs.Pairwise (· < ·) ∧ (∀ i ∈ fs, M.Pty n i) ∧ (fs.length : Int) ≤ t
theorem asc_all : ∀ {fs : List Int}, (((List.range ((fs.length : Int) - 1).toNat).map fun k => decide (fs.getD k 0 < fs.getD (k + 1) 0)).all id = true ↔ fs.Pairwise (· < ·))
  | [] => ⟨fun _ => .nil, fun _ => rfl⟩
  | [x] => ⟨fun _ => List.pairwise_singleton _ _, fun _ => rfl⟩
  | x :: y :: r => by
    have ih := asc_all (fs := y :: r)
    have e : (((x :: y :: r : List Int).length : Int) - 1).toNat = (((y :: r : List Int).length : Int) - 1).toNat + 1 := by
      simp only [List.length_cons]
      omega
    rw [e, List.range_succ_eq_map, List.map_cons, List.all_cons, List.map_map, Bool.and_eq_true]
    have : (((List.range (((y :: r : List Int).length : Int) - 1).toNat).map ((fun k => decide ((x :: y :: r : List Int).getD k 0 < (x :: y :: r : List Int).getD (k + 1) 0)) ∘ Nat.succ)).all id = true ↔ (y :: r : List Int).Pairwise (· < ·)) := ih
    rw [this]
    constructor
    · rintro ⟨h1, h2⟩
      have h1' : x < y := of_decide_eq_true h1
      refine List.pairwise_cons.mpr ⟨fun z hz => ?_, h2⟩
      rcases List.mem_cons.mp hz with hz | hz
      · exact hz ▸ h1'
      · exact Int.lt_trans h1' ((List.pairwise_cons.mp h2).1 z hz)
    · intro h
      exact ⟨decide_eq_true ((List.pairwise_cons.mp h).1 y (List.mem_cons_self ..)), (List.pairwise_cons.mp h).2⟩
def spAreFoes (K : PySem.W.Frag) : Sp := fun vs H Q _ => ∃ (su : Addr) (v : V), vs = [.ref su, v] ∧ ∃ p n t m d, SU K H su p n t m ∧ t ≤ 10 ∧ Im K H d v ∧ pl d = true ∧ ∀ H' b, Same H H' → (b = true ↔ FoesP n t d) → Q (.bl b) H'
theorem ok__are_foes (T : NoB mg) (h : Has K mg "_are_foes" (topS 13) ["setup", "value"]) (G_is_between : Good P w K mg base 2 "is_between" ["value", "low", "high"] (spIsBetween K)) (G_is_tuple : Good P w K mg base 1 "is_tuple" ["value", "least", "most"] (spIsTuple K)) : Good P w K mg base 3 "_are_foes" ["setup", "value"] (spAreFoes K) := by
  have sc : FnScope ["setup", "value", "_", "n", "t", "party", "at"] ["setup", "value"] (defScope (topS 13)) := ⟨rfl, rfl, rfl, by decide +kernel, rfl, by decide +kernel, by decide +kernel⟩
  have nd := sc.nd
  refine h.good sc (fun vs H Q E h => by obtain ⟨su, v, rfl, _⟩ := h; rfl) (fun f cdv A outer s H vs Q E hr h => ?_)
  obtain ⟨su, v, rfl, hyp⟩ := h
  refine ⟨_, (pss_cons (ps_asg (pv 0) (pg_tupK K 4 (by rfl) (pgs_cons (pg_name (i := 2) nd rfl (by first | exact .inl rfl | exact .inr rfl)) (pgs_cons (pg_name (i := 3) nd rfl (by first | exact .inl rfl | exact .inr rfl)) (pgs_cons (pg_name (i := 4) nd rfl (by first | exact .inl rfl | exact .inr rfl)) (pgs_cons (pg_name (i := 2) nd rfl (by first | exact .inl rfl | exact .inr rfl)) pgs_nil))))))
  (pss_cons (ps_if (PW.pt (pw_or (pt_not (pt_val (pe_callG G_is_tuple (hr.mono (by first | decide | omega)) (by rfl) (pa_cons (pv 1) (pa_cons pe_int (pa_cons (pv 4) pa_nil)))))) (pw_or1 (pt_not (pt_val (pe_callB (cr_allK K rfl) (by rfl) T.n_all (by decide +kernel) (pa_cons (pe_lc (own := [("party", 5)]) rfl nd (pi_tupK K (pv 1)) (blkOk_by (own := [("party", 5)]) (N := ["setup", "value", "_", "n", "t", "party", "at"]) (by kernel_rfl)) (fun _ _ _ _ _ => (pg_name (i := 5) nd rfl (by first | exact .inl rfl | exact .inr rfl))) (fun _ _ _ _ _ => pts_nil) (fun _ _ _ _ _ => (pe_callG G_is_between (hr.mono (by first | decide | omega)) (by rfl) (pa_cons (pv 5) (pa_cons pe_int (pa_cons (pv 3) pa_nil)))))) pa_nil)))))))
  (pss_one (ps_ret pe_bl)) pss_nil)
  (pss_one (ps_ret (pe_callB (cr_allK K rfl) (by rfl) T.n_all (by decide +kernel) (pa_cons (pe_lc (own := [("at", 6)]) rfl nd (pi_range1 rfl T.n_range (pa_cons (pe_op op_sub (pe_callB (c_lenK K) (by rfl) T.n_len (by decide +kernel) (pa_cons (pv 1) pa_nil)) pe_int) pa_nil)) (blkOk_by (own := [("at", 6)]) (N := ["setup", "value", "_", "n", "t", "party", "at"]) (by kernel_rfl)) (fun _ _ _ _ _ => (pg_name (i := 6) nd rfl (by first | exact .inl rfl | exact .inr rfl))) (fun _ _ _ _ _ => pts_nil) (fun _ _ _ _ _ => (pe_cmpR op_lt (pe_ix (ix_tupK K) (pv 1) (pv 6) (fun _ _ => rfl)) (pe_ix (ix_tupK K) (pv 1) (pe_op op_add (pv 6) pe_int) (fun _ _ => rfl)) (nomark _)))) pa_nil)))))), ?_⟩
  try dsimp only [cxOf, Cx.wish]
  obtain ⟨p, n, t, m, d, hs, t10, hd, pd, q⟩ := hyp
  have no : ∀ H', Same H H' → ¬ FoesP n t d → Q (.bl false) H' := fun H' s h => q H' false s ⟨fun z => (by cases z), fun z => absurd z h⟩
  refine s_seq ?_
  refine s_cut (fun σ' H' => σ' = [some (.ref su), some v, some (.int m), some (.int n), some (.int t), none, none] ∧ H' = H) (fun N hN => ?_) ?_
  · kc_close
    exact hN _ _ ⟨rfl, rfl⟩
  rintro _ H ⟨rfl, rfl⟩
  refine s_seq ?_
  refine s_cut (fun σ' H' => ∃ (a : Addr) (fs : List Int), v = .ref a ∧ σ' = [some (.ref su), some v, some (.int m), some (.int n), some (.int t), none, none] ∧ Same H H' ∧ IsT K H' a fs ∧ d = .tuple (fs.map .int) ∧ (fs.length : Int) ≤ t ∧ ∀ i ∈ fs, M.Pty n i) (fun N hN => ?_) ?_
  · refine s_if ?_
    kc_close
    refine ⟨v, 0, t, rfl, d, hd, pd, ?_⟩
    kc_close
    cases ht : tupB d 0 t with
    | false =>
      refine iteT ?_
      refine iteT ?_
      kc_close
      refine no H (Same.refl _) fun z => ?_
      obtain ⟨fs, rfl, _, _, hl⟩ := z
      rw [tupB_of (by omega) (by rw [List.length_map]; exact hl)] at ht
      cases ht
    | true =>
      obtain ⟨ds, rfl, l0, l1⟩ := tup_of ht
      obtain ⟨a, vs, rfl, hv, his⟩ := hd
      have lvs := Ims.length his
      have pds : pls ds = true := pd
      refine iteF ?_
      kc_close
      refine s_itupv hv ?_
      refine l_mapT (fun i => V.bl (wholeB (ds.getD i .none) 1 n)) hv (by omega) ?_ ?_
      · intro D N' i y H' e s' k'
        obtain ⟨e1, ee, he⟩ := Ims.get his e
        have pe := pls_mem.mp pds e1 (List.mem_of_getElem? ee)
        kc_close
        refine ⟨y, 1, n, rfl, e1, Im.tk (TK.same s') _ _ he, pe, ?_⟩
        have := k' _ (Same.refl _)
        rw [List.getD_eq_getElem?_getD, ee] at this
        exact this
      intro B H2 nB s2 eB
      have eB2 := ims_map (fun e => wholeB e 1 n) (ims_same s2 his) eB
      kc_close
      refine s_all (SqL.of eB2) ?_
      kc_close
      cases hb : ((ds.map fun d => wholeB d 1 n).all id) with
      | false =>
        refine iteT ?_
        kc_close
        refine no H2 s2 fun z => ?_
        obtain ⟨fs, e, _, hp, _⟩ := z
        injection e with e
        have : ((ds.map fun d => wholeB d 1 n).all id) = true := by
          rw [e, List.all_map, List.all_map, List.all_eq_true]
          intro x hx
          exact whole_of (hp x hx).1 (hp x hx).2
        rw [this] at hb
        cases hb
      | true =>
        refine iteF ?_
        kc_close
        rw [List.all_map, List.all_eq_true] at hb
        obtain ⟨xs, ex, hx⟩ := all_whole hb
        subst ex
        have evs := Ims.ints his
        subst evs
        rw [List.length_map] at l1
        exact hN _ _ ⟨a, xs, rfl, rfl, s2, sqt_same s2 hv, rfl, l1, hx⟩
  rintro _ H1 ⟨a, fs, rfl, rfl, s1, hf1, rfl, few, pty⟩
  kc_close
  rw [List.length_map]
  refine s_rng1v (by omega) (by omega) ?_
  refine l_mapR (fun k => V.bl (decide (fs.getD k 0 < fs.getD (k + 1) 0))) (by omega) ?_ ?_
  · intro D N' k H' hk s' k'
    have hf' : IsT K H' a fs := sqt_same s' hf1
    kc_close
    refine s_ixT hf' (at_intI (k := k) (by omega) (by omega)) ?_
    kc_close
    refine s_ixT hf' (at_intI (k := k + 1) (by omega) (by omega)) ?_
    kc_close
    exact k' _ (Same.refl _)
  intro B H2 nB s2 eB
  have eB2 : H2 B = some (.lst (((List.range ((fs.length : Int) - 1).toNat).map fun k => decide (fs.getD k 0 < fs.getD (k + 1) 0)).map V.bl)) := by
    rw [eB, List.map_map]
    rfl
  kc_close
  refine s_all (SqL.of eB2) ?_
  refine q H2 _ (s1.trans s2) (asc_all.trans ⟨fun z => ⟨fs, rfl, z, pty, few⟩, fun z => ?_⟩)
  obtain ⟨fs', e, z, _⟩ := z
  injection e with e
  rw [map_int_inj e]
  exact z
end
end K1
end
section
open PySem PySem.Spec PyProof.Rows L2 Z
local macro_rules | `(tactic| ktr_room) => `(tactic| first
  | assumption
  | (apply SqT.of; assumption)
  | (apply SqL.of; assumption)
  | (apply sqt_same; assumption; ktr_room)
  | (apply sql_same; assumption; ktr_room)
  | (apply sqt_but; assumption; assumption; ktr_room)
  | (apply sql_but; assumption; assumption; ktr_room)
  | (apply Same.of_; assumption; ktr_room)
  | (apply But.of_; assumption; assumption; ktr_room)
  | exact same_refl
  | exact but_refl
  | (apply same_tr; assumption; ktr_room)
  | (apply same_but; assumption; ktr_room; assumption)
  | (apply but_tr; assumption; ktr_room)
  | (apply but_trB; assumption; ktr_room))
local macro_rules | `(tactic| ktr_units) => `(tactic| first | with_reducible assumption | omega | rfl | exact ⟨by omega, by omega⟩ | exact .inl ⟨by omega, by omega⟩ | exact .inr ⟨by omega, by omega⟩ | exact ⟨by decide, by decide, by decide⟩ | exact Nat.le_of_ble_eq_true rfl | decide)
local macro_rules | `(tactic| kc_close) => `(tactic| repeat (with_reducible first
  | refine s_var (by with_unfolding_all rfl) ?_
  | refine s_c ?_
  | refine s_op ?_
  | refine s_rI0 ?_
  | refine s_asg ?_
  | refine s_gname ?_
  | refine s_seq ?_
  | refine s_cons ?_
  | refine s_nil ?_
  | refine s_call ?_
  | refine s_ret ?_
  | o_fieldsN
  | refine s_test ?_
  | refine s_bl ?_
  | refine s_rI (by with_unfolding_all (ktr_units)) ?_
  | refine s_rEq rfl ?_
  | refine s_rNe rfl ?_
  | refine s_cb ?_
  | refine s_int1 ?_
  | refine s_intB ?_
  | refine s_max2 ?_
  | refine s_min2 ?_
  | refine s_tup ?_
  | refine s_lst ?_
  | refine s_newT (by with_unfolding_all first | decide | exact Nat.le_of_ble_eq_true rfl) ?_
  | refine s_newL (by with_unfolding_all first | decide | exact Nat.le_of_ble_eq_true rfl) ?_
  | refine s_ixT (by ktr_room) (by with_unfolding_all rfl) ?_
  | refine s_ixL (by ktr_room) (by with_unfolding_all rfl) ?_
  | refine s_lenT (by ktr_room) ?_
  | refine s_lenL (by ktr_room) ?_
  | refine s_un ?_
  | refine s_rU ?_
  | refine s_and ?_
  | refine s_or ?_
  | refine s_not ?_
  | refine s_tB ?_
  | refine s_tru ?_
  | refine s_drop ?_
  | refine s_next ?_
  | refine s_for ?_
  | refine s_rng1 ?_
  | refine s_rng2 ?_
  | refine s_rng3 ?_
  | refine s_ilist ?_
  | refine s_itup ?_
  | refine s_iany ?_
  | refine s_ienum ?_
  | refine s_irev ?_
  | refine s_gcons ?_
  | refine s_gnil ?_
  | refine s_gtup (by ktr_room) (by with_unfolding_all rfl) ?_
  | refine s_gsub ?_
  | refine s_augS ?_
  | refine s_aug (by with_unfolding_all rfl) ?_
  | refine s_ipI ?_
  | refine s_bm ?_
  | refine s_bm0 ?_
  | refine s_tyL (by ktr_room) ?_
  | refine s_tyL0 (by ktr_room) ?_
  | refine s_sl ?_
  | refine s_part ?_
  | refine s_partv ?_
  | refine s_noPart ?_
  | refine s_lc ?_
  | refine s_yes ?_
  | refine s_wipe (by with_unfolding_all rfl) ?_
  | refine iteT ?_
  | refine s_retN ?_
  | refine s_isN ?_
  | refine s_truB ?_
  | refine s_isB2 ?_
  | refine s_notB2 ?_
  | refine s_revT ?_
  | refine s_andV ?_
  | refine s_orV ?_
  | refine s_ifE ?_
  | refine s_notK ?_
  | refine s_notN ?_
  | refine s_truL (by ktr_room) ?_
  | refine s_truT (by ktr_room) ?_))
open K1
local macro_rules | `(tactic| ktr_room) => `(tactic| first
  | (apply DR.same; assumption; ktr_room)
  | (apply sqt_butD; assumption; ktr_room; ktr_room))
namespace K1
section
variable {P : Program} {w : World} {K : PySem.W.Frag} {mg : Str → Option Value} {base : Heap}
theorem rule_pair {p n t m : Int} {fs : List Int} {ad cd : PyData} : RulePx p n t m fs (.tuple [ad, cd]) ↔ RuleQ p n t m fs ad cd := by
  constructor
  · rintro ⟨ad', cd', st, i, xs, e, ea, h, hi, hc⟩
    injection e with e
    injection e with e1 e
    injection e with e2 e
    subst e1 e2
    exact ⟨st, i, xs, ea, h, hi, hc⟩
  · rintro ⟨st, i, xs, ea, h, hi, hc⟩
    exact ⟨ad, cd, st, i, xs, rfl, ea, h, hi, hc⟩
noncomputable def ruleB (p n t m : Int) (fs : List Int) (d : PyData) : Bool := @decide (RulePx p n t m fs d) (Classical.propDecidable _)
theorem ruleB_iff {p n t m : Int} {fs : List Int} {d : PyData} : ruleB p n t m fs d = true ↔ RulePx p n t m fs d := @decide_eq_true_iff _ (Classical.propDecidable _)
theorem ok_is_script (T : NoB mg) (W : Gs K mg) (h : Has K mg "is_script" (topS 12) ["setup", "value"]) (G_is_tuple : Good P w K mg base 1 "is_tuple" ["value", "least", "most"] (spIsTuple K)) (G_are_pairs : Good P w K mg base 2 "are_pairs" ["value", "least", "most"] (spArePairs K)) (G__are_foes : Good P w K mg base 3 "_are_foes" ["setup", "value"] (spAreFoes K)) (G__is_rule : Good P w K mg base 6 "_is_rule" ["setup", "foes", "address", "change"] (spIsRule K)) : Good P w K mg base 140 "is_script" ["setup", "value"] (spIsScript K) := by
  have sc : FnScope ["setup", "value", "foes", "rules", "address", "change"] ["setup", "value"] (defScope (topS 12)) := ⟨rfl, rfl, rfl, by decide +kernel, rfl, by decide +kernel, by decide +kernel⟩
  have nd := sc.nd
  refine h.good sc (fun vs H Q E h => by obtain ⟨su, v, rfl, _⟩ := h; rfl) (fun f cdv A outer s H vs Q E hr h => ?_)
  obtain ⟨su, v, rfl, hyp⟩ := h
  refine ⟨_, (pss_cons (ps_if (pt_not (pt_val (pe_callG G_is_tuple (hr.mono (by first | decide | omega)) (by rfl) (pa_cons (pv 1) (pa_cons pe_int (pa_cons pe_int pa_nil))))))
  (pss_one (ps_ret pe_bl)) pss_nil)
  (pss_cons (ps_asg (pv 1) (pg_tupK K 2 (by rfl) (pgs_cons (pg_name (i := 2) nd rfl (by first | exact .inl rfl | exact .inr rfl)) (pgs_cons (pg_name (i := 3) nd rfl (by first | exact .inl rfl | exact .inr rfl)) pgs_nil))))
  (pss_cons (ps_if (PW.pt (pw_or (pt_not (pt_val (pe_callG G__are_foes (hr.mono (by first | decide | omega)) (by rfl) (pa_cons (pv 0) (pa_cons (pv 2) pa_nil))))) (pw_or1 (pt_not (pt_val (pe_callG G_are_pairs (hr.mono (by first | decide | omega)) (by rfl) (pa_cons (pv 3) (pa_cons pe_int (pa_cons (pe_globE (by rfl) W.g_MOST_RULES) pa_nil)))))))))
  (pss_one (ps_ret pe_bl)) pss_nil)
  (pss_one (ps_ret (pe_callB (cr_allK K rfl) (by rfl) T.n_all (by decide +kernel) (pa_cons (pe_lc (own := [("address", 4), ("change", 5)]) rfl nd (pi_tupK K (pv 3)) (blkOk_by (own := [("address", 4), ("change", 5)]) (N := ["setup", "value", "foes", "rules", "address", "change"]) (by kernel_rfl)) (fun _ _ _ _ _ => (pg_tupK K 2 (by rfl) (pgs_cons (pg_name (i := 4) nd rfl (by first | exact .inl rfl | exact .inr rfl)) (pgs_cons (pg_name (i := 5) nd rfl (by first | exact .inl rfl | exact .inr rfl)) pgs_nil)))) (fun _ _ _ _ _ => pts_nil) (fun _ _ _ _ _ => (pe_callG G__is_rule (hr.mono (by first | decide | omega)) (by rfl) (pa_cons (pv 0) (pa_cons (pv 2) (pa_cons (pv 4) (pa_cons (pv 5) pa_nil))))))) pa_nil))))))), ?_⟩
  try dsimp only [cxOf, Cx.wish]
  obtain ⟨p, n, t, m, d, hs, ok, hd, pd, _, _, q⟩ := hyp
  have ot2 := ok.t2
  have no : ∀ H', Same H H' → ¬ isScr p n t m d → Q (.bl false) H' := fun H' s h => q H' false s ⟨fun z => (by cases z), fun z => absurd z h⟩
  refine s_seq ?_
  refine s_cut (fun σ' H' => σ' = [some (.ref su), some v, none, none, none, none] ∧ H' = H ∧ ∃ e1 e2, d = .tuple [e1, e2]) (fun N hN => ?_) ?_
  · refine s_if ?_
    kc_close
    refine ⟨v, 2, 2, rfl, d, hd, pd, ?_⟩
    kc_close
    cases ht : tupB d 2 2 with
    | false =>
      refine iteT ?_
      kc_close
      refine no H (Same.refl _) fun z => ?_
      obtain ⟨foes, rs, rfl, _⟩ := scr_form z
      cases ht
    | true =>
      obtain ⟨ds, rfl, l0, l1⟩ := tup_of ht
      refine iteF ?_
      kc_close
      match ds, l0, l1 with
      | [e1, e2], _, _ => exact hN _ _ ⟨rfl, rfl, e1, e2, rfl⟩
      | [], l0, _ => exact absurd l0 (by decide)
      | [_], l0, _ => rw [List.length_cons, List.length_nil] at l0; omega
      | _ :: _ :: _ :: _, _, l1 => rw [List.length_cons, List.length_cons, List.length_cons] at l1; omega
  rintro _ H ⟨rfl, rfl, e1, e2, rfl⟩
  obtain ⟨a, vs, rfl, hv, v1, _, rfl, h1, v2, _, rfl, h2, rfl⟩ := hd
  have p1 : pl e1 = true := pls_mem.mp pd e1 (List.mem_cons_self ..)
  have p2 : pl e2 = true := pls_mem.mp pd e2 (List.mem_cons_of_mem _ (List.mem_cons_self ..))
  refine s_seq ?_
  refine s_cut (fun σ' H' => σ' = [some (.ref su), some (.ref a), some v1, some v2, none, none] ∧ H' = H) (fun N hN => ?_) ?_
  · kc_close
    exact hN _ _ ⟨rfl, rfl⟩
  rintro _ H ⟨rfl, rfl⟩
  refine s_seq ?_
  refine s_cut (fun σ' H' => ∃ (f r : Addr) (fs : List Int) (rs : List PyData) (rv : List V), v1 = .ref f ∧ v2 = .ref r ∧ σ' = [some (.ref su), some (.ref a), some (.ref f), some (.ref r), none, none] ∧ Same H H' ∧ e1 = .tuple (fs.map .int) ∧ e2 = .tuple rs ∧ IsT K H' f fs ∧ SqT K H' r rv ∧ Ims K H' rs rv ∧ fs.Pairwise (· < ·) ∧ (∀ i ∈ fs, M.Pty n i) ∧ (fs.length : Int) ≤ t ∧ rs.length ≤ 40 ∧ ∀ x ∈ rs, ∃ y z, x = .tuple [y, z]) (fun N hN => ?_) ?_
  · refine s_if ?_
    kc_close
    refine ⟨su, v1, rfl, p, n, t, m, e1, hs, by omega, h1, p1, fun H1 b s1 hb => ?_⟩
    kc_close
    cases b with
    | false =>
      refine iteT ?_
      refine iteT ?_
      kc_close
      refine no H1 s1 fun z => ?_
      obtain ⟨foes, rs, e, k⟩ := scr_form z
      injection e with e
      injection e with e3 e
      subst e3
      cases hb.mpr ⟨foes, rfl, k.asc, k.pty, k.few⟩
    | true =>
      obtain ⟨fs, rfl, asc, pty, few⟩ := hb.mp rfl
      obtain ⟨f, fv, rfl, hf, hfi⟩ := h1
      have efv := Ims.ints hfi
      subst efv
      have hf1 : IsT K H1 f fs := sqt_same s1 hf
      refine iteF ?_
      kc_close
      refine ⟨v2, 0, 40, rfl, e2, Im.tk (TK.same s1) _ _ h2, p2, by decide, fun H2 s2 => ?_⟩
      kc_close
      cases hp : pairsB e2 0 40 with
      | false =>
        refine iteT ?_
        kc_close
        refine no H2 (s1.trans s2) fun z => ?_
        obtain ⟨foes, rs, e, k⟩ := scr_form z
        injection e with e
        injection e with e3 e
        injection e with e4 e
        subst e4
        have l40 := k.len
        have : pairsB (.tuple rs) 0 40 = true := by
          show (tupB (.tuple rs) 0 40 && rs.all fun e => tupB e 2 2) = true
          rw [tupB_of (by omega) (by omega), Bool.true_and, List.all_eq_true]
          intro x hx
          obtain ⟨ad, cd, _, _, _, rfl, _⟩ := k.rule x hx
          rfl
        rw [hp] at this
        cases this
      | true =>
        refine iteF ?_
        kc_close
        obtain ⟨rs, rfl⟩ : ∃ rs, e2 = .tuple rs := by
          cases e2 with
          | tuple rs => exact ⟨rs, rfl⟩
          | _ => cases hp
        have hp' : (tupB (.tuple rs) 0 40 && rs.all fun e => tupB e 2 2) = true := hp
        rw [Bool.and_eq_true, List.all_eq_true] at hp'
        obtain ⟨_, e, _, l40⟩ := tup_of hp'.1
        injection e with e
        subst e
        obtain ⟨r, rv, rfl, hr, hri⟩ := h2
        refine hN _ _ ⟨f, r, fs, rs, rv, rfl, rfl, rfl, s1.trans s2, rfl, rfl, sqt_same s2 hf1, sqt_same (s1.trans s2) hr, ims_same (s1.trans s2) hri, asc, pty, few, by omega, fun x hx => ?_⟩
        obtain ⟨ds, rfl, l0, l1⟩ := tup_of (hp'.2 x hx)
        match ds, l0, l1 with
        | [e1, e2], _, _ => exact ⟨e1, e2, rfl⟩
        | [], l0, _ => exact absurd l0 (by decide)
        | [_], l0, _ => rw [List.length_cons, List.length_nil] at l0; omega
        | _ :: _ :: _ :: _, _, l1 => rw [List.length_cons, List.length_cons, List.length_cons] at l1; omega
  rintro _ H1 ⟨f, r, fs, rs, rv, rfl, rfl, rfl, s1, rfl, rfl, hf1, hr1, hri1, asc, pty, few, l40, prs⟩
  have hs1 : SU K H1 su p n t m := sqt_same s1 hs
  have lrv := Ims.length hri1
  have prl : pls rs = true := p2
  kc_close
  refine s_itupv hr1 ?_
  refine l_mapT (fun i => V.bl (ruleB p n t m fs (rs.getD i .none))) hr1 (by omega) ?_ ?_
  · intro D N' i y H' e s' k'
    obtain ⟨e1, ee, he⟩ := Ims.get hri1 e
    have pe := pls_mem.mp prl e1 (List.mem_of_getElem? ee)
    obtain ⟨ad, cd, rfl⟩ := prs e1 (List.mem_of_getElem? ee)
    obtain ⟨ra, _, rfl, hra, av, _, rfl, ha, cv, _, rfl, hc, rfl⟩ := he
    have hra' := sqt_same s' hra
    kc_close
    refine ⟨su, f, av, cv, rfl, p, n, t, m, fs, ad, cd, sqt_same s' hs1, sqt_same s' hf1, Im.tk (TK.same s') _ _ ha, pls_mem.mp pe ad (List.mem_cons_self ..), Im.tk (TK.same s') _ _ hc, pls_mem.mp pe cd (List.mem_cons_of_mem _ (List.mem_cons_self ..)), fun H4 b s4 hb => ?_⟩
    have := k' _ s4
    rw [List.getD_eq_getElem?_getD, ee] at this
    have eb : ruleB p n t m fs ((some (PyData.tuple [ad, cd])).getD .none) = b := by
      have h2 : ruleB p n t m fs (.tuple [ad, cd]) = true ↔ b = true := ruleB_iff.trans (rule_pair.trans hb.symm)
      show ruleB p n t m fs (.tuple [ad, cd]) = b
      cases b with
      | true => exact h2.mpr rfl
      | false =>
        cases hx : ruleB p n t m fs (.tuple [ad, cd]) with
        | false => rfl
        | true => cases h2.mp hx
    rw [eb] at this
    exact this
  intro B H2 nB s2 eB
  have eB2 := ims_map (fun e => ruleB p n t m fs e) (ims_same s2 hri1) eB
  kc_close
  refine s_all (SqL.of eB2) ?_
  refine q H2 _ (s1.trans s2) ?_
  rw [isScr_iff, List.all_map, List.all_eq_true]
  constructor
  · intro h
    exact ⟨asc, pty, few, l40, fun x hx => ruleB_iff.mp (h x hx)⟩
  · intro k x hx
    exact ruleB_iff.mpr (k.rule x hx)
end
end K1
end
section
open PySem PySem.Spec PyProof.Rows L2 Z
namespace K1
theorem has_mk {K : PySem.W.Frag} {h : Heap} {mg : Str → Option Value} {x : Str} {st : Stmt} {ps : List Str} {f : Addr} {oc : Value} {od an : Option Addr} {osl : Array (Option Value)} {kV doc pm cdv ct : Value} (X : K.In h) (G : h.Ns mainGlobals mg) (a : PySem.W.nsIn K mainGlobals x = some (some (.ref f)))
    (l : K.lookup f = some ⟨oc, od, .func (PySem.W.fnOf x x (defArgs st) (defBody st) (defScope st) .none kV doc pm an cdv ct), osl⟩) (c : PySem.W.codeIn K cdv x = true) (k : PySem.W.keepIn K (.ref f) = true)
    (hb : ∀ (kV doc pm : Value) (an : Option Addr) (cdv ct : Value) (us : List Value), us.length = ps.length → bindArgs (PySem.W.fnOf x x (defArgs st) (defBody st) (defScope st) .none kV doc pm an cdv ct) ⟨us, []⟩ = pure (ps.zip us)) : Z.Has K mg x st ps :=
  ⟨f, _, fun_mk l c k, PySem.W.mg_of X G a, (fun_mk l c k).binds hb⟩
theorem all_mk {l : PySem.W.OpenLaw} {w : World} {K : PySem.W.Frag} {h : Heap} {mg : Str → Option Value} {fa f1 f2 f3 f4 f5 f6 f7 f8 f9 f10 f11 f12 f13 f14 f15 f16 f17 f18 f19 f20 f21 f22 f23 : Addr} (X : K.In h) (G : h.Ns mainGlobals mg) (hfa : mg "law" = some (.ref fa))
    {od1 an1 od2 an2 od3 an3 od4 an4 od5 an5 od6 an6 od7 an7 od8 an8 od9 an9 od10 an10 od11 an11 od12 an12 od13 an13 od14 an14 od15 an15 od16 an16 od17 an17 od18 an18 od19 an19 od20 an20 od21 an21 od22 an22 od23 an23 : Option Addr} {sl1 sl2 sl3 sl4 sl5 sl6 sl7 sl8 sl9 sl10 sl11 sl12 sl13 sl14 sl15 sl16 sl17 sl18 sl19 sl20 sl21 sl22 sl23 : Array (Option Value)} {oc1 kV1 dc1 pm1 cd1 ct1 oc2 kV2 dc2 pm2 cd2 ct2 oc3 kV3 dc3 pm3 cd3 ct3 oc4 kV4 dc4 pm4 cd4 ct4 oc5 kV5 dc5 pm5 cd5 ct5 oc6 kV6 dc6 pm6 cd6 ct6 oc7 kV7 dc7 pm7 cd7 ct7 oc8 kV8 dc8 pm8 cd8 ct8 oc9 kV9 dc9 pm9 cd9 ct9 oc10 kV10 dc10 pm10 cd10 ct10 oc11 kV11 dc11 pm11 cd11 ct11 oc12 kV12 dc12 pm12 cd12 ct12 oc13 kV13 dc13 pm13 cd13 ct13 oc14 kV14 dc14 pm14 cd14 ct14 oc15 kV15 dc15 pm15 cd15 ct15 oc16 kV16 dc16 pm16 cd16 ct16 oc17 kV17 dc17 pm17 cd17 ct17 oc18 kV18 dc18 pm18 cd18 ct18 oc19 kV19 dc19 pm19 cd19 ct19 oc20 kV20 dc20 pm20 cd20 ct20 oc21 kV21 dc21 pm21 cd21 ct21 oc22 kV22 dc22 pm22 cd22 ct22 oc23 kV23 dc23 pm23 cd23 ct23 : Value}
    (a1 : PySem.W.nsIn K mainGlobals "_law_start" = some (some (.ref f1))) (l1 : K.lookup f1 = some ⟨oc1, od1, .func (PySem.W.fnOf "_law_start" "_law_start" (defArgs (topS 17)) (defBody (topS 17)) (defScope (topS 17)) .none kV1 dc1 pm1 an1 cd1 ct1), sl1⟩) (c1 : PySem.W.codeIn K cd1 "_law_start" = true) (k1 : PySem.W.keepIn K (.ref f1) = true)
    (a2 : PySem.W.nsIn K mainGlobals "_law_fill" = some (some (.ref f2))) (l2 : K.lookup f2 = some ⟨oc2, od2, .func (PySem.W.fnOf "_law_fill" "_law_fill" (defArgs (topS 18)) (defBody (topS 18)) (defScope (topS 18)) .none kV2 dc2 pm2 an2 cd2 ct2), sl2⟩) (c2 : PySem.W.codeIn K cd2 "_law_fill" = true) (k2 : PySem.W.keepIn K (.ref f2) = true)
    (a3 : PySem.W.nsIn K mainGlobals "_law_take" = some (some (.ref f3))) (l3 : K.lookup f3 = some ⟨oc3, od3, .func (PySem.W.fnOf "_law_take" "_law_take" (defArgs (topS 19)) (defBody (topS 19)) (defScope (topS 19)) .none kV3 dc3 pm3 an3 cd3 ct3), sl3⟩) (c3 : PySem.W.codeIn K cd3 "_law_take" = true) (k3 : PySem.W.keepIn K (.ref f3) = true)
    (a4 : PySem.W.nsIn K mainGlobals "_law_setup" = some (some (.ref f4))) (l4 : K.lookup f4 = some ⟨oc4, od4, .func (PySem.W.fnOf "_law_setup" "_law_setup" (defArgs (topS 20)) (defBody (topS 20)) (defScope (topS 20)) .none kV4 dc4 pm4 an4 cd4 ct4), sl4⟩) (c4 : PySem.W.codeIn K cd4 "_law_setup" = true) (k4 : PySem.W.keepIn K (.ref f4) = true)
    (a5 : PySem.W.nsIn K mainGlobals "_law_foes" = some (some (.ref f5))) (l5 : K.lookup f5 = some ⟨oc5, od5, .func (PySem.W.fnOf "_law_foes" "_law_foes" (defArgs (topS 23)) (defBody (topS 23)) (defScope (topS 23)) .none kV5 dc5 pm5 an5 cd5 ct5), sl5⟩) (c5 : PySem.W.codeIn K cd5 "_law_foes" = true) (k5 : PySem.W.keepIn K (.ref f5) = true)
    (a6 : PySem.W.nsIn K mainGlobals "_law_party" = some (some (.ref f6))) (l6 : K.lookup f6 = some ⟨oc6, od6, .func (PySem.W.fnOf "_law_party" "_law_party" (defArgs (topS 24)) (defBody (topS 24)) (defScope (topS 24)) .none kV6 dc6 pm6 an6 cd6 ct6), sl6⟩) (c6 : PySem.W.codeIn K cd6 "_law_party" = true) (k6 : PySem.W.keepIn K (.ref f6) = true)
    (a7 : PySem.W.nsIn K mainGlobals "_law_address" = some (some (.ref f7))) (l7 : K.lookup f7 = some ⟨oc7, od7, .func (PySem.W.fnOf "_law_address" "_law_address" (defArgs (topS 25)) (defBody (topS 25)) (defScope (topS 25)) .none kV7 dc7 pm7 an7 cd7 ct7), sl7⟩) (c7 : PySem.W.codeIn K cd7 "_law_address" = true) (k7 : PySem.W.keepIn K (.ref f7) = true)
    (a8 : PySem.W.nsIn K mainGlobals "_law_rules" = some (some (.ref f8))) (l8 : K.lookup f8 = some ⟨oc8, od8, .func (PySem.W.fnOf "_law_rules" "_law_rules" (defArgs (topS 26)) (defBody (topS 26)) (defScope (topS 26)) .none kV8 dc8 pm8 an8 cd8 ct8), sl8⟩) (c8 : PySem.W.codeIn K cd8 "_law_rules" = true) (k8 : PySem.W.keepIn K (.ref f8) = true)
    (a9 : PySem.W.nsIn K mainGlobals "is_tuple" = some (some (.ref f9))) (l9 : K.lookup f9 = some ⟨oc9, od9, .func (PySem.W.fnOf "is_tuple" "is_tuple" (defArgs (topS 3)) (defBody (topS 3)) (defScope (topS 3)) .none kV9 dc9 pm9 an9 cd9 ct9), sl9⟩) (c9 : PySem.W.codeIn K cd9 "is_tuple" = true) (k9 : PySem.W.keepIn K (.ref f9) = true)
    (a10 : PySem.W.nsIn K mainGlobals "are_pairs" = some (some (.ref f10))) (l10 : K.lookup f10 = some ⟨oc10, od10, .func (PySem.W.fnOf "are_pairs" "are_pairs" (defArgs (topS 4)) (defBody (topS 4)) (defScope (topS 4)) .none kV10 dc10 pm10 an10 cd10 ct10), sl10⟩) (c10 : PySem.W.codeIn K cd10 "are_pairs" = true) (k10 : PySem.W.keepIn K (.ref f10) = true)
    (a11 : PySem.W.nsIn K mainGlobals "is_integer" = some (some (.ref f11))) (l11 : K.lookup f11 = some ⟨oc11, od11, .func (PySem.W.fnOf "is_integer" "is_integer" (defArgs (topS 1)) (defBody (topS 1)) (defScope (topS 1)) .none kV11 dc11 pm11 an11 cd11 ct11), sl11⟩) (c11 : PySem.W.codeIn K cd11 "is_integer" = true) (k11 : PySem.W.keepIn K (.ref f11) = true)
    (a12 : PySem.W.nsIn K mainGlobals "is_between" = some (some (.ref f12))) (l12 : K.lookup f12 = some ⟨oc12, od12, .func (PySem.W.fnOf "is_between" "is_between" (defArgs (topS 2)) (defBody (topS 2)) (defScope (topS 2)) .none kV12 dc12 pm12 an12 cd12 ct12), sl12⟩) (c12 : PySem.W.codeIn K cd12 "is_between" = true) (k12 : PySem.W.keepIn K (.ref f12) = true)
    (a13 : PySem.W.nsIn K mainGlobals "_are_foes" = some (some (.ref f13))) (l13 : K.lookup f13 = some ⟨oc13, od13, .func (PySem.W.fnOf "_are_foes" "_are_foes" (defArgs (topS 13)) (defBody (topS 13)) (defScope (topS 13)) .none kV13 dc13 pm13 an13 cd13 ct13), sl13⟩) (c13 : PySem.W.codeIn K cd13 "_are_foes" = true) (k13 : PySem.W.keepIn K (.ref f13) = true)
    (a14 : PySem.W.nsIn K mainGlobals "_is_part" = some (some (.ref f14))) (l14 : K.lookup f14 = some ⟨oc14, od14, .func (PySem.W.fnOf "_is_part" "_is_part" (defArgs (topS 9)) (defBody (topS 9)) (defScope (topS 9)) .none kV14 dc14 pm14 an14 cd14 ct14), sl14⟩) (c14 : PySem.W.codeIn K cd14 "_is_part" = true) (k14 : PySem.W.keepIn K (.ref f14) = true)
    (a15 : PySem.W.nsIn K mainGlobals "is_address" = some (some (.ref f15))) (l15 : K.lookup f15 = some ⟨oc15, od15, .func (PySem.W.fnOf "is_address" "is_address" (defArgs (topS 8)) (defBody (topS 8)) (defScope (topS 8)) .none kV15 dc15 pm15 an15 cd15 ct15), sl15⟩) (c15 : PySem.W.codeIn K cd15 "is_address" = true) (k15 : PySem.W.keepIn K (.ref f15) = true)
    (a16 : PySem.W.nsIn K mainGlobals "_is_change" = some (some (.ref f16))) (l16 : K.lookup f16 = some ⟨oc16, od16, .func (PySem.W.fnOf "_is_change" "_is_change" (defArgs (topS 15)) (defBody (topS 15)) (defScope (topS 15)) .none kV16 dc16 pm16 an16 cd16 ct16), sl16⟩) (c16 : PySem.W.codeIn K cd16 "_is_change" = true) (k16 : PySem.W.keepIn K (.ref f16) = true)
    (a17 : PySem.W.nsIn K mainGlobals "_is_rule" = some (some (.ref f17))) (l17 : K.lookup f17 = some ⟨oc17, od17, .func (PySem.W.fnOf "_is_rule" "_is_rule" (defArgs (topS 14)) (defBody (topS 14)) (defScope (topS 14)) .none kV17 dc17 pm17 an17 cd17 ct17), sl17⟩) (c17 : PySem.W.codeIn K cd17 "_is_rule" = true) (k17 : PySem.W.keepIn K (.ref f17) = true)
    (a18 : PySem.W.nsIn K mainGlobals "is_script" = some (some (.ref f18))) (l18 : K.lookup f18 = some ⟨oc18, od18, .func (PySem.W.fnOf "is_script" "is_script" (defArgs (topS 12)) (defBody (topS 12)) (defScope (topS 12)) .none kV18 dc18 pm18 an18 cd18 ct18), sl18⟩) (c18 : PySem.W.codeIn K cd18 "is_script" = true) (k18 : PySem.W.keepIn K (.ref f18) = true)
    (a19 : PySem.W.nsIn K mainGlobals "_law_at_bound" = some (some (.ref f19))) (l19 : K.lookup f19 = some ⟨oc19, od19, .func (PySem.W.fnOf "_law_at_bound" "_law_at_bound" (defArgs (topS 30)) (defBody (topS 30)) (defScope (topS 30)) .none kV19 dc19 pm19 an19 cd19 ct19), sl19⟩) (c19 : PySem.W.codeIn K cd19 "_law_at_bound" = true) (k19 : PySem.W.keepIn K (.ref f19) = true)
    (a20 : PySem.W.nsIn K mainGlobals "_law_bounds" = some (some (.ref f20))) (l20 : K.lookup f20 = some ⟨oc20, od20, .func (PySem.W.fnOf "_law_bounds" "_law_bounds" (defArgs (topS 27)) (defBody (topS 27)) (defScope (topS 27)) .none kV20 dc20 pm20 an20 cd20 ct20), sl20⟩) (c20 : PySem.W.codeIn K cd20 "_law_bounds" = true) (k20 : PySem.W.keepIn K (.ref f20) = true)
    (a21 : PySem.W.nsIn K mainGlobals "_law_beyond" = some (some (.ref f21))) (l21 : K.lookup f21 = some ⟨oc21, od21, .func (PySem.W.fnOf "_law_beyond" "_law_beyond" (defArgs (topS 28)) (defBody (topS 28)) (defScope (topS 28)) .none kV21 dc21 pm21 an21 cd21 ct21), sl21⟩) (c21 : PySem.W.codeIn K cd21 "_law_beyond" = true) (k21 : PySem.W.keepIn K (.ref f21) = true)
    (a22 : PySem.W.nsIn K mainGlobals "_law_bad_change" = some (some (.ref f22))) (l22 : K.lookup f22 = some ⟨oc22, od22, .func (PySem.W.fnOf "_law_bad_change" "_law_bad_change" (defArgs (topS 29)) (defBody (topS 29)) (defScope (topS 29)) .none kV22 dc22 pm22 an22 cd22 ct22), sl22⟩) (c22 : PySem.W.codeIn K cd22 "_law_bad_change" = true) (k22 : PySem.W.keepIn K (.ref f22) = true)
    (a23 : PySem.W.nsIn K mainGlobals "law" = some (some (.ref f23))) (l23 : K.lookup f23 = some ⟨oc23, od23, .func (PySem.W.fnOf "law" "law" (defArgs (topS 31)) (defBody (topS 31)) (defScope (topS 31)) .none kV23 dc23 pm23 an23 cd23 ct23), sl23⟩) (c23 : PySem.W.codeIn K cd23 "law" = true) (k23 : PySem.W.keepIn K (.ref f23) = true)
    (z0 : PySem.W.nsIn K mainGlobals "all" = some none)
    (z1 : PySem.W.nsIn K mainGlobals "bool" = some none)
    (z2 : PySem.W.nsIn K mainGlobals "int" = some none)
    (z3 : PySem.W.nsIn K mainGlobals "isinstance" = some none)
    (z4 : PySem.W.nsIn K mainGlobals "len" = some none)
    (z5 : PySem.W.nsIn K mainGlobals "list" = some none)
    (z6 : PySem.W.nsIn K mainGlobals "range" = some none)
    (z7 : PySem.W.nsIn K mainGlobals "sorted" = some none)
    (z8 : PySem.W.nsIn K mainGlobals "str" = some none)
    (z9 : PySem.W.nsIn K mainGlobals "tuple" = some none)
    (z10 : PySem.W.nsIn K mainGlobals "zip" = some none)
    {tv0 : Tok} (v0 : PySem.W.nsIn K mainGlobals "MOST_RULES" = some (some (.int 40 tv0)))
    {aD0 : Addr} {eD0 : Array DictEntry} {nD0 : Nat} {bD0_0 bD0_1 bD0_2 bD0_3 : Addr} {dD0_0 dD0_1 dD0_2 dD0_3 : Option Addr} {iD0_0 iD0_1 iD0_2 iD0_3 : Array Value} {mD0_0 mD0_1 mD0_2 mD0_3 : Nat} {sD0_0 sD0_1 sD0_2 sD0_3 : Array (Option Value)}
    (ga0 : PySem.W.nsIn K mainGlobals "DIFFERENT" = some (some (.ref aD0))) (gl0 : K.lookup aD0 = some ⟨.type "dict", none, .dict eD0 nD0, #[]⟩) (ge0 : rowsOf eD0.toList = some [(1, bD0_0), (2, bD0_1), (3, bD0_2), (4, bD0_3)]) (gs0 : (aD0 == sysModules) = false)
    (gq0_0 : K.lookup bD0_0 = some ⟨.type "tuple", dD0_0, .seq iD0_0 mD0_0, sD0_0⟩) (gr0_0 : iD0_0.toList.map absV = ([.int 1, .int 2] : List V).map some)
    (gq0_1 : K.lookup bD0_1 = some ⟨.type "tuple", dD0_1, .seq iD0_1 mD0_1, sD0_1⟩) (gr0_1 : iD0_1.toList.map absV = ([.int 1, .int 2] : List V).map some)
    (gq0_2 : K.lookup bD0_2 = some ⟨.type "tuple", dD0_2, .seq iD0_2 mD0_2, sD0_2⟩) (gr0_2 : iD0_2.toList.map absV = ([.int 1, .int 4] : List V).map some)
    (gq0_3 : K.lookup bD0_3 = some ⟨.type "tuple", dD0_3, .seq iD0_3 mD0_3, sD0_3⟩) (gr0_3 : iD0_3.toList.map absV = ([.int 3, .int 4] : List V).map some)
    {aD1 : Addr} {eD1 : Array DictEntry} {nD1 : Nat} {bD1_0 bD1_1 bD1_2 bD1_3 bD1_4 bD1_5 bD1_6 bD1_7 : Addr} {dD1_0 dD1_1 dD1_2 dD1_3 dD1_4 dD1_5 dD1_6 dD1_7 : Option Addr} {iD1_0 iD1_1 iD1_2 iD1_3 iD1_4 iD1_5 iD1_6 iD1_7 : Array Value} {mD1_0 mD1_1 mD1_2 mD1_3 mD1_4 mD1_5 mD1_6 mD1_7 : Nat} {sD1_0 sD1_1 sD1_2 sD1_3 sD1_4 sD1_5 sD1_6 sD1_7 : Array (Option Value)}
    (ga1 : PySem.W.nsIn K mainGlobals "FORMS" = some (some (.ref aD1))) (gl1 : K.lookup aD1 = some ⟨.type "dict", none, .dict eD1 nD1, #[]⟩) (ge1 : rowsOf eD1.toList = some [(1, bD1_0), (2, bD1_1), (3, bD1_2), (4, bD1_3), (5, bD1_4), (6, bD1_5), (7, bD1_6), (8, bD1_7)]) (gs1 : (aD1 == sysModules) = false)
    (gq1_0 : K.lookup bD1_0 = some ⟨.type "tuple", dD1_0, .seq iD1_0 mD1_0, sD1_0⟩) (gr1_0 : iD1_0.toList.map absV = ([.str "party", .str "party", .str "index", .str "place"] : List V).map some)
    (gq1_1 : K.lookup bD1_1 = some ⟨.type "tuple", dD1_1, .seq iD1_1 mD1_1, sD1_1⟩) (gr1_1 : iD1_1.toList.map absV = ([.str "party", .str "party", .str "party", .str "index"] : List V).map some)
    (gq1_2 : K.lookup bD1_2 = some ⟨.type "tuple", dD1_2, .seq iD1_2 mD1_2, sD1_2⟩) (gr1_2 : iD1_2.toList.map absV = ([.str "party", .str "board", .str "party", .str "party"] : List V).map some)
    (gq1_3 : K.lookup bD1_3 = some ⟨.type "tuple", dD1_3, .seq iD1_3 mD1_3, sD1_3⟩) (gr1_3 : iD1_3.toList.map absV = ([.str "party", .str "board", .str "party", .str "party", .str "index"] : List V).map some)
    (gq1_4 : K.lookup bD1_4 = some ⟨.type "tuple", dD1_4, .seq iD1_4 mD1_4, sD1_4⟩) (gr1_4 : iD1_4.toList.map absV = ([.str "party", .str "board", .str "party"] : List V).map some)
    (gq1_5 : K.lookup bD1_5 = some ⟨.type "tuple", dD1_5, .seq iD1_5 mD1_5, sD1_5⟩) (gr1_5 : iD1_5.toList.map absV = ([.str "party", .str "board", .str "party", .str "index", .str "place"] : List V).map some)
    (gq1_6 : K.lookup bD1_6 = some ⟨.type "tuple", dD1_6, .seq iD1_6 mD1_6, sD1_6⟩) (gr1_6 : iD1_6.toList.map absV = ([.str "party", .str "board", .str "party"] : List V).map some)
    (gq1_7 : K.lookup bD1_7 = some ⟨.type "tuple", dD1_7, .seq iD1_7 mD1_7, sD1_7⟩) (gr1_7 : iD1_7.toList.map absV = ([.str "party", .str "board", .str "index"] : List V).map some)
    : ∃ fd : FuncData, (∀ (s : Shared) (v : Value), BindsTo s fd ⟨[v], []⟩ [("script", v)]) ∧ ∀ base : Heap, K.In base → base.Ns mainGlobals mg → FnOk l.prog w K mg base CX0 141 fa fd ["script"] (spLaw K) := by
  have e := hfa.symm.trans (PySem.W.mg_of X G a23)
  cases e
  have T : NoB mg := ⟨PySem.W.mg_none_of X G z0, PySem.W.mg_none_of X G z1, PySem.W.mg_none_of X G z2, PySem.W.mg_none_of X G z3, PySem.W.mg_none_of X G z4, PySem.W.mg_none_of X G z5, PySem.W.mg_none_of X G z6, PySem.W.mg_none_of X G z7, PySem.W.mg_none_of X G z8, PySem.W.mg_none_of X G z9, PySem.W.mg_none_of X G z10⟩
  have hR0 : refAt mg "DIFFERENT" = aD0 := by unfold refAt; rw [PySem.W.mg_of X G ga0]
  have hR1 : refAt mg "FORMS" = aD1 := by unfold refAt; rw [PySem.W.mg_of X G ga1]
  have W : Gs K mg := ⟨⟨_, PySem.W.mg_of X G ga0, by rw [hR0]; rfl⟩, ⟨_, _, _, _, by rw [hR0]; exact wint_mk gl0 ge0 gs0, wtup_mk gq0_0 (by decide) gr0_0, wtup_mk gq0_1 (by decide) gr0_1, wtup_mk gq0_2 (by decide) gr0_2, wtup_mk gq0_3 (by decide) gr0_3⟩, ⟨_, PySem.W.mg_of X G ga1, by rw [hR1]; rfl⟩, ⟨_, _, _, _, _, _, _, _, by rw [hR1]; exact wint_mk gl1 ge1 gs1, wtup_mk gq1_0 (by decide) gr1_0, wtup_mk gq1_1 (by decide) gr1_1, wtup_mk gq1_2 (by decide) gr1_2, wtup_mk gq1_3 (by decide) gr1_3, wtup_mk gq1_4 (by decide) gr1_4, wtup_mk gq1_5 (by decide) gr1_5, wtup_mk gq1_6 (by decide) gr1_6, wtup_mk gq1_7 (by decide) gr1_7⟩, ⟨_, PySem.W.mg_of X G v0, ⟨_, rfl⟩⟩⟩
  have h__law_start := has_mk (st := topS 17) (ps := ["script"]) X G a1 l1 c1 k1 (fun _ _ _ _ _ _ us hl => match us, hl with | [_], _ => rfl)
  have h__law_fill := has_mk (st := topS 18) (ps := ["d"]) X G a2 l2 c2 k2 (fun _ _ _ _ _ _ us hl => match us, hl with | [_], _ => rfl)
  have h__law_take := has_mk (st := topS 19) (ps := ["d", "many"]) X G a3 l3 c3 k3 (fun _ _ _ _ _ _ us hl => match us, hl with | [_, _], _ => rfl)
  have h__law_setup := has_mk (st := topS 20) (ps := ["d", "most"]) X G a4 l4 c4 k4 (fun _ _ _ _ _ _ us hl => match us, hl with | [_, _], _ => rfl)
  have h__law_foes := has_mk (st := topS 23) (ps := ["d", "setup"]) X G a5 l5 c5 k5 (fun _ _ _ _ _ _ us hl => match us, hl with | [_, _], _ => rfl)
  have h__law_party := has_mk (st := topS 24) (ps := ["d", "setup", "other"]) X G a6 l6 c6 k6 (fun _ _ _ _ _ _ us hl => match us, hl with | [_, _, _], _ => rfl)
  have h__law_address := has_mk (st := topS 25) (ps := ["d", "setup", "sender"]) X G a7 l7 c7 k7 (fun _ _ _ _ _ _ us hl => match us, hl with | [_, _, _], _ => rfl)
  have h__law_rules := has_mk (st := topS 26) (ps := ["d", "setup", "foes", "most"]) X G a8 l8 c8 k8 (fun _ _ _ _ _ _ us hl => match us, hl with | [_, _, _, _], _ => rfl)
  have h_is_tuple := has_mk (st := topS 3) (ps := ["value", "least", "most"]) X G a9 l9 c9 k9 (fun _ _ _ _ _ _ us hl => match us, hl with | [_, _, _], _ => rfl)
  have h_are_pairs := has_mk (st := topS 4) (ps := ["value", "least", "most"]) X G a10 l10 c10 k10 (fun _ _ _ _ _ _ us hl => match us, hl with | [_, _, _], _ => rfl)
  have h_is_integer := has_mk (st := topS 1) (ps := ["value"]) X G a11 l11 c11 k11 (fun _ _ _ _ _ _ us hl => match us, hl with | [_], _ => rfl)
  have h_is_between := has_mk (st := topS 2) (ps := ["value", "low", "high"]) X G a12 l12 c12 k12 (fun _ _ _ _ _ _ us hl => match us, hl with | [_, _, _], _ => rfl)
  have h__are_foes := has_mk (st := topS 13) (ps := ["setup", "value"]) X G a13 l13 c13 k13 (fun _ _ _ _ _ _ us hl => match us, hl with | [_, _], _ => rfl)
  have h__is_part := has_mk (st := topS 9) (ps := ["setup", "word", "part"]) X G a14 l14 c14 k14 (fun _ _ _ _ _ _ us hl => match us, hl with | [_, _, _], _ => rfl)
  have h_is_address := has_mk (st := topS 8) (ps := ["setup", "value"]) X G a15 l15 c15 k15 (fun _ _ _ _ _ _ us hl => match us, hl with | [_, _], _ => rfl)
  have h__is_change := has_mk (st := topS 15) (ps := ["setup", "value"]) X G a16 l16 c16 k16 (fun _ _ _ _ _ _ us hl => match us, hl with | [_, _], _ => rfl)
  have h__is_rule := has_mk (st := topS 14) (ps := ["setup", "foes", "address", "change"]) X G a17 l17 c17 k17 (fun _ _ _ _ _ _ us hl => match us, hl with | [_, _, _, _], _ => rfl)
  have h_is_script := has_mk (st := topS 12) (ps := ["setup", "value"]) X G a18 l18 c18 k18 (fun _ _ _ _ _ _ us hl => match us, hl with | [_, _], _ => rfl)
  have h__law_at_bound := has_mk (st := topS 30) (ps := ["d", "setup", "foes", "change"]) X G a19 l19 c19 k19 (fun _ _ _ _ _ _ us hl => match us, hl with | [_, _, _, _], _ => rfl)
  have h__law_bounds := has_mk (st := topS 27) (ps := ["setup", "address"]) X G a20 l20 c20 k20 (fun _ _ _ _ _ _ us hl => match us, hl with | [_, _], _ => rfl)
  have h__law_beyond := has_mk (st := topS 28) (ps := ["d", "setup", "address"]) X G a21 l21 c21 k21 (fun _ _ _ _ _ _ us hl => match us, hl with | [_, _, _], _ => rfl)
  have h__law_bad_change := has_mk (st := topS 29) (ps := ["d", "setup", "change"]) X G a22 l22 c22 k22 (fun _ _ _ _ _ _ us hl => match us, hl with | [_, _, _], _ => rfl)
  refine ⟨PySem.W.fnOf "law" "law" (defArgs (topS 31)) (defBody (topS 31)) (defScope (topS 31)) .none kV23 dc23 pm23 an23 cd23 ct23, fun s v => .of_eq rfl, fun base _ _ => ?_⟩
  have G__law_start := ok__law_start (P := l.prog) (w := w) (base := base) T h__law_start
  have G__law_fill := ok__law_fill (P := l.prog) (w := w) (base := base) T h__law_fill
  have G__law_take := ok__law_take (P := l.prog) (w := w) (base := base) T h__law_take G__law_fill
  have G__law_setup := ok__law_setup (P := l.prog) (w := w) (base := base) h__law_setup G__law_take
  have G__law_foes := ok__law_foes (P := l.prog) (w := w) (base := base) T h__law_foes G__law_take
  have G__law_party := ok__law_party (P := l.prog) (w := w) (base := base) T h__law_party G__law_take
  have G__law_address := ok__law_address (P := l.prog) (w := w) (base := base) h__law_address G__law_take G__law_party
  have G__law_rules := ok__law_rules (P := l.prog) (w := w) (base := base) T h__law_rules G__law_take G__law_address
  have G_is_tuple := ok_is_tuple (P := l.prog) (w := w) (base := base) T h_is_tuple
  have G_are_pairs := ok_are_pairs (P := l.prog) (w := w) (base := base) T h_are_pairs G_is_tuple
  have G_is_integer := ok_is_integer (P := l.prog) (w := w) (base := base) T h_is_integer
  have G_is_between := ok_is_between (P := l.prog) (w := w) (base := base) h_is_between G_is_integer
  have G__are_foes := ok__are_foes (P := l.prog) (w := w) (base := base) T h__are_foes G_is_between G_is_tuple
  have G__is_part := ok__is_part (P := l.prog) (w := w) (base := base) h__is_part G_is_between
  have G_is_address := ok_is_address (P := l.prog) (w := w) (base := base) T W h_is_address G_is_between G_is_tuple G__is_part
  have G__is_change := ok__is_change (P := l.prog) (w := w) (base := base) h__is_change G_is_tuple G_is_address G_is_between
  have G__is_rule := ok__is_rule (P := l.prog) (w := w) (base := base) h__is_rule G__is_change G_is_address
  have G_is_script := ok_is_script (P := l.prog) (w := w) (base := base) T W h_is_script G_is_tuple G_are_pairs G__are_foes G__is_rule
  have G__law_at_bound := ok__law_at_bound (P := l.prog) (w := w) (base := base) h__law_at_bound G__law_address G__law_take
  have G__law_bounds := ok__law_bounds (P := l.prog) (w := w) (base := base) h__law_bounds
  have G__law_beyond := ok__law_beyond (P := l.prog) (w := w) (base := base) T h__law_beyond G__law_bounds G__law_take
  have G__law_bad_change := ok__law_bad_change (P := l.prog) (w := w) (base := base) T h__law_bad_change G__law_beyond G__law_take
  exact ok_law T (fun_mk (st := topS 31) l23 c23 k23) G__law_start G__law_setup G__law_foes G__law_rules G__law_take G_is_script G__law_at_bound G__law_bad_change G__law_beyond
end K1
end
open PySem PySem.W PyProof.Rows
set_option maxHeartbeats 0 in
theorem PySem.Challenge.cw_sortes_k15_scripts_at_their_bounds_holds : PySem.Challenge.rw_sortes_k15_scripts_at_their_bounds.Holds := by
  w_on; o_law; k_head; (case hw => w_witness2)
  k_fill
  refine L2.walk_of (l := PySem.Challenge.rw_sortes_k15_scripts_at_their_bounds) (n := 63) (k := 141) (x := "script") (CX := fun _ => L2.CX0) (sp := fun w => K1.spLaw _) rfl (by decide) rfl ⟨rfl, by decide, by decide⟩ (fun w h Y => PySem.W.kIn_of Y) ?F (fun _ _ a ns hl _ hS => ⟨a, rfl, ⟨ns, hS, hl⟩, fun _ => rfl⟩) (fun _ _ _ _ _ h => h)
  case F =>
    intro w mg fa h KX G hmg
    refine' K1.all_mk KX G hmg ?a1 ?l1 ?c1 ?k1 ?a2 ?l2 ?c2 ?k2 ?a3 ?l3 ?c3 ?k3 ?a4 ?l4 ?c4 ?k4 ?a5 ?l5 ?c5 ?k5 ?a6 ?l6 ?c6 ?k6 ?a7 ?l7 ?c7 ?k7 ?a8 ?l8 ?c8 ?k8 ?a9 ?l9 ?c9 ?k9 ?a10 ?l10 ?c10 ?k10 ?a11 ?l11 ?c11 ?k11 ?a12 ?l12 ?c12 ?k12 ?a13 ?l13 ?c13 ?k13 ?a14 ?l14 ?c14 ?k14 ?a15 ?l15 ?c15 ?k15 ?a16 ?l16 ?c16 ?k16 ?a17 ?l17 ?c17 ?k17 ?a18 ?l18 ?c18 ?k18 ?a19 ?l19 ?c19 ?k19 ?a20 ?l20 ?c20 ?k20 ?a21 ?l21 ?c21 ?k21 ?a22 ?l22 ?c22 ?k22 ?a23 ?l23 ?c23 ?k23 ?z0 ?z1 ?z2 ?z3 ?z4 ?z5 ?z6 ?z7 ?z8 ?z9 ?z10 ?v0 ?ga0 ?gl0 ?ge0 ?gs0 ?gq0_0 ?gr0_0 ?gq0_1 ?gr0_1 ?gq0_2 ?gr0_2 ?gq0_3 ?gr0_3 ?ga1 ?gl1 ?ge1 ?gs1 ?gq1_0 ?gr1_0 ?gq1_1 ?gr1_1 ?gq1_2 ?gr1_2 ?gq1_3 ?gr1_3 ?gq1_4 ?gr1_4 ?gq1_5 ?gr1_5 ?gq1_6 ?gr1_6 ?gq1_7 ?gr1_7
    (case a1 => k_is); (case l1 => k_is); (case c1 => k_is); (case k1 => k_is); (case a2 => k_is); (case l2 => k_is); (case c2 => k_is); (case k2 => k_is); (case a3 => k_is); (case l3 => k_is); (case c3 => k_is); (case k3 => k_is); (case a4 => k_is); (case l4 => k_is); (case c4 => k_is); (case k4 => k_is); (case a5 => k_is); (case l5 => k_is); (case c5 => k_is); (case k5 => k_is); (case a6 => k_is); (case l6 => k_is); (case c6 => k_is); (case k6 => k_is); (case a7 => k_is); (case l7 => k_is); (case c7 => k_is); (case k7 => k_is); (case a8 => k_is); (case l8 => k_is); (case c8 => k_is); (case k8 => k_is); (case a9 => k_is); (case l9 => k_is); (case c9 => k_is); (case k9 => k_is); (case a10 => k_is); (case l10 => k_is); (case c10 => k_is); (case k10 => k_is); (case a11 => k_is); (case l11 => k_is); (case c11 => k_is); (case k11 => k_is); (case a12 => k_is); (case l12 => k_is); (case c12 => k_is); (case k12 => k_is); (case a13 => k_is); (case l13 => k_is); (case c13 => k_is); (case k13 => k_is); (case a14 => k_is); (case l14 => k_is); (case c14 => k_is); (case k14 => k_is); (case a15 => k_is); (case l15 => k_is); (case c15 => k_is); (case k15 => k_is); (case a16 => k_is); (case l16 => k_is); (case c16 => k_is); (case k16 => k_is); (case a17 => k_is); (case l17 => k_is); (case c17 => k_is); (case k17 => k_is); (case a18 => k_is); (case l18 => k_is); (case c18 => k_is); (case k18 => k_is); (case a19 => k_is); (case l19 => k_is); (case c19 => k_is); (case k19 => k_is); (case a20 => k_is); (case l20 => k_is); (case c20 => k_is); (case k20 => k_is); (case a21 => k_is); (case l21 => k_is); (case c21 => k_is); (case k21 => k_is); (case a22 => k_is); (case l22 => k_is); (case c22 => k_is); (case k22 => k_is); (case a23 => k_is); (case l23 => k_is); (case c23 => k_is); (case k23 => k_is); (case z0 => k_is); (case z1 => k_is); (case z2 => k_is); (case z3 => k_is); (case z4 => k_is); (case z5 => k_is); (case z6 => k_is); (case z7 => k_is); (case z8 => k_is); (case z9 => k_is); (case z10 => k_is); (case v0 => k_is); (case ga0 => k_is); (case gl0 => k_is); (case ge0 => (rfl)); (case gs0 => decide); (case gq0_0 => k_is); (case gr0_0 => (rfl)); (case gq0_1 => k_is); (case gr0_1 => (rfl)); (case gq0_2 => k_is); (case gr0_2 => (rfl)); (case gq0_3 => k_is); (case gr0_3 => (rfl)); (case ga1 => k_is); (case gl1 => k_is); (case ge1 => (rfl)); (case gs1 => decide); (case gq1_0 => k_is); (case gr1_0 => (rfl)); (case gq1_1 => k_is); (case gr1_1 => (rfl)); (case gq1_2 => k_is); (case gr1_2 => (rfl)); (case gq1_3 => k_is); (case gr1_3 => (rfl)); (case gq1_4 => k_is); (case gr1_4 => (rfl)); (case gq1_5 => k_is); (case gr1_5 => (rfl)); (case gq1_6 => k_is); (case gr1_6 => (rfl)); (case gq1_7 => k_is); (case gr1_7 => (rfl))
