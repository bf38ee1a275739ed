import PyProof.Rows.All
import Wide.All
import OpenK.AllK
import Wide.FinOn
import HandS.ForMost
import HandS.Rev
import HandS.TupAny
import HandS.IsInst
import HandS.Flow
import KE.GoesMore
import KE.GoesEnum
import HandS.SortInts
import HandS.Style
import HandS.TupLe
import HandS.TupMul
import PyProof.AutoSeq1
import HandS.Zip
import KE.KMathGC
import KE.KeyNested
import KE.KDictKeyed
import PySem.Challenge.RW_sortes_k31_sizes_and_outcomes
set_option Elab.async false
set_option linter.all false
set_option maxRecDepth 100000
set_option maxHeartbeats 4000000
namespace Z
open PySem PySem.Spec PyProof.Rows L2
/-! xs[k] op= e: the item of a list read -/
theorem get_list {X : Cx} : PGet X (fun o i H Q => ∃ p xs k v, o = .ref p ∧ i = .int k ∧ SqL X.K H p xs ∧ 0 ≤ k ∧ xs[k.toNat]? = some v ∧ Q v H) := by
  intro pins s σ H o i ov iv Q I r1 r2 h
  obtain ⟨p, xs, k, v, rfl, rfl, hq, h0, hx, q⟩ := h
  cases r1
  obtain ⟨t, rfl⟩ := r2
  obtain ⟨its, r, pl, hz⟩ := I.list hq
  obtain ⟨u, eu, ru⟩ := r.get hx
  have hl := r.length
  have hn := line63
  have hlt : k.toNat < xs.length := by
    have := List.getElem?_eq_some_iff.mp hx
    exact this.1
  exact wpAny_getItem_list pl.isList h0 (by omega) (by simpa using eu) ⟨v, H, I, ru, q⟩
/-! enumerate of a tuple -/
theorem meets_enum_new1 {v : Value} {o : Obj} {F : Heap → Prop} (B : Begins v o F) :
    Meets (Builtin.«enumerate.__new__» ⟨[.type "enumerate", v], []⟩) (fun _ R s => F s.heap ∧
      R (.ok (.ret (.ref (s.heap.push o).objs.size))) { s with heap := (s.heap.push o).push { cls := .type "enumerate", data := .fields #[.none, .bool false, .ref s.heap.objs.size, rawInt 0, .none, .none] } }) :=
  .of_wp fun prog w A R s h => by
    obtain ⟨hp, g, d, tk, os⟩ := s
    obtain ⟨h1, h⟩ := h
    have hsub := sub_enumerate
    have q1 : ∀ {A' : Around} {E Q : Value → Shared → Prop}, Q (.ref hp.objs.size) ⟨hp.push o, g, d, tk, os⟩ → wpAny (model prog w) A' (pyIter v) Q E ⟨hp, g, d, tk, os⟩ :=
      fun q => B.iter prog w _ _ ⟨hp, g, d, tk, os⟩ _ h1 q
    wp_walk using q1
    refine wpAny_stack_any fun st => wpAny_pure ?_
    split
    · rename_i c _ _ _ _ _
      cases (c == Value.type "enumerate") <;> (wp_walk using q1; exact ⟨_, rfl, h⟩)
    · (wp_walk using q1; exact ⟨_, rfl, h⟩)
theorem enum_new1 {prog : Program} {w : World} {A : Around} {E : Value → Shared → Prop} {s : Shared} {v : Value} {o : Obj} {G : Heap → Prop} {Q : Value → Shared → Prop} (B : Begins v o G) (h1 : G s.heap)
    (h : ∀ h', IsEnum h' (s.heap.objs.size + 1) s.heap.objs.size 0 .none → h'.get? s.heap.objs.size = some o →
      (∀ b o, s.heap.get? b = some o → h'.get? b = some o) → Q (.ref (s.heap.objs.size + 1)) { s with heap := h' }) :
    wpAny (model prog w) A (call (.type "enumerate") [v]) Q E s := by
  refine callType_new F.called_enumerate (by decide) (F.typeCall_enumerate_1 _) (F.newCall_enumerate_1 _) (fun obj => F.args_object_init_2 obj _) F.entry_enumerate_new
    (meets_enum_new1 B) ⟨h1, ?_⟩
  have hz : (s.heap.push o).objs.size = s.heap.objs.size + 1 := Heap.size_push ..
  show _ ∧ _
  rw [hz]
  have he : IsEnum ((s.heap.push o).push { cls := .type "enumerate", data := .fields #[.none, .bool false, .ref s.heap.objs.size, rawInt 0, .none, .none] }) (s.heap.objs.size + 1) s.heap.objs.size 0 .none := by
    have e1 := Heap.get?_push_size (s.heap.push o) (o := { cls := .type "enumerate", data := .fields #[.none, .bool false, .ref s.heap.objs.size, rawInt 0, .none, .none] }) rfl
    rw [hz] at e1
    exact e1
  exact ⟨⟨_, he, rfl⟩, h _ he (Heap.get?_push_of_some _ (Heap.get?_push_size _ B.free)) fun b o x => Heap.get?_push_of_some _ (Heap.get?_push_of_some _ x)⟩
/-- the tuple at a, each item in a new pair -/
def IteT (K : PySem.W.Frag) (a : Addr) : It :=
  ⟨fun i H => ∃ (xs : List V) (x : V), SqT K H a xs ∧ xs[i]? = some x, fun i H v H' => ∃ T x, v = .ref T ∧ H T = none ∧ H' = upd H T (.tup [.int (i : Nat), x]) ∧ ∀ xs, SqT K H a xs → xs[i]? = some x, fun i H => ∃ xs : List V, SqT K H a xs ∧ xs.length ≤ i⟩
theorem enumT_end {prog : Program} {w : World} {A : Around} {E : Value → Shared → Prop} {s : Shared} {e it t : Addr} {i : Nat} {items : Array Value} {old : Value} {Q : Option Value → Shared → Prop} (hh : A.handled = none)
    (he : IsEnum s.heap e it i old) (hit : s.heap.IsTupleIter it t i) (ht : s.heap.IsTuple t items) (hx : items[i]? = none)
    (hQ : ∀ h', Heap.ExtBut it s.heap h' → Q none { s with heap := h' }) : wpAny (model prog w) A (pyNext (.ref e)) Q E s := by
  have hT : s.TypeIs (.ref e) "enumerate" := ⟨_, he, rfl⟩
  unfold pyNext
  refine wpAny_bind (wpAny_attempt (wpAny_callSpecial?_slot (name := Str.ofString "__next__") hT F.slot_enumerate_next
    (wpAny_call_entry F.slot_enumerate_next hT F.entry_enumerate_next ?_ (F.args_enumerate_next_1 _))))
  show wpAny _ _ (field (.ref e) 2 >>= _) _ _ _
  refine wpAny_bind (wpAny_field he rfl (x := .ref it) rfl ?_)
  refine wpAny_bind (wpAny_nextOf_tuple_end hh hit ht hx fun h' x he' hx' => ?_)
  obtain ⟨o, ho, hc⟩ := hx'
  refine wpAny_bind (wpAny_isInstance (T := "StopIteration") (b := true) ⟨o, ho, hc⟩ isSubtype_stop ?_)
  exact wpAny_pure (hQ _ he')
theorem turn_enumT {P : Program} {w : World} {K : PySem.W.Frag} {elts : List Expr} {kk : Nat} {tpos : Pos} (a e it : Addr) :
    Turn P w K (.Tuple elts kk tpos) (IteT K a) [e, it] e (fun i h => (∃ old, IsEnum h e it ((i : Nat) : Int) old) ∧ h.IsTupleIter it a i ∧ e ≠ it ∧ a ≠ it ∧ e ≠ a) where
  mem := by simp
  obj := fun i h st b hb => by
    obtain ⟨⟨old, he⟩, ⟨o, ho, hc, hd⟩, _⟩ := st
    have e' : b = e ∨ b = it := by simpa using hb
    rcases e' with z | z
    · rw [z]
      exact ⟨_, he, fun v q => nomatch q⟩
    · rw [z]
      exact ⟨o, ho, fun v q => by rw [hd] at q; cases q⟩
  keep := fun i h h' st k => by
    obtain ⟨⟨old, he⟩, hi, hne⟩ := st
    exact ⟨⟨old, k e (by simp) _ he⟩, hi.at fun o q => k it (by simp) o q, hne⟩
  item := by
    intro X hP hw hK hc i pins s σ H E I hf st hg
    subst hP hw hK
    obtain ⟨⟨old, he⟩, hit, hne, hai, hea⟩ := st
    obtain ⟨xs, x, hq, hx⟩ := hg
    obtain ⟨its, rv, p, hz⟩ := I.tuple hq
    obtain ⟨u, hu, ru⟩ := rv.get hx
    have hel : e < s.heap.objs.size := Heap.lt_size he
    have hil : it < s.heap.objs.size := by
      obtain ⟨_, q, _⟩ := hit
      exact Heap.lt_size q
    have hlt : i < its.toArray.size := by
      obtain ⟨h1, _⟩ := List.getElem?_eq_some_iff.mp hu
      simpa using h1
    have D := Draws.tuple (prog := X.prog) (w := X.w) (A := X.A.in1) (show X.A.in1.handled = none from I.ok.hd hc) it a hai its.toArray
    refine wpAny_pyNext_enum_itemD D he ⟨hit, p⟩ hlt hne (by simp [hne, hea]) fun u' h' tk hP ho hst' hT hsz hk => ?_
    have eu : u' = u := by
      have h2 : its.toArray[i]? = some u' := hP
      have h3 : its.toArray[i]? = some u := by simpa using hu
      rw [h2] at h3
      exact Option.some.inj h3
    subst eu
    refine ⟨_, rfl, wpAny_letOwnedTupleGo_enum (s := { s with heap := h', toks := tk + 1 }) ho fun h'' he' sb => ?_⟩
    have hT2 : h''.get? s.heap.objs.size = some { cls := .type "tuple", data := .seq #[.int i tk, u'] } := (sb.2 _ (Nat.ne_of_gt hel)).trans hT
    have new : ObjOk X.prog X.w (upd H s.heap.objs.size (.tup [.int (i : Nat), x])) h'' s.heap.objs.size (.tup [.int (i : Nat), x]) :=
      ⟨by show 2 ≤ sizeLine; decide, [.int i tk, u'], .cons ⟨_, rfl⟩ (.cons ru .nil), ⟨_, hT2, rfl, _, rfl⟩⟩
    have I1 : Inv X pins σ (upd H s.heap.objs.size (.tup [.int (i : Nat), x])) { s with heap := h'', toks := tk + 1 } :=
      I.turnedNew (ch := [e, it]) (fun b ob hb q => (sb.2 b (fun z => hb (by simp [z]))).trans (hk b ob (fun z => hb (by simp [z])) (fun z => hb (by simp [z])) q)) hf (Nat.le_refl _) new
    refine ⟨.ref s.heap.objs.size, _, I1, rfl, ⟨_, x, rfl, I.hok.fresh (Nat.le_refl _), rfl, fun ys hy => by rw [I.tuple_inj hy hq]; exact hx⟩, ⟨⟨u', ?_⟩, hst'.1.at fun o q => (sb.2 it (Ne.symm hne)).trans q, hne, hai, hea⟩, fun b hb => ?_⟩
    · have e1 : ((i + 1 : Nat) : Int) = (i : Int) + 1 := by omega
      rw [e1]
      exact he'
    · have hb' : b < s.heap.objs.size := by
        have e' : b = e ∨ b = it := by simpa using hb
        rcases e' with z | z
        · rw [z]; exact hel
        · rw [z]; exact hil
      rw [upd_ne (Nat.ne_of_lt hb')]
      exact (hf b hb).1
  done := by
    intro X hP hw hK hc i pins s σ H E I hf st hg
    subst hP hw hK
    obtain ⟨⟨old, he⟩, hit, hne, hai, hea⟩ := st
    obtain ⟨xs, hq, hx⟩ := hg
    obtain ⟨its, rv, p, hz⟩ := I.tuple hq
    obtain ⟨f0, f1, f2, f3, f4, f5⟩ := hf it (by simp)
    have hl := rv.length
    exact enumT_end (I.ok.hd hc) he hit p (by simp; omega) fun h' eb => ⟨rfl, I.turned (t' := s.toks) (fun b o hb q => eb b o hb q) f0 f1 f3 f4 f5⟩
  self := fun A i s Q E st h => by
    obtain ⟨⟨_, he⟩, _⟩ := st
    exact wpAny_pyIter_enum he h
def iEnumA (K : PySem.W.Frag) (ta : TA) : TI := fun σ H R => ta σ H fun vs H1 => ∃ a xs, vs = [.ref a] ∧ ((SqL K H1 a xs ∧ R (Ite K a) H1) ∨ (SqT K H1 a xs ∧ R (IteT K a) H1))
theorem pi_enumA {X : Cx} {e : Expr} {ta : TA} {p pos tpos : Pos} {elts : List Expr} {kk : Nat} (hg : Gl X "enumerate") (hm : X.mg "enumerate" = none) (ha : PA X [e] ta) (hs : starEach [e] X.env = [(false, eval e X.env)] := by rfl) :
    PI X (.Tuple elts kk tpos) (.Call (.Name "enumerate" p) [e] [] pos) (iEnumA X.K ta) := by
  refine ⟨fun pins s σ H R I h => ?_⟩
  refine Call_ (ld_blt I hg hm boot_enumerate (PyProof.Rows.callWith_type1 (thn (ha.run pos pins s σ H _ I h) fun us s1 ⟨vs, H1, I1, r1, q1⟩ => ?_) hs rfl))
  obtain ⟨a, xs, ex, q⟩ := q1
  subst ex
  cases r1 with
  | cons r rr =>
    cases rr
    cases r
    have fp : ∀ (H' : Hp) (b : Addr), b ∈ [s1.heap.objs.size + 1, s1.heap.objs.size] → FpOk X pins H1 b := fun _ b hb => by
      have e' : b = s1.heap.objs.size + 1 ∨ b = s1.heap.objs.size := by simpa using hb
      have hle : s1.heap.objs.size ≤ b := by
        rcases e' with z | z
        · rw [z]; exact Nat.le_add_right _ _
        · rw [z]; exact Nat.le_refl _
      exact I1.fpOk hle (I1.hok.fresh hle)
    rcases q with ⟨hq, q⟩ | ⟨hq, q⟩
    · obtain ⟨its, rv, p', hz⟩ := I1.list hq
      refine call_enumerate_list p'.isList fun h' he hit hsz hk => wpAny_pyIter_enum he ?_
      have I2 : Inv X pins σ H1 { s1 with heap := h' } := I1.kept (t' := s1.toks) hk
      exact ⟨s1.heap.objs.size + 1, [s1.heap.objs.size + 1, s1.heap.objs.size], _, _, H1, rfl, I2, turn_enum a (s1.heap.objs.size + 1) s1.heap.objs.size, ⟨⟨.none, he⟩, hit, Nat.succ_ne_self _⟩, fp H1, q⟩
    · obtain ⟨its, rv, p', hz⟩ := I1.tuple hq
      have ha : a < s1.heap.objs.size := p'.lt
      refine enum_new1 (begins_tuple a its.toArray) p' fun h' he hit hk => wpAny_pyIter_enum he ?_
      have I2 : Inv X pins σ H1 { s1 with heap := h' } := I1.kept (t' := s1.toks) hk
      exact ⟨s1.heap.objs.size + 1, [s1.heap.objs.size + 1, s1.heap.objs.size], _, _, H1, rfl, I2, turn_enumT a (s1.heap.objs.size + 1) s1.heap.objs.size, ⟨⟨.none, he⟩, ⟨_, hit, rfl, rfl⟩, Nat.succ_ne_self _, Nat.ne_of_lt ha, Nat.ne_of_gt (Nat.lt_succ_of_lt ha)⟩, fp H1, q⟩
/-- for i, x in enumerate(a tuple): each turn a new pair -/
theorem for_enumT {K : PySem.W.Frag} {a : Addr} {xs : List V} {g : TG} {tb : TS} {D : Ends} {σ : L2.St} {H : Hp} (Pv : Nat → L2.St → Hp → Prop) (h0 : Pv 0 σ H) (hl : ∀ i σ H, i ≤ xs.length → Pv i σ H → SqT K H a xs)
    (hs : ∀ i x σ H T, xs[i]? = some x → Pv i σ H → H T = none → g (.ref T) σ (upd H T (.tup [.int (i : Nat), x])) fun σ2 H2 => tb { D with nx := Pv (i + 1), ct := Pv (i + 1), bk := D.nx } σ2 H2) (hd : ∀ σ H, Pv xs.length σ H → D.nx σ H) :
    ∃ W : Nat → Nat → L2.St → Hp → Prop, (∃ m, W 0 m σ H) ∧ ∀ i m σ H, W i m σ H →
      ((IteT K a).stop i H ∧ D.nx σ H) ∨ ((IteT K a).go i H ∧ ∃ N : L2.St → Hp → Prop, (∀ σ' H', N σ' H' → ∃ m', m' < m ∧ W (i + 1) m' σ' H') ∧ ∀ x H', (IteT K a).yld i H x H' → g x σ H' fun σ2 H2 => tb { D with nx := N, ct := N, bk := D.nx } σ2 H2) := by
  refine ⟨fun i m σ H => m = xs.length - i ∧ i ≤ xs.length ∧ Pv i σ H, ⟨xs.length, by simp, Nat.zero_le _, h0⟩, ?_⟩
  rintro i m σ H ⟨rfl, hi, p⟩
  have q := hl i σ H hi p
  by_cases hlt : i < xs.length
  · refine .inr ⟨⟨xs, xs[i], q, by simp [hlt]⟩, Pv (i + 1), fun σ' H' p' => ⟨xs.length - (i + 1), by omega, rfl, hlt, p'⟩, fun x H' y => ?_⟩
    obtain ⟨T, y, rfl, nT, rfl, f⟩ := y
    exact hs i y σ H T (f xs q) p nT
  · have e : i = xs.length := by omega
    subst e
    exact .inl ⟨⟨xs, q, Nat.le_refl _⟩, hd σ H p⟩
end Z
namespace Z
open PySem PySem.Spec PyProof.Rows L2
/-! more rules -/
theorem piOr {X : Cx} {tg l : Expr} {w1 w2 : TI} (h1 : PI X tg l w1) (h2 : PI X tg l w2) : PI X tg l (fun σ H R => w1 σ H R ∨ w2 σ H R) :=
  ⟨fun pins s σ H R I h => h.elim (h1.run pins s σ H R I) (h2.run pins s σ H R I)⟩
def iAny (K : PySem.W.Frag) (tl : TE) : TI := fun σ H R => tl σ H fun x H1 => ∃ a, x = .ref a ∧ ((∃ xs, SqL K H1 a xs ∧ R (Itl K a) H1) ∨ (∃ xs, SqT K H1 a xs ∧ R (Itt K a) H1))
theorem pi_any {X : Cx} {tg l : Expr} {tl : TE} (hl : PE X l tl) : PI X tg l (iAny X.K tl) := by
  refine ⟨fun pins s σ H R I h => ?_⟩
  refine thn (hl.run pins s σ H _ I h) fun v s1 ⟨x, H1, I1, r1, q1⟩ => ?_
  obtain ⟨a, e, q⟩ := q1
  subst e
  cases r1
  rcases q with ⟨xs, hq, q⟩ | ⟨xs, hq, q⟩
  · obtain ⟨its, rv, p, hz⟩ := I1.list hq
    refine wpAny_pyIter_list p.isList ?_
    refine ⟨s1.heap.objs.size, [s1.heap.objs.size], _, _, H1, rfl, I1.kept (t' := s1.toks) fun b o e => Heap.get?_push_of_some _ e, turn_list a _, ⟨_, Heap.get?_push_size _ rfl, rfl, rfl⟩, fun b hb => ?_, q⟩
    have e : b = s1.heap.objs.size := by simpa using hb
    subst e
    exact I1.fpOk (Nat.le_refl _) (I1.hok.fresh (Nat.le_refl _))
  · obtain ⟨its, rv, p, hz⟩ := I1.tuple hq
    refine wpAny_pyIter_tuple (show s1.heap.IsTuple a its.toArray from p) ?_
    refine ⟨s1.heap.objs.size, [s1.heap.objs.size], _, _, H1, rfl, I1.kept (t' := s1.toks) fun b o e => Heap.get?_push_of_some _ e, turn_tuple a _, ⟨_, Heap.get?_push_size _ rfl, rfl, rfl⟩, fun b hb => ?_, q⟩
    have e : b = s1.heap.objs.size := by simpa using hb
    subst e
    exact I1.fpOk (Nat.le_refl _) (I1.hok.fresh (Nat.le_refl _))
/-- the rules of built-in calls under names -/
def rLen (K : PySem.W.Frag) : List V → Hp → VK → Prop := fun xs H Q => ∃ p ys, xs = [.ref p] ∧ (SqL K H p ys ∨ SqT K H p ys) ∧ Q (.int ys.length) H
theorem c_len {X : Cx} : CallR X (.builtin "len") (rLen X.K) := call_len_seq
def rMax2 : List V → Hp → VK → Prop := fun xs H Q => ∃ i j, xs = [.int i, .int j] ∧ Q (.int (if j > i then j else i)) H
theorem c_max2 {X : Cx} (hc : X.calm = true) : CallR X (.builtin "max") rMax2 := call_max2 hc
def rInt1 : List V → Hp → VK → Prop := fun xs H Q => (∃ i, xs = [.int i] ∧ Q (.int i) H) ∨ ∃ k, xs = [.bl k] ∧ Q (.int (if k then 1 else 0)) H
theorem c_int1 {X : Cx} : CallR X (.type "int") rInt1 := call_int1
def rTup (K : PySem.W.Frag) : List V → Hp → VK → Prop := fun xs H Q => ∃ p ys, xs = [.ref p] ∧ ((SqL K H p ys ∧ ∀ l, H l = none → Q (.ref l) (upd H l (.tup ys))) ∨ (SqT K H p ys ∧ Q (.ref p) H))
theorem c_tup {X : Cx} : CallR X (.type "tuple") (rTup X.K) := call_tuple_of
def kGetL (K : PySem.W.Frag) : V → V → Hp → VK → Prop := fun o i H Q => ∃ p xs k v, o = .ref p ∧ i = .int k ∧ SqL K H p xs ∧ 0 ≤ k ∧ xs[k.toNat]? = some v ∧ Q v H
theorem g_list {X : Cx} : PGet X (kGetL X.K) := get_list
def tTru (K : PySem.W.Frag) (ta : TE) : TT := fun σ H Q => ta σ H fun x H' => ∃ k, TruV K x H' k ∧ Q k H'
theorem pt_tru {X : Cx} {a : Expr} {ta : TE} (ha : PE X a ta) (he : ∀ whole, isTrue a X.env whole = (do let v ← whole; standAt a.pos; holding [v] (truthy v))) : PT X a (tTru X.K ta) := pt_truth ha he
/-! a def that keeps its promise, by its name -/
structure Good (P : Program) (w : World) (K : PySem.W.Frag) (mg : Str → Option Value) (base : Heap) (k : Nat) (x : Str) (ps : List Str) (sp : Sp) : Prop where
  ex : ∃ (f : Addr) (fd : FuncData), mg x = some (.ref f) ∧ PySem.W.keepIn K (.ref f) = true ∧ Binds K fd ps [] ∧ FnOk P w K mg base CX0 k f fd ps sp
theorem pe_callG {X : Cx} {k : Nat} {x : Str} {ps : List Str} {sp : Sp} {p pos : Pos} {e : Expr} {es : List Expr} {t : TA} (G : Good X.prog X.w X.K X.mg X.base k x ps sp) (hr : Room k X.A) (hg : Gl X x) (ha : PA X (e :: es) t)
    (hdb : (x == ("__debug__" : Str)) = false := by decide) (he : starEach (e :: es) X.env = (false, eval e X.env) :: starEach es X.env := by rfl) (hpl : (backTo pos (starEach es X.env)).any (·.1) = false := by rfl) :
    PE X (.Call (.Name x p) (e :: es) [] pos) (tCall sp [] E0 t) := by
  obtain ⟨f, fd, hm, hk, hb, F⟩ := G.ex
  exact pe_call F hr hg hm hk hb .nil pass0 ha hdb he hpl
theorem pe_callG0 {X : Cx} {k : Nat} {x : Str} {ps : List Str} {sp : Sp} {p pos : Pos} (G : Good X.prog X.w X.K X.mg X.base k x ps sp) (hr : Room k X.A) (hg : Gl X x)
    (hdb : (x == ("__debug__" : Str)) = false := by decide) : PE X (.Call (.Name x p) [] [] pos) (tCall sp [] E0 tNil) := by
  obtain ⟨f, fd, hm, hk, hb, F⟩ := G.ex
  exact pe_call0 F hr hg hm hk hb .nil pass0 hdb
/-- what the top leaves of a def -/
structure Has (K : PySem.W.Frag) (mg : Str → Option Value) (x : Str) (st : Stmt) (ps : List Str) : Prop where
  ex : ∃ (f : Addr) (fd : FuncData), Fun K x x st f fd ∧ mg x = some (.ref f) ∧ Binds K fd ps []
theorem Has.good {P : Program} {w : World} {K : PySem.W.Frag} {mg : Str → Option Value} {base : Heap} {x : Str} {st : Stmt} {N ps : List Str} {k : Nat} {sp : Sp} (h : Has K mg x st ps) (S : FnScope N ps (defScope st)) (len : ∀ vs H Q E, sp vs H Q E → vs.length = ps.length)
    (hbody : ∀ (f : Addr) (cdv : Value) (A : Around) (outer : List Env) (s : Shared) (H : Hp) (vs : List V) (Q : VK) (E : XK), Room k (A.deeper (envOfC x (defScope st) s.heap.objs.size f cdv)) → sp vs H Q E →
      ∃ t, PSs (cxOf CX0 P w K mg base N x (defScope st) f cdv A outer s H E).nox (defBody st) t ∧ t ⟨fun _ H' => Q .non H', Q, fun _ _ => False, fun _ _ => False⟩ (start N vs) H) : Good P w K mg base (k + 1) x ps sp := by
  obtain ⟨f, fd, F, hm, hb⟩ := h.ex
  exact ⟨f, fd, hm, F.kp, hb, F.ok S len (hbody f)⟩
/-! heaps -/
/-- all but the object at c is as it was -/
def But (c : Addr) (H H' : Hp) : Prop := ∀ b o, b ≠ c → H b = some o → H' b = some o
theorem But.of {c : Addr} {H H' : Hp} (h : Same H H') : But c H H' := fun b o _ e => h b o e
theorem But.refl (c : Addr) (H : Hp) : But c H H := fun _ _ _ e => e
theorem But.trans {c : Addr} {H H1 H2 : Hp} (a : But c H H1) (b : But c H1 H2) : But c H H2 := fun x o n e => b x o n (a x o n e)
theorem But.upd {c : Addr} {H : Hp} {o : HO} : But c H (L2.upd H c o) := fun b u n e => by
  rw [upd_ne n]
  exact e
theorem Same.new {H : Hp} {p : Addr} {o : HO} (h : H p = none) : Same H (L2.upd H p o) := fun b u e => by
  rw [upd_ne (ne_of_none e h)]
  exact e
/-- of an object that is new behind H, whatever was done to it -/
theorem But.same {c : Addr} {H H1 H2 : Hp} (b : But c H1 H2) (a : Same H H1) (n : H c = none) : Same H H2 := fun x o e => b x o (ne_of_none e n) (a x o e)
theorem Same.rd {H H' : Hp} {a : Addr} {u : HO} (e : Same H H') (h : Rd H a u) : Rd H' a u := by
  rcases h with h | ⟨o, h⟩
  · exact .inl (e _ _ h)
  · exact .inr ⟨o, e _ _ h⟩
theorem But.rd {c : Addr} {H H' : Hp} {a : Addr} {u : HO} (e : But c H H') (n : a ≠ c) (h : Rd H a u) : Rd H' a u := by
  rcases h with h | ⟨o, h⟩
  · exact .inl (e _ _ n h)
  · exact .inr ⟨o, e _ _ n h⟩
theorem sqt_same {K : PySem.W.Frag} {H H' : Hp} {a : Addr} {xs : List V} (e : Same H H') (h : SqT K H a xs) : SqT K H' a xs := h.elim (fun h => .inl (Same.rd e h)) .inr
theorem sql_same {K : PySem.W.Frag} {H H' : Hp} {a : Addr} {xs : List V} (e : Same H H') (h : SqL K H a xs) : SqL K H' a xs := h.elim (fun h => .inl (Same.rd e h)) .inr
theorem sql_but {K : PySem.W.Frag} {c : Addr} {H H' : Hp} {a : Addr} {xs : List V} (e : But c H H') (n : a ≠ c) (h : SqL K H a xs) : SqL K H' a xs := h.elim (fun h => .inl (But.rd e n h)) .inr
theorem sqt_but {K : PySem.W.Frag} {c : Addr} {H H' : Hp} {a : Addr} {xs ys : List V} (e : But c H H') (hc : H c = some (.lst ys)) (h : SqT K H a xs) : SqT K H' a xs := h.elim (fun h => .inl (But.rd e (fun z => by
  subst z
  rcases h with h | ⟨o, h⟩
  · rw [h] at hc
    cases hc
  · rw [h] at hc
    cases hc) h)) .inr
theorem Same.of_ {H H' : Hp} {a : Addr} {o : HO} (e : Same H H') (h : H a = some o) : H' a = some o := e _ _ h
theorem But.of_ {c : Addr} {H H' : Hp} {a : Addr} {o : HO} (e : But c H H') (n : a ≠ c) (h : H a = some o) : H' a = some o := e _ _ n h
theorem same_tr {H H1 H2 : Hp} (e : Same H1 H2) (h : Same H H1) : Same H H2 := h.trans e
theorem same_but {c : Addr} {H H1 H2 : Hp} (e : But c H1 H2) (h : Same H H1) (n : H c = none) : Same H H2 := But.same e h n
theorem but_tr {c : Addr} {H H1 H2 : Hp} (e : Same H1 H2) (h : But c H H1) : But c H H2 := h.trans (But.of e)
theorem but_trB {c : Addr} {H H1 H2 : Hp} (e : But c H1 H2) (h : But c H H1) : But c H H2 := h.trans e
theorem but_refl {c : Addr} {H : Hp} : But c H H := But.refl c H
theorem same_refl {H : Hp} : Same H H := Same.refl H
/-! what is asked of a value, its wish kept apart -/
def IsBl (x : V) (H : Hp) (F : Bool → Hp → Prop) : Prop := ∃ k, x = .bl k ∧ F k H
def IsTru (K : PySem.W.Frag) (x : V) (H : Hp) (F : Bool → Hp → Prop) : Prop := ∃ k, TruV K x H k ∧ F k H
def IsPart (x : V) (H : Hp) (F : Option Int → Hp → Prop) : Prop := ∃ i, x = .int i ∧ F (some i) H
def NewT (xs : List V) (H : Hp) (Q : VK) : Prop := xs.length ≤ sizeLine ∧ ∀ p, H p = none → Q (.ref p) (upd H p (.tup xs))
def NewL (xs : List V) (H : Hp) (Q : VK) : Prop := xs.length ≤ sizeLine ∧ ∀ p, H p = none → Q (.ref p) (upd H p (.lst xs))
def Rng1 (vs : List V) (H : Hp) (R : It → Hp → Prop) : Prop := ∃ j : Int, vs = [.int j] ∧ -(2 ^ 62) ≤ j ∧ j < 2 ^ 62 ∧ R (Itr 0 j.toNat) H
def Rng2 (vs : List V) (H : Hp) (R : It → Hp → Prop) : Prop := ∃ i j : Int, vs = [.int i, .int j] ∧ (-(2 ^ 62) ≤ i ∧ i < 2 ^ 62 ∧ -(2 ^ 62) ≤ j ∧ j < 2 ^ 62) ∧ R (Itr i (j - i).toNat) H
def Rng3 (vs : List V) (H : Hp) (R : It → Hp → Prop) : Prop := ∃ (i j c : Int) (n : Nat), vs = [.int i, .int j, .int c] ∧ RgC i j c n ∧ R (Itc i c n) H
def WlkL (K : PySem.W.Frag) (x : V) (H : Hp) (R : It → Hp → Prop) : Prop := ∃ a, x = .ref a ∧ (∃ xs, SqL K H a xs) ∧ R (Itl K a) H
def WlkT (K : PySem.W.Frag) (x : V) (H : Hp) (R : It → Hp → Prop) : Prop := ∃ a, x = .ref a ∧ (∃ xs, SqT K H a xs) ∧ R (Itt K a) H
def WlkA (K : PySem.W.Frag) (x : V) (H : Hp) (R : It → Hp → Prop) : Prop := ∃ a, x = .ref a ∧ ((∃ xs, SqL K H a xs ∧ R (Itl K a) H) ∨ (∃ xs, SqT K H a xs ∧ R (Itt K a) H))
def WlkE (K : PySem.W.Frag) (vs : List V) (H : Hp) (R : It → Hp → Prop) : Prop := ∃ a xs, vs = [.ref a] ∧ ((SqL K H a xs ∧ R (Ite K a) H) ∨ (SqT K H a xs ∧ R (IteT K a) H))
def WlkV (K : PySem.W.Frag) (v : V) (H : Hp) (R : It → Hp → Prop) : Prop := ∃ (a : Addr) (xs : List V), v = .ref a ∧ ((SqL K H a xs ∧ R (Itv K a xs.length) H) ∨ (SqT K H a xs ∧ R (RT.ItvT K a xs.length) H))
def ForW (g : TG) (tb : TS) (r : VK) (n : L2.St → Hp → Prop) (J : It) (σ : L2.St) (H : Hp) : Prop := ∃ W : Nat → Nat → L2.St → Hp → Prop, (∃ m, W 0 m σ H) ∧ ∀ i m σ H, W i m σ H →
  (J.stop i H ∧ n σ H) ∨ (J.go i H ∧ ∃ N : L2.St → Hp → Prop, (∀ σ' H', N σ' H' → ∃ m', m' < m ∧ W (i + 1) m' σ' H') ∧ ∀ x H', J.yld i H x H' → g x σ H' fun σ2 H2 => tb ⟨N, r, n, N⟩ σ2 H2)
def LcW (g : TG) (tt : TT) (te : TE) (vs : List Nat) (Q : VK) (σ : L2.St) (J : It) (H : Hp) : Prop := ∀ D, H D = none → ∃ W : Nat → Nat → Hp → Prop, (∃ m, W 0 m (upd H D (.lst []))) ∧ ∀ i m H, W i m H →
  (J.stop i H ∧ Q (.ref D) H) ∨ (J.go i H ∧ ∃ Nx : Hp → Prop, (∀ H', Nx H' → ∃ m', m' < m ∧ W (i + 1) m' H') ∧ ∀ x H', J.yld i H x H' → g x (wipe σ vs) H' fun σ2 H2 => wipe σ2 vs = wipe σ vs ∧ tt σ2 H2 fun b H3 =>
    if b = true then te σ2 H3 fun y H4 => ∃ acc, H4 D = some (.lst acc) ∧ acc.length < sizeLine ∧ Nx (upd H4 D (.lst (acc ++ [y]))) else Nx H3)
/-! branches -/
theorem ifP {p A B : Prop} [Decidable p] (h1 : p → A) (h2 : ¬ p → B) : if decide p = true then A else B := ite2 (fun e => h1 (of_decide_eq_true e)) (fun e => h2 fun z => e (decide_eq_true z))
theorem ifI {x y : Int} {A B : Prop} (h1 : x = y → A) (h2 : x ≠ y → B) : if decide (V.int x = V.int y) = true then A else B := ifP (fun e => h1 (V.int.inj e)) (fun e => h2 fun z => e (by rw [z]))
theorem ifN {x y : Int} {A B : Prop} (h1 : x ≠ y → A) (h2 : x = y → B) : if (!decide (V.int x = V.int y)) = true then A else B := by
  by_cases e : x = y
  · subst e
    rw [decide_eq_true rfl]
    exact iteF (h2 rfl)
  · rw [decide_eq_false (fun z => e (V.int.inj z))]
    exact iteT (h1 e)
theorem ifTrue {k : Bool} {A B : Prop} (e : k = true) (h : A) : if k = true then A else B := by
  rw [if_pos e]
  exact h
theorem ifFalse {k : Bool} {A B : Prop} (e : k = false) (h : B) : if k = true then A else B := by
  subst e
  exact iteF h
theorem item_int {ns : List Int} {i : Nat} {x : V} (e : (ns.map V.int)[i]? = some x) : x = .int (ns.getD i 0) ∧ i < ns.length := by
  rw [List.getElem?_map] at e
  cases h : ns[i]? with
  | none =>
    rw [h] at e
    cases e
  | some y =>
    rw [h] at e
    have e1 : V.int y = x := Option.some.inj e
    refine ⟨?_, (List.getElem?_eq_some_iff.mp h).1⟩
    rw [← e1, List.getD_eq_getElem?_getD, h]
    rfl
theorem at_int {ns : List Int} {i : Nat} (h : i < ns.length) : (ns.map V.int)[i]? = some (.int (ns.getD i 0)) := by
  rw [List.getElem?_map, List.getD_eq_getElem?_getD, List.getElem?_eq_getElem h]
  rfl
theorem range_map {ns : List Int} (f : Int → Int) : ((List.range ns.length).map fun i => V.int (f (ns.getD i 0))) = (ns.map f).map V.int := by
  refine List.ext_getElem? fun i => ?_
  simp only [List.getElem?_map]
  by_cases h : i < ns.length
  · rw [List.getElem?_range h, List.getElem?_eq_getElem h]
    simp [List.getD_eq_getElem?_getD, List.getElem?_eq_getElem h]
  · rw [List.getElem?_eq_none (by simpa using Nat.le_of_not_lt h), List.getElem?_eq_none (by simpa using Nat.le_of_not_lt h)]
    rfl
theorem ixN_nat {m i : Nat} (h : i < m) : ixN m (i : Int) = some i := by
  unfold ixN
  rw [if_pos (by omega), if_pos (by omega), Int.toNat_natCast]
theorem map_set (ns : List Int) (i : Nat) (x : Int) : (ns.map V.int).set i (.int x) = (ns.set i x).map V.int := by rw [List.map_set]
theorem flat_rep (m : Nat) (x : V) : (List.replicate m [x]).flatten = List.replicate m x := by simp
theorem at_nat {ns : List Int} {i : Int} (h0 : 0 ≤ i) (h : i < ns.length) : atI (ns.map V.int) i = some (.int (ns.getD i.toNat 0)) := at_of (j := i.toNat) (by omega) (at_int (by omega))
theorem at_end {ns : List Int} (h : ns ≠ []) : ∃ v : Int, atI (ns.map V.int) (-1) = some (.int v) := by
  refine ⟨ns.getLast h, ?_⟩
  have e : ns.map V.int = ns.dropLast.map V.int ++ [V.int (ns.getLast h)] := by
    rw [show [V.int (ns.getLast h)] = [ns.getLast h].map V.int from rfl, ← List.map_append, List.dropLast_concat_getLast]
  rw [e]
  exact atI_last _ _
theorem cut_to (xs : List V) (m : Nat) : cutV xs none (some (m : Int)) = xs.take m := by
  unfold cutV
  rw [show HT.sIx xs.length xs.length (some (m : Int)) = min m xs.length from HT.sIx_nat _ _ _, HT.sIx_none, List.drop_zero, Nat.sub_zero]
  rw [List.take_eq_take_iff]
  omega
/-- how many items the list at D has -/
def lenAt (H : Hp) (D : Addr) : Nat := match H D with
  | some (.lst xs) => xs.length
  | _ => 0
theorem lenAt_of {H : Hp} {D : Addr} {xs : List V} (h : H D = some (.lst xs)) : lenAt H D = xs.length := by
  unfold lenAt
  rw [h]
theorem snoc_cases {α : Type} (l : List α) : l = [] ∨ ∃ l0 a, l = l0 ++ [a] := by
  cases h : l.reverse with
  | nil => exact .inl (by simpa using h)
  | cons a r => exact .inr ⟨r.reverse, a, by rw [← List.reverse_reverse l, h, List.reverse_cons]⟩
/-! one step of a reading -/
section
variable {K : PySem.W.Frag} {σ : L2.St} {H : Hp} {n b c : L2.St → Hp → Prop} {r : VK} {Q : VK}
theorem s_seq {t u : TS} (h : t ⟨u ⟨n, r, b, c⟩, r, b, c⟩ σ H) : tSeq t u ⟨n, r, b, c⟩ σ H := h
theorem s_next (h : n σ H) : tNext ⟨n, r, b, c⟩ σ H := h
theorem s_break (h : b σ H) : tBreak ⟨n, r, b, c⟩ σ H := h
theorem s_cont (h : c σ H) : tCont ⟨n, r, b, c⟩ σ H := h
theorem s_asg {te : TE} {g : TG} (h : te σ H fun x H1 => g x σ H1 n) : tAsg te g ⟨n, r, b, c⟩ σ H := h
theorem s_aug {i : Nat} {te : TE} {ti : TIp} {x : V} (e : σ[i]? = some (some x)) (h : te σ H fun y H1 => ti x y H1 fun z H2 => n (σ.set i (some z)) H2) : tAug i te ti ⟨n, r, b, c⟩ σ H := ⟨x, e, h⟩
theorem s_augS {to ti te : TE} {tget : V → V → Hp → VK → Prop} {tip : TIp} {tset : TSet} (h : to σ H fun o H1 => ti σ H1 fun i H2 => tget o i H2 fun x H3 => te σ H3 fun y H4 => tip x y H4 fun z H5 => tset o i z H5 fun H6 => n σ H6) : tAugS to ti te tget tip tset ⟨n, r, b, c⟩ σ H := h
theorem s_drop {te : TE} (h : te σ H fun _ H1 => n σ H1) : tDrop te ⟨n, r, b, c⟩ σ H := h
theorem s_ret {te : TE} (h : te σ H r) : tRet te ⟨n, r, b, c⟩ σ H := h
theorem s_retN (h : r .non H) : tRetN ⟨n, r, b, c⟩ σ H := h
theorem s_if {tc : TT} {t u : TS} (h : tc σ H fun k H1 => if k = true then t ⟨n, r, b, c⟩ σ H1 else u ⟨n, r, b, c⟩ σ H1) : tIfS tc t u ⟨n, r, b, c⟩ σ H := h
/-- what is known behind a statement that has several ways -/
theorem s_cut {t : TS} (Pv : L2.St → Hp → Prop) (h1 : ∀ N : L2.St → Hp → Prop, (∀ σ' H', Pv σ' H' → N σ' H') → t ⟨N, r, b, c⟩ σ H) (h2 : ∀ σ' H', Pv σ' H' → n σ' H') : t ⟨n, r, b, c⟩ σ H := h1 n h2
theorem s_gname {i : Nat} {v : V} {F : L2.St → Hp → Prop} (h : F (σ.set i (some v)) H) : gName i v σ H F := h
theorem s_gtup {a : Addr} {xs : List V} {k : Nat} {t : TGs} {F : L2.St → Hp → Prop} (hx : SqT K H a xs) (hl : xs.length = k) (h : t xs σ H F) : gTup K k t (.ref a) σ H F := ⟨a, xs, rfl, hx, hl, h⟩
theorem s_gcons {t : TG} {u : TGs} {v : V} {vs : List V} {F : L2.St → Hp → Prop} (h : t v σ H fun σ' H' => u vs σ' H' F) : gCons t u (v :: vs) σ H F := ⟨v, vs, rfl, h⟩
theorem s_gnil {F : L2.St → Hp → Prop} (h : F σ H) : gNil [] σ H F := ⟨rfl, h⟩
theorem s_gsub {to ti : TE} {t : TSet} {v : V} {F : L2.St → Hp → Prop} (h : to σ H fun o H1 => ti σ H1 fun i H2 => t o i v H2 fun H3 => F σ H3) : gSub to ti t v σ H F := h
/-- expressions -/
theorem s_var {i : Nat} {v : V} (e : σ[i]? = some (some v)) (h : Q v H) : tVar i σ H Q := ⟨v, e, h⟩
theorem s_c {v : V} (h : Q v H) : tC v σ H Q := h
theorem s_op {r2 : R2} {ta tb : TE} (h : ta σ H fun x H1 => tb σ H1 fun y H2 => r2 x y H2 Q) : tOp r2 ta tb σ H Q := h
theorem s_un {f : V → Hp → VK → Prop} {ta : TE} (h : ta σ H fun x H1 => f x H1 Q) : tUn f ta σ H Q := h
theorem s_rI0 {g : Int → Int → V} {i j : Int} (h : Q (g i j) H) : rI0 g (.int i) (.int j) H Q := ⟨i, j, rfl, rfl, h⟩
theorem s_rI {C : Int → Int → Prop} {g : Int → Int → V} {i j : Int} (hc : C i j) (h : Q (g i j) H) : rI C g (.int i) (.int j) H Q := ⟨i, j, rfl, rfl, hc, h⟩
theorem s_rU {g : Int → V} {i : Int} (h : Q (g i) H) : rU g (.int i) H Q := ⟨i, rfl, h⟩
theorem s_rEq {x y : V} (hs : scal x y = true) (h : Q (.bl (decide (x = y))) H) : rEq x y H Q := ⟨hs, h⟩
theorem s_rNe {x y : V} (hs : scal x y = true) (h : Q (.bl (!decide (x = y))) H) : rNe x y H Q := ⟨hs, h⟩
theorem s_ipI {f : Int → Int → Int} {i j : Int} (h : Q (.int (f i j)) H) : ipI f (.int i) (.int j) H Q := ⟨i, j, rfl, rfl, h⟩
theorem s_call {sp : Sp} {E : XK} {t : TA} (h : t σ H fun vs H1 => sp vs H1 Q E) : tCall sp [] E t σ H Q := by
  unfold tCall
  simp only [List.append_nil]
  exact h
theorem s_nil {F : List V → Hp → Prop} (h : F [] H) : tNil σ H F := h
theorem s_cons {ta : TE} {tr : TA} {F : List V → Hp → Prop} (h : ta σ H fun x H1 => tr σ H1 fun xs H2 => F (x :: xs) H2) : tCons ta tr σ H F := h
theorem s_tup {t : TA} (h : t σ H fun xs H1 => NewT xs H1 Q) : tTup t σ H Q := h
theorem s_lst {t : TA} (h : t σ H fun xs H1 => NewL xs H1 Q) : tLst t σ H Q := h
theorem s_new {o : HO} {Q : VK} (h : ∀ p H', H p = none → Same H H' → H' p = some o → Q (.ref p) H') : ∀ p, H p = none → Q (.ref p) (upd H p o) := fun p np => h p _ np (Same.new np) upd_same
theorem s_newT {xs : List V} (hz : xs.length ≤ sizeLine) (h : ∀ p H', H p = none → Same H H' → H' p = some (.tup xs) → Q (.ref p) H') : NewT xs H Q := ⟨hz, s_new h⟩
theorem s_newL {xs : List V} (hz : xs.length ≤ sizeLine) (h : ∀ p H', H p = none → Same H H' → H' p = some (.lst xs) → Q (.ref p) H') : NewL xs H Q := ⟨hz, s_new h⟩
theorem s_cb {f : List V → Hp → VK → Prop} {t : TA} (h : t σ H fun vs H1 => f vs H1 Q) : tCB f t σ H Q := h
theorem s_lenT {p : Addr} {xs : List V} (hx : SqT K H p xs) (h : Q (.int xs.length) H) : rLen K [.ref p] H Q := ⟨p, xs, rfl, .inr hx, h⟩
theorem s_lenL {p : Addr} {xs : List V} (hx : SqL K H p xs) (h : Q (.int xs.length) H) : rLen K [.ref p] H Q := ⟨p, xs, rfl, .inl hx, h⟩
theorem s_max2 {i j : Int} (h : Q (.int (if j > i then j else i)) H) : rMax2 [.int i, .int j] H Q := ⟨i, j, rfl, h⟩
theorem s_int1 {i : Int} (h : Q (.int i) H) : rInt1 [.int i] H Q := .inl ⟨i, rfl, h⟩
theorem s_intB {k : Bool} (h : Q (.int (if k then 1 else 0)) H) : rInt1 [.bl k] H Q := .inr ⟨k, rfl, h⟩
theorem s_tupL {p : Addr} {xs : List V} (hx : SqL K H p xs) (h : ∀ q H', H q = none → Same H H' → H' q = some (.tup xs) → Q (.ref q) H') : rTup K [.ref p] H Q := ⟨p, xs, rfl, .inl ⟨hx, s_new h⟩⟩
theorem s_tupT {p : Addr} {xs : List V} (hx : SqT K H p xs) (h : Q (.ref p) H) : rTup K [.ref p] H Q := ⟨p, xs, rfl, .inr ⟨hx, h⟩⟩
theorem s_ixL {p : Addr} {xs : List V} {i : Int} {v : V} (hx : SqL K H p xs) (e : atI xs i = some v) (h : Q v H) : rIxL K (.ref p) (.int i) H Q := ⟨p, xs, i, v, rfl, rfl, hx, e, h⟩
theorem s_ixT {p : Addr} {xs : List V} {i : Int} {v : V} (hx : SqT K H p xs) (e : atI xs i = some v) (h : Q v H) : rIxT K (.ref p) (.int i) H Q := ⟨p, xs, i, v, rfl, rfl, hx, e, h⟩
theorem s_getL {p : Addr} {xs : List V} {k : Int} {v : V} (hx : SqL K H p xs) (h0 : 0 ≤ k) (e : xs[k.toNat]? = some v) (h : Q v H) : kGetL K (.ref p) (.int k) H Q := ⟨p, xs, k, v, rfl, rfl, hx, h0, e, h⟩
theorem s_setL {p : Addr} {xs : List V} {k : Int} {j : Nat} {v : V} {F : Hp → Prop} (hx : H p = some (.lst xs)) (e : ixN xs.length k = some j) (h : ∀ H', But p H H' → H' p = some (.lst (xs.set j v)) → F H') : rSetL (.ref p) (.int k) v H F := ⟨p, xs, k, j, rfl, rfl, hx, e, h _ But.upd upd_same⟩
theorem s_rep {p : Addr} {xs : List V} {k : Int} (hx : H p = some (.lst xs)) (h0 : -(2 ^ 63) ≤ k) (h1 : k < 2 ^ 63) (hz : xs.length * k.toNat ≤ sizeLine) (h : ∀ q H', H q = none → Same H H' → H' q = some (.lst (List.replicate k.toNat xs).flatten) → Q (.ref q) H') : rRep (.ref p) (.int k) H Q :=
  ⟨p, k, xs, rfl, rfl, hx, h0, h1, hz, s_new h⟩
theorem s_catL {p q : Addr} {xs ys : List V} (hx : H p = some (.lst xs)) (hy : H q = some (.lst ys)) (hz : xs.length + ys.length ≤ sizeLine) (h : ∀ l H', H l = none → Same H H' → H' l = some (.lst (xs ++ ys)) → Q (.ref l) H') : rCat (.ref p) (.ref q) H Q :=
  ⟨p, q, xs, ys, rfl, rfl, hx, hy, hz, s_new h⟩
theorem s_catA {p q : Addr} {xs ys : List V} (hx : SqT K H p xs) (hy : SqT K H q ys) (hz : xs.length + ys.length ≤ sizeLine) (h : ∀ l H', Same H H' → SqT K H' l (xs ++ ys) → Q (.ref l) H') : rCatA K (.ref p) (.ref q) H Q :=
  ⟨p, q, xs, ys, rfl, rfl, hx, hy, hz, fun e => h q H (Same.refl H) (by subst e; exact hy), fun _ e => h p H (Same.refl H) (by subst e; rw [List.append_nil]; exact hx), fun _ _ => s_new fun l H' _ sm e => h l H' sm (SqT.of e)⟩
def TyR (K : PySem.W.Frag) (T : String) (f : V → List V → Hp → VK → Prop) (t : TA) (σ : L2.St) (x : V) (H : Hp) (Q : VK) : Prop := tyV K T x H ∧ t σ H fun xs H2 => f x xs H2 Q
def TyR0 (K : PySem.W.Frag) (T : String) (f : V → List V → Hp → VK → Prop) (x : V) (H : Hp) (Q : VK) : Prop := tyV K T x H ∧ f x [] H Q
theorem s_bm {T : String} {f : V → List V → Hp → VK → Prop} {to : TE} {t : TA} (h : to σ H fun x H1 => TyR K T f t σ x H1 Q) : tBM K T f to t σ H Q := h
theorem s_bm0 {T : String} {f : V → List V → Hp → VK → Prop} {to : TE} (h : to σ H fun x H1 => TyR0 K T f x H1 Q) : tBM0 K T f to σ H Q := h
theorem s_tyL {p : Addr} {xs : List V} {f : V → List V → Hp → VK → Prop} {t : TA} (hx : H p = some (.lst xs)) (h : t σ H fun xs H2 => f (.ref p) xs H2 Q) : TyR K "list" f t σ (.ref p) H Q := ⟨.inl ⟨rfl, _, SqL.of hx⟩, h⟩
theorem s_tyL0 {p : Addr} {xs : List V} {f : V → List V → Hp → VK → Prop} (hx : H p = some (.lst xs)) (h : f (.ref p) [] H Q) : TyR0 K "list" f (.ref p) H Q := ⟨.inl ⟨rfl, _, SqL.of hx⟩, h⟩
theorem s_append {p : Addr} {xs : List V} {y : V} (hx : H p = some (.lst xs)) (hz : xs.length < sizeLine) (h : ∀ H', But p H H' → H' p = some (.lst (xs ++ [y])) → Q .non H') : rAppend (.ref p) [y] H Q := ⟨p, xs, y, rfl, rfl, hx, hz, h _ But.upd upd_same⟩
theorem s_pop {p : Addr} {xs : List V} {y : V} (hx : H p = some (.lst xs)) (e : xs[xs.length - 1]? = some y) (h : ∀ H', But p H H' → H' p = some (.lst xs.dropLast) → Q y H') : rPop (.ref p) [] H Q := ⟨p, xs, y, rfl, rfl, hx, e, h _ But.upd upd_same⟩
theorem s_popAt {p : Addr} {xs : List V} {y : V} {i : Int} (hx : H p = some (.lst xs)) (h0 : 0 ≤ i) (hi : i < 2 ^ 63) (e : xs[i.toNat]? = some y) (h : ∀ H', But p H H' → H' p = some (.lst (xs.eraseIdx i.toNat)) → Q y H') : rPopAt (.ref p) [.int i] H Q := by
  have hl := (List.getElem?_eq_some_iff.mp e).1
  exact ⟨p, xs, i, i.toNat, y, rfl, rfl, hx, by omega, hi, seqIndex_of h0 (by omega), e, h _ But.upd upd_same⟩
/-- tests -/
theorem s_test {te : TE} {F : Bool → Hp → Prop} (h : te σ H fun x H' => IsBl x H' F) : tTest te σ H F := h
theorem s_tB {te : TE} {F : Bool → Hp → Prop} (h : te σ H fun x H' => IsBl x H' F) : tB te σ H F := h
theorem s_bl {k : Bool} {F : Bool → Hp → Prop} (h : F k H) : IsBl (.bl k) H F := ⟨k, rfl, h⟩
theorem s_and {t u : TT} {F : Bool → Hp → Prop} (h : t σ H fun k H1 => if k = true then u σ H1 F else F false H1) : tAnd t u σ H F := h
theorem s_or {t u : TT} {F : Bool → Hp → Prop} (h : t σ H fun k H1 => if k = true then F true H1 else u σ H1 F) : tOr t u σ H F := h
theorem s_not {t : TT} {F : Bool → Hp → Prop} (h : t σ H fun k H1 => F (!k) H1) : tNot t σ H F := h
theorem s_tru {ta : TE} {F : Bool → Hp → Prop} (h : ta σ H fun x H' => IsTru K x H' F) : tTru K ta σ H F := h
theorem s_truL {p : Addr} {xs : List V} {F : Bool → Hp → Prop} (hx : SqL K H p xs) (h : F (!xs.isEmpty) H) : IsTru K (.ref p) H F := ⟨_, .inl ⟨xs, hx, rfl⟩, h⟩
theorem s_truT {p : Addr} {xs : List V} {F : Bool → Hp → Prop} (hx : SqT K H p xs) (h : F (!xs.isEmpty) H) : IsTru K (.ref p) H F := ⟨_, .inr (.inl ⟨xs, hx, rfl⟩), h⟩
/-- loops -/
theorem s_for {wi : TI} {g : TG} {tb : TS} (h : wi σ H fun J H1 => ForW g tb r n J σ H1) : tFor wi g tb ⟨n, r, b, c⟩ σ H := h
theorem s_rng1 {ta : TA} {R : It → Hp → Prop} (h : ta σ H fun vs H1 => Rng1 vs H1 R) : iRng1 ta σ H R := h
theorem s_rng2 {ta : TA} {R : It → Hp → Prop} (h : ta σ H fun vs H1 => Rng2 vs H1 R) : iRng2 ta σ H R := h
theorem s_rng3 {ta : TA} {R : It → Hp → Prop} (h : ta σ H fun vs H1 => Rng3 vs H1 R) : iRng3 ta σ H R := h
theorem s_rng1v {j : Int} {R : It → Hp → Prop} (h0 : -(2 ^ 62) ≤ j) (h1 : j < 2 ^ 62) (h : R (Itr 0 j.toNat) H) : Rng1 [.int j] H R := ⟨j, rfl, h0, h1, h⟩
theorem s_rng2v {i j : Int} {R : It → Hp → Prop} (h0 : -(2 ^ 62) ≤ i) (h1 : i < 2 ^ 62) (h2 : -(2 ^ 62) ≤ j) (h3 : j < 2 ^ 62) (h : R (Itr i (j - i).toNat) H) : Rng2 [.int i, .int j] H R := ⟨i, j, rfl, ⟨h0, h1, h2, h3⟩, h⟩
theorem s_rng3v {i j c : Int} {m : Nat} {R : It → Hp → Prop} (hc : RgC i j c m) (h : R (Itc i c m) H) : Rng3 [.int i, .int j, .int c] H R := ⟨i, j, c, m, rfl, hc, h⟩
theorem s_ilist {tl : TE} {R : It → Hp → Prop} (h : tl σ H fun x H1 => WlkL K x H1 R) : iList K tl σ H R := h
theorem s_ilistv {a : Addr} {xs : List V} {R : It → Hp → Prop} (hx : SqL K H a xs) (h : R (Itl K a) H) : WlkL K (.ref a) H R := ⟨a, rfl, ⟨xs, hx⟩, h⟩
theorem s_itup {tl : TE} {R : It → Hp → Prop} (h : tl σ H fun x H1 => WlkT K x H1 R) : iTup K tl σ H R := h
theorem s_itupv {a : Addr} {xs : List V} {R : It → Hp → Prop} (hx : SqT K H a xs) (h : R (Itt K a) H) : WlkT K (.ref a) H R := ⟨a, rfl, ⟨xs, hx⟩, h⟩
theorem s_iany {tl : TE} {R : It → Hp → Prop} (h : tl σ H fun x H1 => WlkA K x H1 R) : iAny K tl σ H R := h
theorem s_ianyL {a : Addr} {xs : List V} {R : It → Hp → Prop} (hx : SqL K H a xs) (h : R (Itl K a) H) : WlkA K (.ref a) H R := ⟨a, rfl, .inl ⟨xs, hx, h⟩⟩
theorem s_ianyT {a : Addr} {xs : List V} {R : It → Hp → Prop} (hx : SqT K H a xs) (h : R (Itt K a) H) : WlkA K (.ref a) H R := ⟨a, rfl, .inr ⟨xs, hx, h⟩⟩
theorem s_ienum {ta : TA} {R : It → Hp → Prop} (h : ta σ H fun vs H1 => WlkE K vs H1 R) : iEnumA K ta σ H R := h
theorem s_ienumT {a : Addr} {xs : List V} {R : It → Hp → Prop} (hx : SqT K H a xs) (h : R (IteT K a) H) : WlkE K [.ref a] H R := ⟨a, xs, rfl, .inr ⟨hx, h⟩⟩
theorem s_ienumL {a : Addr} {xs : List V} {R : It → Hp → Prop} (hx : SqL K H a xs) (h : R (Ite K a) H) : WlkE K [.ref a] H R := ⟨a, xs, rfl, .inl ⟨hx, h⟩⟩
theorem s_irev {te : TE} {R : It → Hp → Prop} (h : te σ H fun v H1 => WlkV K v H1 R) : RT.iRevA K te σ H R := h
theorem s_irevT {a : Addr} {xs : List V} {R : It → Hp → Prop} (hx : SqT K H a xs) (h : R (RT.ItvT K a xs.length) H) : WlkV K (.ref a) H R := ⟨a, xs, rfl, .inr ⟨hx, h⟩⟩
theorem s_irevL {a : Addr} {xs : List V} {R : It → Hp → Prop} (hx : SqL K H a xs) (h : R (Itv K a xs.length) H) : WlkV K (.ref a) H R := ⟨a, xs, rfl, .inl ⟨hx, h⟩⟩
/-- loops by an invariant over the turn -/
theorem w_list {g : TG} {tb : TS} {a : Addr} {xs : List V} (Pv : Nat → L2.St → Hp → Prop) (h0 : Pv 0 σ H) (hl : ∀ i σ H, i ≤ xs.length → Pv i σ H → SqL K H a xs)
    (hs : ∀ i x σ H, xs[i]? = some x → Pv i σ H → g x σ H fun σ2 H2 => tb ⟨Pv (i + 1), r, n, Pv (i + 1)⟩ σ2 H2) (hd : ∀ σ H, Pv xs.length σ H → n σ H) : ForW g tb r n (Itl K a) σ H :=
  for_list (D := ⟨n, r, fun _ _ => False, fun _ _ => False⟩) Pv h0 hl hs hd
theorem w_tup {g : TG} {tb : TS} {a : Addr} {xs : List V} (Pv : Nat → L2.St → Hp → Prop) (h0 : Pv 0 σ H) (hl : ∀ i σ H, i ≤ xs.length → Pv i σ H → SqT K H a xs)
    (hs : ∀ i x σ H, xs[i]? = some x → Pv i σ H → g x σ H fun σ2 H2 => tb ⟨Pv (i + 1), r, n, Pv (i + 1)⟩ σ2 H2) (hd : ∀ σ H, Pv xs.length σ H → n σ H) : ForW g tb r n (Itt K a) σ H :=
  for_tup (D := ⟨n, r, fun _ _ => False, fun _ _ => False⟩) Pv h0 hl hs hd
theorem w_range {g : TG} {tb : TS} {lo : Int} {m : Nat} (Pv : Nat → L2.St → Hp → Prop) (h0 : Pv 0 σ H)
    (hs : ∀ i σ H, i < m → Pv i σ H → g (.int (lo + i)) σ H fun σ2 H2 => tb ⟨Pv (i + 1), r, n, Pv (i + 1)⟩ σ2 H2) (hd : ∀ σ H, Pv m σ H → n σ H) : ForW g tb r n (Itr lo m) σ H :=
  for_range (D := ⟨n, r, fun _ _ => False, fun _ _ => False⟩) Pv h0 hs hd
theorem w_rangeC {g : TG} {tb : TS} {lo c' : Int} {m : Nat} (Pv : Nat → L2.St → Hp → Prop) (h0 : Pv 0 σ H)
    (hs : ∀ i σ H, i < m → Pv i σ H → g (.int (lo + i * c')) σ H fun σ2 H2 => tb ⟨Pv (i + 1), r, n, Pv (i + 1)⟩ σ2 H2) (hd : ∀ σ H, Pv m σ H → n σ H) : ForW g tb r n (Itc lo c' m) σ H :=
  for_rangeC (D := ⟨n, r, fun _ _ => False, fun _ _ => False⟩) Pv h0 hs hd
theorem w_enumT {g : TG} {tb : TS} {a : Addr} {xs : List V} (Pv : Nat → L2.St → Hp → Prop) (h0 : Pv 0 σ H) (hl : ∀ i σ H, i ≤ xs.length → Pv i σ H → SqT K H a xs)
    (hs : ∀ i x σ H T H', xs[i]? = some x → Pv i σ H → H T = none → Same H H' → H' T = some (.tup [.int (i : Nat), x]) → g (.ref T) σ H' fun σ2 H2 => tb ⟨Pv (i + 1), r, n, Pv (i + 1)⟩ σ2 H2) (hd : ∀ σ H, Pv xs.length σ H → n σ H) : ForW g tb r n (IteT K a) σ H :=
  for_enumT (D := ⟨n, r, fun _ _ => False, fun _ _ => False⟩) Pv h0 hl (fun i x σ H T e p nT => hs i x σ H T _ e p nT (Same.new nT) upd_same) hd
theorem w_revT {g : TG} {tb : TS} {a : Addr} {xs : List V} (Pv : Nat → L2.St → Hp → Prop) (h0 : Pv 0 σ H) (hq : ∀ i σ H, Pv i σ H → SqT K H a xs)
    (hs : ∀ (i : Nat) (x : V) (σ : L2.St) (H : Hp), i < xs.length → xs[xs.length - 1 - i]? = some x → Pv i σ H → g x σ H fun σ2 H2 => tb ⟨Pv (i + 1), r, n, Pv (i + 1)⟩ σ2 H2) (hd : ∀ σ H, Pv xs.length σ H → n σ H) : ForW g tb r n (RT.ItvT K a xs.length) σ H :=
  RT.for_ItvT (D := ⟨n, r, fun _ _ => False, fun _ _ => False⟩) Pv h0 hq hs hd
/-- the int in a slot -/
def ival (σ : L2.St) (i : Nat) : Int := match σ[i]? with
  | some (some (.int k)) => k
  | _ => 0
theorem s_wh {tc : TT} {tb : TS} (Pv : L2.St → Hp → Prop) (μ : L2.St → Hp → Nat) (h0 : Pv σ H) (hs : ∀ σ H, Pv σ H → tc σ H (fun k H1 => if k = true then ∃ N : L2.St → Hp → Prop, (∀ σ' H', N σ' H' → ∃ m', m' < μ σ H ∧ m' = μ σ' H' ∧ Pv σ' H') ∧ tb ⟨N, r, n, N⟩ σ H1 else n σ H1)) :
    tWhile tc tb ⟨n, r, b, c⟩ σ H := by
  refine ⟨fun m σ H => m = μ σ H ∧ Pv σ H, ⟨_, rfl, h0⟩, ?_⟩
  rintro m σ H ⟨rfl, p⟩
  exact hs σ H p
theorem s_wN {tb : TS} {Pv : L2.St → Hp → Prop} {μ : L2.St → Hp → Nat} {m : Nat} (h : tb ⟨fun σ' H' => Pv σ' H' ∧ μ σ' H' < m, r, n, fun σ' H' => Pv σ' H' ∧ μ σ' H' < m⟩ σ H) : ∃ N : L2.St → Hp → Prop, (∀ σ' H', N σ' H' → ∃ m', m' < m ∧ m' = μ σ' H' ∧ Pv σ' H') ∧ tb ⟨N, r, n, N⟩ σ H :=
  ⟨_, fun σ' H' x => ⟨_, x.2, rfl, x.1⟩, h⟩
/-- slices -/
theorem s_sl {f : V → Option Int → Option Int → Hp → VK → Prop} {te : TE} {tl th : TO} (h : te σ H fun x H1 => tl σ H1 fun l H2 => th σ H2 fun u H3 => f x l u H3 Q) : tSl f te tl th σ H Q := h
theorem s_part {t : TE} {F : Option Int → Hp → Prop} (h : t σ H fun x H1 => IsPart x H1 F) : tPart t σ H F := h
theorem s_partv {i : Int} {F : Option Int → Hp → Prop} (h : F (some i) H) : IsPart (.int i) H F := ⟨i, rfl, h⟩
theorem s_noPart {F : Option Int → Hp → Prop} (h : F none H) : tNoPart σ H F := h
theorem s_slL {p : Addr} {xs : List V} {lo hi : Option Int} (hx : SqL K H p xs) (h : ∀ q H', H q = none → Same H H' → H' q = some (.lst (cutV xs lo hi)) → Q (.ref q) H') : rSlL K (.ref p) lo hi H Q := ⟨p, xs, rfl, hx, s_new h⟩
/-- comprehensions -/
theorem s_lc {wi : TI} {g : TG} {tt : TT} {te : TE} {vs : List Nat} (h : wi σ H fun J H1 => LcW g tt te vs Q σ J H1) : tLc wi g tt te vs σ H Q := h
def LcEnd (D : Addr) (Nx : Hp → Prop) (y : V) (H : Hp) : Prop := ∃ acc, H D = some (.lst acc) ∧ acc.length < sizeLine ∧ Nx (upd H D (.lst (acc ++ [y])))
theorem s_lcEnd {D : Addr} {acc : List V} {y : V} {Nx : Hp → Prop} (hD : H D = some (.lst acc)) (hz : acc.length < sizeLine) (h : ∀ H', But D H H' → H' D = some (.lst (acc ++ [y])) → Nx H') : LcEnd D Nx y H := ⟨acc, hD, hz, h _ But.upd upd_same⟩
/-- .. by an invariant over the turn and what the new list at D holds -/
theorem l_range {g : TG} {tt : TT} {te : TE} {vs : List Nat} {lo : Int} {m : Nat} (Pv : Addr → Nat → Hp → Prop) (h0 : ∀ D H', H D = none → Same H H' → H' D = some (.lst []) → Pv D 0 H')
    (hs : ∀ D i H, i < m → Pv D i H → g (.int (lo + i)) (wipe σ vs) H fun σ2 H2 => wipe σ2 vs = wipe σ vs ∧ tt σ2 H2 fun b H3 => if b = true then te σ2 H3 fun y H4 => LcEnd D (Pv D (i + 1)) y H4 else Pv D (i + 1) H3) (hd : ∀ D H, Pv D m H → Q (.ref D) H) : LcW g tt te vs Q σ (Itr lo m) H :=
  fun D nD => lc_range (Pv D) (h0 D _ nD (Same.new nD) upd_same) (hs D) (hd D)
theorem l_list {g : TG} {tt : TT} {te : TE} {vs : List Nat} {a : Addr} {xs : List V} (Pv : Addr → Nat → Hp → Prop) (h0 : ∀ D H', H D = none → Same H H' → H' D = some (.lst []) → Pv D 0 H') (hl : ∀ D i H, i ≤ xs.length → Pv D i H → SqL K H a xs)
    (hs : ∀ D i x H, xs[i]? = some x → Pv D i H → g x (wipe σ vs) H fun σ2 H2 => wipe σ2 vs = wipe σ vs ∧ tt σ2 H2 fun b H3 => if b = true then te σ2 H3 fun y H4 => LcEnd D (Pv D (i + 1)) y H4 else Pv D (i + 1) H3) (hd : ∀ D H, Pv D xs.length H → Q (.ref D) H) : LcW g tt te vs Q σ (Itl K a) H :=
  fun D nD => lc_list (Pv D) (h0 D _ nD (Same.new nD) upd_same) (hl D) (hs D) (hd D)
theorem l_tup {g : TG} {tt : TT} {te : TE} {vs : List Nat} {a : Addr} {xs : List V} (Pv : Addr → Nat → Hp → Prop) (h0 : ∀ D H', H D = none → Same H H' → H' D = some (.lst []) → Pv D 0 H') (hl : ∀ D i H, i ≤ xs.length → Pv D i H → SqT K H a xs)
    (hs : ∀ D i x H, xs[i]? = some x → Pv D i H → g x (wipe σ vs) H fun σ2 H2 => wipe σ2 vs = wipe σ vs ∧ tt σ2 H2 fun b H3 => if b = true then te σ2 H3 fun y H4 => LcEnd D (Pv D (i + 1)) y H4 else Pv D (i + 1) H3) (hd : ∀ D H, Pv D xs.length H → Q (.ref D) H) : LcW g tt te vs Q σ (Itt K a) H :=
  fun D nD => lc_tup (Pv D) (h0 D _ nD (Same.new nD) upd_same) (hl D) (hs D) (hd D)
/-- a list made item by item, nothing else changed: the k-th item is F k -/
theorem map_range_succ (F : Nat → V) (i : Nat) : (List.range (i + 1)).map F = (List.range i).map F ++ [F i] := by
  rw [List.range_succ, List.map_append]
  rfl
theorem l_mapL {g : TG} {tt : TT} {te : TE} {vs : List Nat} {a : Addr} {xs : List V} (F : Nat → V) (hx : SqL K H a xs) (hz : xs.length ≤ 100000)
    (hs : ∀ (D : Addr) (N : Hp → Prop) (i : Nat) (x : V) (H' : Hp), xs[i]? = some x → Same H H' → (∀ H4, Same H' H4 → LcEnd D N (F i) H4) → g x (wipe σ vs) H' fun σ2 H2 => wipe σ2 vs = wipe σ vs ∧ tt σ2 H2 fun b H3 => if b = true then te σ2 H3 fun y H4 => LcEnd D N y H4 else N H3)
    (hd : ∀ D H', H D = none → Same H H' → H' D = some (.lst ((List.range xs.length).map F)) → Q (.ref D) H') : LcW g tt te vs Q σ (Itl K a) H := by
  have line : (100000 : Nat) < sizeLine := by decide
  refine l_list (fun D i H' => H D = none ∧ Same H H' ∧ H' D = some (.lst ((List.range i).map F))) (fun D H' n sm e => ⟨n, sm, e⟩) (fun D i H' _ p => sql_same p.2.1 hx) ?_ fun D H' p => hd D H' p.1 p.2.1 p.2.2
  rintro D i x H' e ⟨n, sm, eD⟩
  have hi := (List.getElem?_eq_some_iff.mp e).1
  refine hs D (fun H' => H D = none ∧ Same H H' ∧ H' D = some (.lst ((List.range (i + 1)).map F))) i x H' e sm fun H4 s4 => ?_
  refine s_lcEnd (s4 _ _ eD) (by rw [List.length_map, List.length_range]; omega) fun H5 b5 e5 => ⟨n, But.same b5 (sm.trans s4) n, ?_⟩
  rw [map_range_succ]
  exact e5
theorem l_mapT {g : TG} {tt : TT} {te : TE} {vs : List Nat} {a : Addr} {xs : List V} (F : Nat → V) (hx : SqT K H a xs) (hz : xs.length ≤ 100000)
    (hs : ∀ (D : Addr) (N : Hp → Prop) (i : Nat) (x : V) (H' : Hp), xs[i]? = some x → Same H H' → (∀ H4, Same H' H4 → LcEnd D N (F i) H4) → g x (wipe σ vs) H' fun σ2 H2 => wipe σ2 vs = wipe σ vs ∧ tt σ2 H2 fun b H3 => if b = true then te σ2 H3 fun y H4 => LcEnd D N y H4 else N H3)
    (hd : ∀ D H', H D = none → Same H H' → H' D = some (.lst ((List.range xs.length).map F)) → Q (.ref D) H') : LcW g tt te vs Q σ (Itt K a) H := by
  have line : (100000 : Nat) < sizeLine := by decide
  refine l_tup (fun D i H' => H D = none ∧ Same H H' ∧ H' D = some (.lst ((List.range i).map F))) (fun D H' n sm e => ⟨n, sm, e⟩) (fun D i H' _ p => sqt_same p.2.1 hx) ?_ fun D H' p => hd D H' p.1 p.2.1 p.2.2
  rintro D i x H' e ⟨n, sm, eD⟩
  have hi := (List.getElem?_eq_some_iff.mp e).1
  refine hs D (fun H' => H D = none ∧ Same H H' ∧ H' D = some (.lst ((List.range (i + 1)).map F))) i x H' e sm fun H4 s4 => ?_
  refine s_lcEnd (s4 _ _ eD) (by rw [List.length_map, List.length_range]; omega) fun H5 b5 e5 => ⟨n, But.same b5 (sm.trans s4) n, ?_⟩
  rw [map_range_succ]
  exact e5
theorem l_map {g : TG} {tt : TT} {te : TE} {vs : List Nat} {a : Addr} {xs : List V} (F : Nat → V) (hx : SqL K H a xs ∨ SqT K H a xs) (hz : xs.length ≤ 100000)
    (hs : ∀ (D : Addr) (N : Hp → Prop) (i : Nat) (x : V) (H' : Hp), xs[i]? = some x → Same H H' → (∀ H4, Same H' H4 → LcEnd D N (F i) H4) → g x (wipe σ vs) H' fun σ2 H2 => wipe σ2 vs = wipe σ vs ∧ tt σ2 H2 fun b H3 => if b = true then te σ2 H3 fun y H4 => LcEnd D N y H4 else N H3)
    (hd : ∀ D H', H D = none → Same H H' → H' D = some (.lst ((List.range xs.length).map F)) → Q (.ref D) H') : WlkA K (.ref a) H (fun J H1 => LcW g tt te vs Q σ J H1) :=
  hx.elim (fun hx => s_ianyL hx (l_mapL F hx hz hs hd)) (fun hx => s_ianyT hx (l_mapT F hx hz hs hd))
theorem l_mapR {g : TG} {tt : TT} {te : TE} {vs : List Nat} {lo : Int} {m : Nat} (F : Nat → V) (hz : m ≤ 100000)
    (hs : ∀ (D : Addr) (N : Hp → Prop) (i : Nat) (H' : Hp), i < m → Same H H' → (∀ H4, Same H' H4 → LcEnd D N (F i) H4) → g (.int (lo + i)) (wipe σ vs) H' fun σ2 H2 => wipe σ2 vs = wipe σ vs ∧ tt σ2 H2 fun b H3 => if b = true then te σ2 H3 fun y H4 => LcEnd D N y H4 else N H3)
    (hd : ∀ D H', H D = none → Same H H' → H' D = some (.lst ((List.range m).map F)) → Q (.ref D) H') : LcW g tt te vs Q σ (Itr lo m) H := by
  have line : (100000 : Nat) < sizeLine := by decide
  refine l_range (fun D i H' => H D = none ∧ Same H H' ∧ H' D = some (.lst ((List.range i).map F))) (fun D H' n sm e => ⟨n, sm, e⟩) ?_ fun D H' p => hd D H' p.1 p.2.1 p.2.2
  rintro D i H' hi ⟨n, sm, eD⟩
  refine hs D (fun H' => H D = none ∧ Same H H' ∧ H' D = some (.lst ((List.range (i + 1)).map F))) i H' hi sm fun H4 s4 => ?_
  refine s_lcEnd (s4 _ _ eD) (by rw [List.length_map, List.length_range]; omega) fun H5 b5 e5 => ⟨n, But.same b5 (sm.trans s4) n, ?_⟩
  rw [map_range_succ]
  exact e5
theorem s_wipe {σ1 σ2 : L2.St} {vs : List Nat} {B : Prop} (e : wipe σ1 vs = wipe σ2 vs) (h : B) : wipe σ1 vs = wipe σ2 vs ∧ B := ⟨e, h⟩
theorem s_yes {F : Bool → Hp → Prop} (h : F true H) : tYes σ H F := h
end
end Z
namespace Z
open PySem PySem.Spec PyProof.Rows L2
/-! the rules with the written part named -/
section
variable {X : Cx} (K : PySem.W.Frag)
theorem pe_notK {a : Expr} {ta : TE} {pos : Pos} (ha : PE X a ta) (e : X.K = K := by rfl) : PE X (.UnaryOp .Not a pos) (tNotT K ta) := by subst e; exact pe_notT ha
theorem op_catK (e : X.K = K := by rfl) : OpR X (binaryOp .Add) (rCatA K) := by subst e; exact op_catA
theorem op_eqK (hu : X.A.units + 64 < cLine) (e : X.K = K := by rfl) : OpR X (compareOp .Eq) (rEqD K) := by subst e; exact op_eqD hu
theorem op_neK (hu : X.A.units + 64 < cLine) (e : X.K = K := by rfl) : OpR X (compareOp .NotEq) (rNeD K) := by subst e; exact op_neD hu
theorem sl_listK (e : X.K = K := by rfl) : SlR X (rSlL K) := by subst e; exact sl_list
theorem sl_tupK (e : X.K = K := by rfl) : SlR X (rSlA K) := by subst e; exact sl_tupA
theorem ix_listK (e : X.K = K := by rfl) : IxR X (rIxL K) := by subst e; exact ix_list
theorem ix_tupK (e : X.K = K := by rfl) : IxR X (rIxT K) := by subst e; exact ix_tup
theorem ix_seqK (e : X.K = K := by rfl) : IxR X (rIx K) := by subst e; exact ix_seq
theorem c_lenK (e : X.K = K := by rfl) : CallR X (.builtin "len") (rLen K) := by subst e; exact c_len
theorem cr_sumK (hc : X.calm = true) (e : X.K = K := by rfl) : CallR X (.builtin "sum") (rSum K) := by subst e; exact cr_sum hc
theorem cr_anyK (hc : X.calm = true) (e : X.K = K := by rfl) : CallR X (.builtin "any") (rAny K) := by subst e; exact cr_any hc
theorem cr_allK (hc : X.calm = true) (e : X.K = K := by rfl) : CallR X (.builtin "all") (rAll K) := by subst e; exact cr_all hc
theorem c_tupK (e : X.K = K := by rfl) : CallR X (.type "tuple") (rTup K) := by subst e; exact c_tup
theorem c_isiK (e : X.K = K := by rfl) : CallR X (.builtin "isinstance") (rIsi K) := by subst e; exact call_isi
theorem pi_listK {tg l : Expr} {tl : TE} (hl : PE X l tl) (e : X.K = K := by rfl) : PI X tg l (iList K tl) := by subst e; exact pi_list hl
theorem pi_tupK {tg l : Expr} {tl : TE} (hl : PE X l tl) (e : X.K = K := by rfl) : PI X tg l (iTup K tl) := by subst e; exact pi_tup hl
theorem pi_anyK {tg l : Expr} {tl : TE} (hl : PE X l tl) (e : X.K = K := by rfl) : PI X tg l (iAny K tl) := by subst e; exact pi_any hl
theorem pt_truK {a : Expr} {ta : TE} (ha : PE X a ta) (he : ∀ whole, isTrue a X.env whole = (do let v ← whole; standAt a.pos; holding [v] (truthy v))) (e : X.K = K := by rfl) : PT X a (tTru K ta) := by subst e; exact pt_tru ha he
theorem pg_tupK {es : List Expr} {k : Nat} {t : TGs} {pos : Pos} (n : Nat) (hc : X.calm = true) (h : PGs X es t) (hn : (assignEach es X.env).length = n := by rfl) (hst : (assignEach es X.env).findIdx? (·.1) = none := by rfl) (e : X.K = K := by rfl) : PG X (.Tuple es k pos) (gTup K n t) := by subst e; exact pg_tup hc h hn hst
theorem pi_enumK {e : Expr} {ta : TA} {p pos tpos : Pos} {elts : List Expr} {kk : Nat} (hg : Gl X "enumerate") (hm : X.mg "enumerate" = none) (ha : PA X [e] ta) (hs : starEach [e] X.env = [(false, eval e X.env)] := by rfl) (ek : X.K = K := by rfl) :
    PI X (.Tuple elts kk tpos) (.Call (.Name "enumerate" p) [e] [] pos) (iEnumA K ta) := by subst ek; exact pi_enumA hg hm ha hs
theorem pi_revK {tg e : Expr} {te : TE} {p pos : Pos} (hg : Gl X "reversed") (hm : X.mg "reversed" = none) (he : PE X e te) (hs : starEach [e] X.env = (false, eval e X.env) :: starEach [] X.env := by rfl) (ek : X.K = K := by rfl) :
    PI X tg (.Call (.Name "reversed" p) [e] [] pos) (RT.iRevA K te) := by subst ek; exact RT.pi_revA hg hm he hs
section
variable {o e : Expr} {es : List Expr} {to : TE} {t : TA} {name : Str} {apos cpos : Pos} {T id : String} {r : V → List V → Hp → VK → Prop}
theorem pe_bm0K (pa : PlainAttrs T) (slot : Slot T name id) (hty : typeOf (.builtin id) = pure (.type "method_descriptor")) (hm : MtR X id r) (ho : PE X o to)
    (hbase : attributeBase o name X.env (eval o X.env) = eval o X.env := by rfl) (hline : (apos.endLine == cpos.line) = true := by rfl) (ek : X.K = K := by rfl) : PE X (.Call (.Attribute o name apos) [] [] cpos) (tBM0 K T r to) := by subst ek; exact pe_bm0 pa slot hty hm ho hbase hline
theorem pe_bmK (pa : PlainAttrs T) (slot : Slot T name id) (hty : typeOf (.builtin id) = pure (.type "method_descriptor")) (hm : MtR X id r) (ho : PE X o to) (ha : PA X (e :: es) t)
    (hbase : attributeBase o name X.env (eval o X.env) = eval o X.env := by rfl)
    (hfew : ((backTo cpos (starEach (e :: es) X.env)).all (fun x => !x.1) && (backToKw cpos (keywordEach [] X.env)).all (fun x => x.1.isSome)
      && decide ((e :: es).length + ([] : List Keyword).length + (if ([] : List Keyword).isEmpty then 0 else 1) < 30)) = true := by rfl)
    (hline : (apos.endLine == cpos.line) = true := by rfl) (hs : starEach (e :: es) X.env = (false, eval e X.env) :: starEach es X.env := by rfl) (hplain : (backTo cpos (starEach es X.env)).any (·.1) = false := by rfl) (ek : X.K = K := by rfl) :
    PE X (.Call (.Attribute o name apos) (e :: es) [] cpos) (tBM K T r to t) := by subst ek; exact pe_bm pa slot hty hm ho ha hbase hfew hline hs hplain
end
theorem g_listK (e : X.K = K := by rfl) : PGet X (kGetL K) := by subst e; exact g_list
end
/-! heaps, lists, further steps -/
theorem But.sameN {c d : Addr} {H H1 H2 : Hp} (b : But c H1 H2) (a : But d H H1) (n : H c = none) : But d H H2 := fun x o nd e => b x o (ne_of_none e n) (a x o nd e)
theorem map_erase (ns : List Int) (i : Nat) : (ns.map V.int).eraseIdx i = (ns.eraseIdx i).map V.int := by
  induction ns generalizing i with
  | nil => rfl
  | cons a r ih =>
    cases i with
    | zero => rfl
    | succ i => show V.int a :: (r.map V.int).eraseIdx i = V.int a :: (r.eraseIdx i).map V.int; rw [ih]
theorem range_all (n : Nat) (v : Bool) : ((List.range n).map fun _ => V.bl v) = (List.replicate n v).map V.bl := by
  induction n with
  | zero => rfl
  | succ n ih => rw [List.range_succ, List.map_append, ih, List.replicate_succ', List.map_append]; rfl
theorem any_false (n : Nat) : (List.replicate n false).any id = false := by induction n with
  | zero => rfl
  | succ n ih => rw [List.replicate_succ, List.any_cons, ih]; rfl
theorem all_true (n : Nat) : (List.replicate n true).all id = true := by induction n with
  | zero => rfl
  | succ n ih => rw [List.replicate_succ, List.all_cons, ih]; rfl
section
variable {K : PySem.W.Frag} {H : Hp} {Q : VK}
theorem s_sum {p : Addr} {ns : List Int} (hx : SqL K H p (ns.map V.int)) (h : Q (.int ns.sum) H) : rSum K [.ref p] H Q := ⟨p, ns, rfl, hx, h⟩
theorem s_any {p : Addr} {bs : List Bool} (hx : SqL K H p (bs.map V.bl)) (h : Q (.bl (bs.any id)) H) : rAny K [.ref p] H Q := ⟨p, bs, rfl, hx, h⟩
theorem s_all {p : Addr} {bs : List Bool} (hx : SqL K H p (bs.map V.bl)) (h : Q (.bl (bs.all id)) H) : rAll K [.ref p] H Q := ⟨p, bs, rfl, hx, h⟩
theorem dp_ints : ∀ ns : List Int, DpAll K H (ns.map V.int) (ns.map PyData.int)
  | [] => .nil
  | n :: r => .cons (.int n) (dp_ints r)
theorem dp_t {a : Addr} {ns : List Int} (h : SqT K H a (ns.map V.int)) : Dp K H (.ref a) (.tuple (ns.map PyData.int)) := .tup h (dp_ints ns)
theorem dp_l {a : Addr} {ns : List Int} (h : SqL K H a (ns.map V.int)) : Dp K H (.ref a) (.list (ns.map PyData.int)) := .lst h (dp_ints ns)
end
end Z
namespace Z
open PySem PySem.Spec PyProof.Rows L2
/-! data -/
mutual
/-- no truth values, no dicts -/
def noB : PyData → Bool
  | .none => true
  | .bool _ => false
  | .int _ => true
  | .str _ => true
  | .list xs => noBs xs
  | .tuple xs => noBs xs
  | .dict _ => false
def noBs : List PyData → Bool
  | [] => true
  | x :: xs => noB x && noBs xs
end
mutual
theorem eqv_iff : ∀ d e : PyData, noB d = true → noB e = true → (PyData.eqv d e = true ↔ d = e)
  | .none, e, _, he => by cases e <;> simp_all [PyData.eqv, noB]
  | .int a, e, _, he => by cases e <;> simp_all [PyData.eqv, noB]
  | .str a, e, _, he => by cases e <;> simp_all [PyData.eqv, noB]
  | .list xs, e, hd, he => by
    cases e with
    | list ys =>
      rw [PyData.eqv, eqvs_iff xs ys (by simpa [noB] using hd) (by simpa [noB] using he)]
      exact ⟨fun h => by rw [h], fun h => by cases h; rfl⟩
    | _ => simp_all [PyData.eqv, noB]
  | .tuple xs, e, hd, he => by
    cases e with
    | tuple ys =>
      rw [PyData.eqv, eqvs_iff xs ys (by simpa [noB] using hd) (by simpa [noB] using he)]
      exact ⟨fun h => by rw [h], fun h => by cases h; rfl⟩
    | _ => simp_all [PyData.eqv, noB]
  | .bool _, _, hd, _ => by simp [noB] at hd
  | .dict _, _, hd, _ => by simp [noB] at hd
theorem eqvs_iff : ∀ xs ys : List PyData, noBs xs = true → noBs ys = true → (PyData.eqvAll xs ys = true ↔ xs = ys)
  | [], [], _, _ => by simp [PyData.eqvAll]
  | [], _ :: _, _, _ => by simp [PyData.eqvAll]
  | _ :: _, [], _, _ => by simp [PyData.eqvAll]
  | x :: xs, y :: ys, h, g => by
    have h' : noB x = true ∧ noBs xs = true := by simpa [noBs] using h
    have g' : noB y = true ∧ noBs ys = true := by simpa [noBs] using g
    rw [PyData.eqvAll, Bool.and_eq_true, eqv_iff x y h'.1 g'.1, eqvs_iff xs ys h'.2 g'.2]
    exact ⟨fun z => by rw [z.1, z.2], fun z => by cases z; exact ⟨rfl, rfl⟩⟩
end
theorem noBs_ints : ∀ ns : List Int, noBs (ns.map PyData.int) = true
  | [] => rfl
  | _ :: r => by simp [noBs, noB, noBs_ints r]
theorem canLayAll_ints : ∀ ns : List Int, PyData.canLayAll0 (ns.map PyData.int) = true
  | [] => rfl
  | _ :: r => by simp [PyData.canLayAll0, PyData.canLay0, canLayAll_ints r]
theorem depthAll_ints : ∀ ns : List Int, PyData.depthAll (ns.map PyData.int) = 0
  | [] => rfl
  | _ :: r => by simp [PyData.depthAll, PyData.depth, depthAll_ints r]
theorem shaped_t (ns : List Int) : SeqAt.shaped (.tuple (ns.map PyData.int)) = true := by
  simp [SeqAt.shaped, PyData.canLay0, PyData.depth, canLayAll_ints, depthAll_ints]
theorem shaped_l (ns : List Int) : SeqAt.shaped (.list (ns.map PyData.int)) = true := by
  simp [SeqAt.shaped, PyData.canLay0, PyData.depth, canLayAll_ints, depthAll_ints]
theorem eqv_self {d : PyData} (h : SeqAt.shaped d = true) : PyData.eqv d d = true := SeqAt.eqv_refl d (SeqAt.canLay_of_shaped h)
theorem op_inK {X : Cx} (K : PySem.W.Frag) (e : X.K = K := by rfl) : OpR X (compareOp .In) (rIn K false) := by subst e; exact op_in_seq
theorem op_notInK {X : Cx} (K : PySem.W.Frag) (e : X.K = K := by rfl) : OpR X (compareOp .NotIn) (rIn K true) := by subst e; exact op_notIn_seq
theorem cr_sortedK {X : Cx} (K : PySem.W.Frag) (e : X.K = K := by rfl) : CallR X (.builtin "sorted") (rSortedI K) := by subst e; exact cr_sortedI
def rMin2 : List V → Hp → VK → Prop := fun xs H Q => ∃ i j, xs = [.int i, .int j] ∧ Q (.int (if j < i then j else i)) H
theorem c_min2 {X : Cx} (hc : X.calm = true) : CallR X (.builtin "min") rMin2 := call_min2 hc
def rIsN : R2 := fun x y H Q => y = .non ∧ Q (.bl (decide (x = .non))) H
def rNotN : R2 := fun x y H Q => y = .non ∧ Q (.bl (!decide (x = .non))) H
theorem op_isNn {X : Cx} : OpR X (compareOp .Is) rIsN := op_isN
theorem op_notNn {X : Cx} : OpR X (compareOp .IsNot) rNotN := op_notN
section
variable {K : PySem.W.Frag} {H : Hp} {Q : VK}
theorem s_eqD {x y : V} {d e : PyData} (hx : Dp K H x d) (hy : Dp K H y e) (sd : SeqAt.shaped d = true) (se : SeqAt.shaped e = true) (h : Q (.bl (PyData.eqv d e)) H) : rEqD K x y H Q := ⟨d, e, hx, hy, sd, se, h⟩
theorem s_neD {x y : V} {d e : PyData} (hx : Dp K H x d) (hy : Dp K H y e) (sd : SeqAt.shaped d = true) (se : SeqAt.shaped e = true) (h : Q (.bl (!PyData.eqv d e)) H) : rNeD K x y H Q := ⟨d, e, hx, hy, sd, se, h⟩
theorem s_eqSame {x y : V} {d : PyData} (hx : Dp K H x d) (hy : Dp K H y d) (sd : SeqAt.shaped d = true) (h : Q (.bl true) H) : rEqD K x y H Q := ⟨d, d, hx, hy, sd, sd, by rw [eqv_self sd]; exact h⟩
theorem s_neSameD {x y : V} {d : PyData} (hx : Dp K H x d) (hy : Dp K H y d) (sd : SeqAt.shaped d = true) (h : Q (.bl false) H) : rNeD K x y H Q := ⟨d, d, hx, hy, sd, sd, by rw [eqv_self sd]; exact h⟩
theorem s_neSame {a b : Addr} {ns : List Int} (hx : SqT K H a (ns.map V.int)) (hy : SqT K H b (ns.map V.int)) (h : Q (.bl false) H) : rNeD K (.ref a) (.ref b) H Q := s_neSameD (dp_t hx) (dp_t hy) (shaped_t ns) h
theorem s_isi {i : Int} {c : String} {b : Bool} (e : kitB "int" c = some b) (h : Q (.bl b) H) : rIsi K [.int i, .ty c] H Q := ⟨_, _, _, _, b, rfl, .ty c, .base (.int i), kit_ty e, h⟩
theorem s_isiI {i : Int} (h : Q (.bl false) H) : rIsi K [.int i, .ty "bool"] H Q := s_isi (by decide +kernel) h
theorem s_min2 {i j : Int} (h : Q (.int (if j < i then j else i)) H) : rMin2 [.int i, .int j] H Q := ⟨i, j, rfl, h⟩
theorem inV_ints (x : Int) (ns : List Int) : inV (.int x) (ns.map V.int) = decide (x ∈ ns) := by
  unfold inV
  induction ns with
  | nil => rfl
  | cons a r ih =>
    rw [List.map_cons, List.any_cons, ih]
    by_cases h : a = x
    · subst h
      rw [show eqV (V.int a) (V.int a) = true by simp [eqV], decide_eq_true (List.mem_cons_self ..)]
      rfl
    · rw [show eqV (V.int a) (V.int x) = false by simp [eqV, h], Bool.false_or]
      by_cases h2 : x ∈ r
      · rw [decide_eq_true h2, decide_eq_true (List.mem_cons_of_mem _ h2)]
      · rw [decide_eq_false h2, decide_eq_false (fun m => by rcases List.mem_cons.mp m with m | m; exact h m.symm; exact h2 m)]
theorem flat_ints (ns : List Int) : (ns.map V.int).all flatV = true := by
  induction ns with
  | nil => rfl
  | cons a r ih => rw [List.map_cons, List.all_cons, ih]; rfl
theorem s_inI {p : Addr} {x : Int} {ns : List Int} (hx : SqL K H p (ns.map V.int) ∨ SqT K H p (ns.map V.int)) (h : Q (.bl (decide (x ∈ ns))) H) : rIn K false (.int x) (.ref p) H Q := ⟨p, _, rfl, hx, rfl, flat_ints ns, by rw [inV_ints]; exact h⟩
theorem s_notInI {p : Addr} {x : Int} {ns : List Int} (hx : SqL K H p (ns.map V.int) ∨ SqT K H p (ns.map V.int)) (h : Q (.bl (!decide (x ∈ ns))) H) : rIn K true (.int x) (.ref p) H Q := ⟨p, _, rfl, hx, rfl, flat_ints ns, by rw [inV_ints]; exact h⟩
theorem s_sorted {p : Addr} {ns : List Int} (hx : SqL K H p (ns.map V.int)) (h : ∀ (ys : List Int) (q : Addr) (H' : Hp), ys.Perm ns → ys.Pairwise (· ≤ ·) → H q = none → Same H H' → H' q = some (.lst (ys.map V.int)) → Q (.ref q) H') : rSortedI K [.ref p] H Q := ⟨p, ns, rfl, hx, fun ys q hp hw nq => h ys q _ hp hw nq (Same.new nq) upd_same⟩
theorem s_andV {ta tb : TE} {σ : L2.St} (h : ta σ H fun x H1 => IsBl x H1 fun c H2 => if c = true then tb σ H2 Q else Q (.bl false) H2) : tAndV ta tb σ H Q := h
theorem s_orV {ta tb : TE} {σ : L2.St} (h : ta σ H fun x H1 => IsBl x H1 fun c H2 => if c = true then Q (.bl true) H2 else tb σ H2 Q) : tOrV ta tb σ H Q := h
theorem s_ifE {tc : TT} {ta tb : TE} {σ : L2.St} (h : tc σ H fun c H1 => if c = true then ta σ H1 Q else tb σ H1 Q) : tIf tc ta tb σ H Q := h
theorem s_notK {ta : TE} {σ : L2.St} (h : ta σ H fun x H1 => IsTru K x H1 fun k H2 => Q (.bl (!k)) H2) : tNotT K ta σ H Q := h
theorem s_lenA {p : Addr} {xs : List V} (hx : SqL K H p xs ∨ SqT K H p xs) (h : Q (.int xs.length) H) : rLen K [.ref p] H Q := ⟨p, xs, rfl, hx, h⟩
theorem s_ixA {p : Addr} {xs : List V} {i : Int} {v : V} (hx : SqL K H p xs ∨ SqT K H p xs) (e : atI xs i = some v) (h : Q v H) : rIx K (.ref p) (.int i) H Q := hx.elim (fun hx => .inl ⟨p, xs, i, v, rfl, rfl, hx, e, h⟩) (fun hx => .inr (.inl ⟨p, xs, i, v, rfl, rfl, hx, e, h⟩))
theorem s_isN {x : V} (h : Q (.bl (decide (x = .non))) H) : rIsN x .non H Q := ⟨rfl, h⟩
theorem s_notN {x : V} (h : Q (.bl (!decide (x = .non))) H) : rNotN x .non H Q := ⟨rfl, h⟩
end
end Z
namespace M
/-! powers modulo p -/
def pw (p a : Int) (k : Nat) : Int := a ^ k % p
theorem pow_sq (a : Int) (k : Nat) : a ^ (2 * k) = (a * a) ^ k := by
  induction k with
  | zero => rw [Nat.mul_zero, Int.pow_zero, Int.pow_zero]
  | succ k ih =>
    rw [show 2 * (k + 1) = 2 * k + 1 + 1 by omega, Int.pow_succ, Int.pow_succ, ih, Int.pow_succ, Int.mul_assoc]
theorem pow_emod (p a : Int) (k : Nat) : (a % p) ^ k % p = a ^ k % p := by
  induction k with
  | zero => rw [Int.pow_zero, Int.pow_zero]
  | succ k ih => rw [Int.pow_succ, Int.pow_succ, Int.mul_emod, ih, Int.emod_emod_of_dvd _ (Int.dvd_refl p), ← Int.mul_emod]
/-- the loop of squares: what is left is a power of the square -/
theorem mul_pow_emod (p t s : Int) (k : Nat) : t * (s % p) ^ k % p = t * s ^ k % p := by
  rw [Int.mul_emod, pow_emod, ← Int.mul_emod]
theorem loop_even {p t s l x : Int} (h0 : 0 ≤ l) (he : l % 2 = 0) (h : t * s ^ l.toNat % p = x) : t * (s * s % p) ^ (l / 2).toNat % p = x := by
  rw [mul_pow_emod, ← pow_sq, show 2 * (l / 2).toNat = l.toNat by omega]
  exact h
theorem loop_odd {p t s l x : Int} (h0 : 0 ≤ l) (he : l % 2 = 1) (h : t * s ^ l.toNat % p = x) : (t * s % p) * (s * s % p) ^ (l / 2).toNat % p = x := by
  rw [mul_pow_emod, ← pow_sq, Int.mul_emod, Int.emod_emod_of_dvd _ (Int.dvd_refl p), ← Int.mul_emod, Int.mul_assoc, Int.mul_comm s, ← Int.pow_succ, show (2 * (l / 2).toNat).succ = l.toNat by omega]
  exact h
end M
namespace M
/-! lists of coefficients -/
/-- zeros at the end cut off -/
def trim : List Int → List Int
  | [] => []
  | a :: r => if a = 0 ∧ trim r = [] then [] else a :: trim r
theorem trim_snoc_zero : ∀ l : List Int, trim (l ++ [0]) = trim l
  | [] => rfl
  | a :: r => by
    show (if a = 0 ∧ trim (r ++ [0]) = [] then [] else a :: trim (r ++ [0])) = _
    rw [trim_snoc_zero r]
    rfl
theorem trim_snoc : ∀ (l : List Int) (a : Int), a ≠ 0 → trim (l ++ [a]) = l ++ [a]
  | [], a, h => by
    show (if a = 0 ∧ ([] : List Int) = [] then [] else [a]) = [a]
    rw [if_neg (fun z => h z.1)]
  | b :: r, a, h => by
    show (if b = 0 ∧ trim (r ++ [a]) = [] then [] else b :: trim (r ++ [a])) = b :: (r ++ [a])
    rw [trim_snoc r a h, if_neg (fun z => by simp at z)]
theorem trim_length : ∀ l : List Int, (trim l).length ≤ l.length
  | [] => Nat.le_refl _
  | a :: r => by
    show (if a = 0 ∧ trim r = [] then [] else a :: trim r).length ≤ r.length + 1
    have h := trim_length r
    split
    · exact Nat.zero_le _
    · simpa using h
theorem trim_trim : ∀ l : List Int, trim (trim l) = trim l
  | [] => rfl
  | a :: r => by
    show trim (if a = 0 ∧ trim r = [] then [] else a :: trim r) = (if a = 0 ∧ trim r = [] then [] else a :: trim r)
    have h := trim_trim r
    by_cases e : a = 0 ∧ trim r = []
    · rw [if_pos e]
      rfl
    · rw [if_neg e]
      show (if a = 0 ∧ trim (trim r) = [] then [] else a :: trim (trim r)) = a :: trim r
      rw [h, if_neg e]
theorem mem_trim : ∀ {l : List Int} {x : Int}, x ∈ trim l → x ∈ l
  | [], _, h => h
  | a :: r, x, h => by
    have h' : x ∈ (if a = 0 ∧ trim r = [] then [] else a :: trim r) := h
    split at h'
    · cases h'
    · rcases List.mem_cons.mp h' with e | e
      · rw [e]
        exact List.mem_cons_self ..
      · exact List.mem_cons_of_mem _ (mem_trim e)
end M
namespace M
/-! values -/
def hv (p : Int) : List Int → Int → Int
  | [], _ => 0
  | c :: r, x => (hv p r x * x + c) % p
theorem hv_lt {p : Int} (h : 0 < p) : ∀ (l : List Int) (x : Int), 0 ≤ hv p l x ∧ hv p l x < p
  | [], _ => ⟨Int.le_refl _, h⟩
  | _ :: _, _ => ⟨Int.emod_nonneg _ (by omega), Int.emod_lt_of_pos _ h⟩
theorem hv_drop (p : Int) (l : List Int) (x : Int) {i : Nat} (h : i < l.length) : hv p (l.drop i) x = (hv p (l.drop (i + 1)) x * x + l.getD i 0) % p := by
  rw [List.drop_eq_getElem_cons h, List.getD_eq_getElem?_getD, List.getElem?_eq_getElem h]
  rfl
/-- c added at the place k -/
def bump (s : List Int) (k : Nat) (c : Int) : List Int := s.set k (s.getD k 0 + c)
theorem bump_length (s : List Int) (k : Nat) (c : Int) : (bump s k c).length = s.length := by simp [bump]
/-- a times a list, added from the place k on -/
def addMul (s : List Int) (k : Nat) (a : Int) : List Int → List Int
  | [] => s
  | b :: r => addMul (bump s k (a * b)) (k + 1) a r
theorem addMul_length : ∀ (l : List Int) (s : List Int) (k : Nat) (a : Int), (addMul s k a l).length = s.length
  | [], _, _, _ => rfl
  | b :: r, s, k, a => by
    show (addMul (bump s k (a * b)) (k + 1) a r).length = s.length
    rw [addMul_length r, bump_length]
theorem addMul_take : ∀ (l : List Int) (s : List Int) (k : Nat) (a : Int) (i : Nat), i < l.length → addMul s k a (l.take (i + 1)) = bump (addMul s k a (l.take i)) (k + i) (a * l.getD i 0)
  | [], _, _, _, _, h => by simp at h
  | b :: r, s, k, a, 0, _ => by simp [addMul]
  | b :: r, s, k, a, i + 1, h => by
    show addMul (bump s k (a * b)) (k + 1) a (r.take (i + 1)) = bump (addMul (bump s k (a * b)) (k + 1) a (r.take i)) (k + (i + 1)) (a * r.getD i 0)
    rw [addMul_take r _ _ _ i (by simpa using h), show k + 1 + i = k + (i + 1) by omega]
def zeros (n : Nat) : List Int := List.replicate n 0
def addL (n : Nat) (f g : List Int) : List Int := addMul (addMul (zeros n) 0 1 f) 0 1 g
/-- products -/
def mulFrom (s : List Int) (j : Nat) (g : List Int) : List Int → List Int
  | [] => s
  | a :: r => mulFrom (addMul s j a g) (j + 1) g r
theorem mulFrom_length : ∀ (f : List Int) (s : List Int) (j : Nat) (g : List Int), (mulFrom s j g f).length = s.length
  | [], _, _, _ => rfl
  | a :: r, s, j, g => by
    show (mulFrom (addMul s j a g) (j + 1) g r).length = s.length
    rw [mulFrom_length r, addMul_length]
theorem mulFrom_take : ∀ (f : List Int) (s : List Int) (j : Nat) (g : List Int) (i : Nat), i < f.length → mulFrom s j g (f.take (i + 1)) = addMul (mulFrom s j g (f.take i)) (j + i) (f.getD i 0) g
  | [], _, _, _, _, h => by simp at h
  | b :: r, s, j, g, 0, _ => by simp [mulFrom]
  | b :: r, s, j, g, i + 1, h => by
    show mulFrom (addMul s j b g) (j + 1) g (r.take (i + 1)) = addMul (mulFrom (addMul s j b g) (j + 1) g (r.take i)) (j + (i + 1)) (r.getD i 0) g
    rw [mulFrom_take r _ _ _ i (by simpa using h), show j + 1 + i = j + (i + 1) by omega]
def mulL (f g : List Int) : List Int := mulFrom (zeros (f.length + g.length)) 0 g f
end M
namespace M
/-! modulo p -/
def Cg (p a b : Int) : Prop := p ∣ a - b
theorem Cg.refl (p a : Int) : Cg p a a := by
  unfold Cg
  rw [Int.sub_self]
  exact Int.dvd_zero p
theorem Cg.symm {p a b : Int} (h : Cg p a b) : Cg p b a := by
  obtain ⟨k, e⟩ := h
  exact ⟨-k, by grind⟩
theorem Cg.trans {p a b c : Int} (h : Cg p a b) (g : Cg p b c) : Cg p a c := by
  obtain ⟨k, e⟩ := h
  obtain ⟨l, e'⟩ := g
  exact ⟨k + l, by grind⟩
theorem Cg.add {p a b c d : Int} (h : Cg p a b) (g : Cg p c d) : Cg p (a + c) (b + d) := by
  obtain ⟨k, e⟩ := h
  obtain ⟨l, e'⟩ := g
  exact ⟨k + l, by grind⟩
theorem Cg.sub {p a b c d : Int} (h : Cg p a b) (g : Cg p c d) : Cg p (a - c) (b - d) := by
  obtain ⟨k, e⟩ := h
  obtain ⟨l, e'⟩ := g
  exact ⟨k - l, by grind⟩
theorem Cg.mul {p a b c d : Int} (h : Cg p a b) (g : Cg p c d) : Cg p (a * c) (b * d) := by
  obtain ⟨k, e⟩ := h
  obtain ⟨l, e'⟩ := g
  exact ⟨k * c + b * l, by grind⟩
theorem Cg.mod (p a : Int) : Cg p (a % p) a := ⟨-(a / p), by
  have := Int.emod_add_mul_ediv a p
  grind⟩
theorem Cg.emod {p a b : Int} (h : Cg p a b) : a % p = b % p := by
  obtain ⟨k, e⟩ := h
  have : a = b + p * k := by omega
  rw [this, Int.add_mul_emod_self_left]
theorem Cg.of {p a b : Int} (h : a % p = b % p) : Cg p a b := (Cg.mod p a).symm.trans (by rw [h]; exact Cg.mod p b)
theorem Cg.eq {p a b : Int} (h : Cg p a b) (a0 : 0 ≤ a) (a1 : a < p) (b0 : 0 ≤ b) (b1 : b < p) : a = b := by
  have e := h.emod
  rwa [Int.emod_eq_of_lt a0 a1, Int.emod_eq_of_lt b0 b1] at e
/-! a list's value, unreduced -/
def ev : List Int → Int → Int
  | [], _ => 0
  | c :: r, x => ev r x * x + c
theorem hv_ev (p : Int) : ∀ (l : List Int) (x : Int), Cg p (hv p l x) (ev l x)
  | [], _ => Cg.refl _ _
  | c :: r, x => (Cg.mod p _).trans (((hv_ev p r x).mul (Cg.refl p x)).add (Cg.refl p c))
theorem ev_bump : ∀ (s : List Int) (k : Nat) (c x : Int), k < s.length → ev (bump s k c) x = ev s x + c * x ^ k
  | [], _, _, _, h => by simp at h
  | a :: r, 0, c, x, _ => by
    show ev r x * x + (a + c) = ev r x * x + a + c * x ^ 0
    grind
  | a :: r, k + 1, c, x, h => by
    have ih := ev_bump r k c x (by simpa using h)
    show ev (bump r k c) x * x + a = ev r x * x + a + c * x ^ (k + 1)
    rw [ih]
    grind
theorem ev_addMul : ∀ (l : List Int) (s : List Int) (k : Nat) (a x : Int), k + l.length ≤ s.length → ev (addMul s k a l) x = ev s x + a * x ^ k * ev l x
  | [], s, k, a, x, _ => by
    show ev s x = ev s x + a * x ^ k * 0
    grind
  | b :: r, s, k, a, x, h => by
    have h' : k + (r.length + 1) ≤ s.length := h
    show ev (addMul (bump s k (a * b)) (k + 1) a r) x = ev s x + a * x ^ k * (ev r x * x + b)
    rw [ev_addMul r _ _ _ _ (by rw [bump_length]; omega), ev_bump _ _ _ _ (by omega)]
    grind
theorem ev_mulFrom : ∀ (f : List Int) (s : List Int) (j : Nat) (g : List Int) (x : Int), j + f.length + g.length ≤ s.length → ev (mulFrom s j g f) x = ev s x + x ^ j * (ev f x * ev g x)
  | [], s, j, g, x, _ => by
    show ev s x = ev s x + x ^ j * (0 * ev g x)
    grind
  | a :: r, s, j, g, x, h => by
    have h' : j + (r.length + 1) + g.length ≤ s.length := h
    show ev (mulFrom (addMul s j a g) (j + 1) g r) x = ev s x + x ^ j * ((ev r x * x + a) * ev g x)
    rw [ev_mulFrom r _ _ _ _ (by rw [addMul_length]; omega), ev_addMul _ _ _ _ _ (by omega)]
    grind
theorem ev_zeros (n : Nat) (x : Int) : ev (zeros n) x = 0 := by
  induction n with
  | zero => rfl
  | succ n ih =>
    show ev (zeros n) x * x + 0 = 0
    rw [ih]
    omega
theorem ev_addL (n : Nat) (f g : List Int) (x : Int) (hf : f.length ≤ n) (hg : g.length ≤ n) : ev (addL n f g) x = ev f x + ev g x := by
  have lz : (zeros n).length = n := by simp [zeros]
  unfold addL
  rw [ev_addMul _ _ _ _ _ (by rw [addMul_length, lz]; omega), ev_addMul _ _ _ _ _ (by rw [lz]; omega), ev_zeros]
  grind
theorem ev_mulL (f g : List Int) (x : Int) : ev (mulL f g) x = ev f x * ev g x := by
  have lz : (zeros (f.length + g.length)).length = f.length + g.length := by simp [zeros]
  unfold mulL
  rw [ev_mulFrom _ _ _ _ _ (by rw [lz]; omega), ev_zeros]
  grind
theorem ev_mod (p : Int) : ∀ (l : List Int) (x : Int), Cg p (ev (l.map (· % p)) x) (ev l x)
  | [], _ => Cg.refl _ _
  | c :: r, x => ((ev_mod p r x).mul (Cg.refl p x)).add (Cg.mod p c)
theorem ev_trim : ∀ (l : List Int) (x : Int), ev (trim l) x = ev l x
  | [], _ => rfl
  | a :: r, x => by
    have ih := ev_trim r x
    show ev (if a = 0 ∧ trim r = [] then [] else a :: trim r) x = ev r x * x + a
    by_cases e : a = 0 ∧ trim r = []
    · rw [if_pos e, ← ih, e.2, e.1]
      show (0 : Int) = 0 * x + 0
      omega
    · rw [if_neg e, ← ih]
      rfl
/-! the reduced polynomials -/
def red (p : Int) (l : List Int) : List Int := trim (l.map (· % p))
def plus (p : Int) (f g : List Int) : List Int := red p (addL (max f.length g.length) f g)
def times (p : Int) (f g : List Int) : List Int := red p (mulL f g)
theorem ev_red (p : Int) (l : List Int) (x : Int) : Cg p (ev (red p l) x) (ev l x) := by
  unfold red
  rw [ev_trim]
  exact ev_mod p l x
theorem hv_red (p : Int) (l : List Int) (x : Int) : Cg p (hv p (red p l) x) (ev l x) := (hv_ev p _ x).trans (ev_red p l x)
theorem hv_plus (p : Int) (f g : List Int) (x : Int) : Cg p (hv p (plus p f g) x) (hv p f x + hv p g x) := by
  refine (hv_red p _ x).trans ?_
  rw [ev_addL _ _ _ _ (Nat.le_max_left _ _) (Nat.le_max_right _ _)]
  exact ((hv_ev p f x).add (hv_ev p g x)).symm
theorem hv_times (p : Int) (f g : List Int) (x : Int) : Cg p (hv p (times p f g) x) (hv p f x * hv p g x) := by
  refine (hv_red p _ x).trans ?_
  rw [ev_mulL]
  exact ((hv_ev p f x).mul (hv_ev p g x)).symm
theorem red_mem {p : Int} (h : 0 < p) {l : List Int} {x : Int} (m : x ∈ red p l) : 0 ≤ x ∧ x < p := by
  obtain ⟨y, _, e⟩ := List.mem_map.mp (mem_trim m)
  rw [← e]
  exact ⟨Int.emod_nonneg _ (by omega), Int.emod_lt_of_pos _ h⟩
theorem map_mod_id {p : Int} {l : List Int} (h : ∀ x ∈ l, 0 ≤ x ∧ x < p) : l.map (· % p) = l := by
  induction l with
  | nil => rfl
  | cons a r ih =>
    rw [List.map_cons, ih (fun x m => h x (List.mem_cons_of_mem _ m))]
    have := h a (List.mem_cons_self ..)
    rw [Int.emod_eq_of_lt this.1 this.2]
theorem red_red {p : Int} (h : 0 < p) (l : List Int) : red p (red p l) = red p l := by
  have e : (red p l).map (· % p) = red p l := map_mod_id fun x m => red_mem h m
  show trim ((red p l).map (· % p)) = red p l
  rw [e]
  exact trim_trim _
/-! lengths -/
theorem trim_le {l : List Int} {n : Nat} (h : ∀ i, n ≤ i → l.getD i 0 = 0) : (trim l).length ≤ n := by
  induction l generalizing n with
  | nil => exact Nat.zero_le _
  | cons a r ih =>
    show (if a = 0 ∧ trim r = [] then [] else a :: trim r).length ≤ n
    cases n with
    | zero =>
      have h0 : a = 0 := by simpa using h 0 (Nat.le_refl _)
      have h1 : (trim r).length ≤ 0 := ih fun i _ => by simpa using h (i + 1) (Nat.zero_le _)
      have h2 : trim r = [] := List.length_eq_zero_iff.mp (Nat.le_zero.mp h1)
      rw [if_pos ⟨h0, h2⟩]
      exact Nat.le_refl _
    | succ n =>
      have h1 : (trim r).length ≤ n := ih fun i hi => by simpa using h (i + 1) (by omega)
      split
      · exact Nat.zero_le _
      · simpa using h1
theorem bump_get (s : List Int) (k : Nat) (c : Int) (i : Nat) (h : i ≠ k) : (bump s k c).getD i 0 = s.getD i 0 := by
  unfold bump
  rw [List.getD_eq_getElem?_getD, List.getD_eq_getElem?_getD, List.getElem?_set_ne (Ne.symm h)]
  rfl
theorem addMul_get : ∀ (l : List Int) (s : List Int) (k : Nat) (a : Int) (i : Nat), k + l.length ≤ i → (addMul s k a l).getD i 0 = s.getD i 0
  | [], _, _, _, _, _ => rfl
  | b :: r, s, k, a, i, h => by
    have h' : k + (r.length + 1) ≤ i := h
    show (addMul (bump s k (a * b)) (k + 1) a r).getD i 0 = s.getD i 0
    rw [addMul_get r _ _ _ i (by omega), bump_get _ _ _ _ (by omega)]
theorem mulFrom_get : ∀ (f : List Int) (s : List Int) (j : Nat) (g : List Int) (i : Nat), j + f.length + g.length ≤ i + 1 → (mulFrom s j g f).getD i 0 = s.getD i 0
  | [], _, _, _, _, _ => rfl
  | a :: r, s, j, g, i, h => by
    have h' : j + (r.length + 1) + g.length ≤ i + 1 := h
    show (mulFrom (addMul s j a g) (j + 1) g r).getD i 0 = s.getD i 0
    rw [mulFrom_get r _ _ _ i (by omega), addMul_get _ _ _ _ _ (by omega)]
theorem zeros_get (n i : Nat) : (zeros n).getD i 0 = 0 := by
  unfold zeros
  rw [List.getD_eq_getElem?_getD, List.getElem?_replicate]
  split <;> rfl
theorem getD_map_mod (p : Int) (l : List Int) (i : Nat) (h : l.getD i 0 = 0) : (l.map (· % p)).getD i 0 = 0 := by
  rw [List.getD_eq_getElem?_getD] at h ⊢
  rw [List.getElem?_map]
  cases e : l[i]? with
  | none => rfl
  | some y =>
    rw [e] at h
    have : y = 0 := h
    subst this
    show (0 : Int) % p = 0
    exact Int.zero_emod p
theorem times_length (p : Int) (f g : List Int) : (times p f g).length ≤ f.length + g.length - 1 := by
  refine trim_le fun i hi => getD_map_mod p _ i ?_
  show (mulFrom (zeros (f.length + g.length)) 0 g f).getD i 0 = 0
  rw [mulFrom_get _ _ _ _ _ (by omega), zeros_get]
theorem plus_length (p : Int) (f g : List Int) : (plus p f g).length ≤ max f.length g.length := by
  refine Nat.le_trans (trim_length _) ?_
  rw [List.length_map]
  unfold addL
  rw [addMul_length, addMul_length]
  simp [zeros]
theorem addMul_at : ∀ (l : List Int) (s : List Int) (k : Nat) (a : Int) (i : Nat), k + l.length ≤ s.length → (addMul s k a l).getD i 0 = s.getD i 0 + (if k ≤ i then a * l.getD (i - k) 0 else 0)
  | [], s, k, a, i, _ => by
    show s.getD i 0 = s.getD i 0 + (if k ≤ i then a * 0 else 0)
    split <;> omega
  | b :: r, s, k, a, i, h => by
    have h' : k + (r.length + 1) ≤ s.length := h
    show (addMul (bump s k (a * b)) (k + 1) a r).getD i 0 = _
    rw [addMul_at r _ _ _ i (by rw [bump_length]; omega)]
    by_cases e : i = k
    · subst e
      have hb : (bump s i (a * b)).getD i 0 = s.getD i 0 + a * b := by
        unfold bump
        rw [List.getD_eq_getElem?_getD, List.getElem?_set_self (by omega)]
        rfl
      rw [hb, if_neg (by omega), if_pos (Nat.le_refl _), Nat.sub_self, Int.add_zero]
      rfl
    · rw [bump_get _ _ _ _ e]
      by_cases e2 : k ≤ i
      · rw [if_pos (by omega), if_pos e2, show i - k = (i - (k + 1)) + 1 by omega]
        rfl
      · rw [if_neg (by omega), if_neg e2]
theorem getD_range (m i : Nat) (f : Nat → Int) (h : ∀ i, m ≤ i → f i = 0) : ((List.range m).map f).getD i 0 = f i := by
  rw [List.getD_eq_getElem?_getD, List.getElem?_map]
  by_cases e : i < m
  · rw [List.getElem?_range e]
    rfl
  · rw [List.getElem?_eq_none (by simpa using Nat.le_of_not_lt e), h i (by omega)]
    rfl
theorem ext_getD {l l' : List Int} (h : l.length = l'.length) (g : ∀ i, l.getD i 0 = l'.getD i 0) : l = l' := by
  refine List.ext_getElem h fun i h1 h2 => ?_
  have := g i
  rwa [List.getD_eq_getElem?_getD, List.getD_eq_getElem?_getD, List.getElem?_eq_getElem h1, List.getElem?_eq_getElem h2] at this
theorem getD_ge {l : List Int} {i : Nat} (h : l.length ≤ i) : l.getD i 0 = 0 := by
  rw [List.getD_eq_getElem?_getD, List.getElem?_eq_none h]
  rfl
theorem addL_range (n : Nat) (f g : List Int) (hf : f.length ≤ n) (hg : g.length ≤ n) : addL n f g = (List.range n).map fun j => f.getD j 0 + g.getD j 0 := by
  have lz : (zeros n).length = n := by simp [zeros]
  refine ext_getD ?_ fun i => ?_
  · unfold addL
    rw [addMul_length, addMul_length, lz, List.length_map, List.length_range]
  · unfold addL
    rw [addMul_at _ _ _ _ _ (by rw [addMul_length, lz]; omega), addMul_at _ _ _ _ _ (by rw [lz]; omega), zeros_get, if_pos (Nat.zero_le _), if_pos (Nat.zero_le _), Nat.sub_zero,
      getD_range _ _ _ fun j hj => by rw [getD_ge (by omega), getD_ge (by omega)]; rfl]
    omega
def sel (l : List Int) (j : Nat) : List Int := if j < l.length then [l.getD j 0] else []
theorem sel_yes {l : List Int} {j : Nat} (h : j < l.length) : sel l j = [l.getD j 0] := if_pos h
theorem sel_no {l : List Int} {j : Nat} (h : ¬ j < l.length) : sel l j = [] := if_neg h
theorem sel_sum (l : List Int) (j : Nat) : (sel l j).sum = l.getD j 0 := by
  by_cases h : j < l.length
  · rw [sel_yes h]
    simp
  · rw [sel_no h, getD_ge (by omega)]
    rfl
def selN (f g : List Int) (j : Nat) : Nat → List Int
  | 0 => []
  | 1 => sel f j
  | _ => sel f j ++ sel g j
theorem selN_sum (f g : List Int) (j : Nat) : (selN f g j 2).sum = f.getD j 0 + g.getD j 0 := by
  show (sel f j ++ sel g j).sum = _
  rw [List.sum_append, sel_sum, sel_sum]
end M
namespace M
/-- the primes of the setups -/
def PR (p : Int) : Prop := p = 11 ∨ p = 13 ∨ p = 17 ∨ p = 31 ∨ p = 101
theorem PR.lt {p : Int} (h : PR p) : 10 < p ∧ p < 102 := by
  rcases h with e | e | e | e | e <;> omega
def inv (p a : Int) : Int := a ^ (p - 2).toNat % p
theorem inv_lt {p : Int} (h : 0 < p) (a : Int) : 0 ≤ inv p a ∧ inv p a < p := ⟨Int.emod_nonneg _ (by omega), Int.emod_lt_of_pos _ h⟩
def invB (p : Nat) : Bool := (List.range p).all fun n => n == 0 || decide (((n : Int) * inv (p : Int) n) % (p : Int) = 1)
theorem invB_11 : invB 11 = true := by decide +kernel
theorem invB_13 : invB 13 = true := by decide +kernel
theorem invB_17 : invB 17 = true := by decide +kernel
theorem invB_31 : invB 31 = true := by decide +kernel
theorem invB_101 : invB 101 = true := by decide +kernel
theorem inv_of {p : Nat} (h : invB p = true) {a : Int} (h0 : 0 < a) (h1 : a < p) : (a * inv p a) % p = 1 := by
  have h2 := List.all_eq_true.mp h a.toNat (List.mem_range.mpr (by omega))
  rw [Bool.or_eq_true] at h2
  rcases h2 with h2 | h2
  · have : a.toNat = 0 := by simpa using h2
    omega
  · have h3 := of_decide_eq_true h2
    rwa [show ((a.toNat : Nat) : Int) = a by omega] at h3
theorem inv_ok {p : Int} (h : PR p) {a : Int} (h0 : 0 < a) (h1 : a < p) : (a * inv p a) % p = 1 := by
  rcases h with rfl | rfl | rfl | rfl | rfl
  · exact inv_of (p := 11) invB_11 h0 h1
  · exact inv_of (p := 13) invB_13 h0 h1
  · exact inv_of (p := 17) invB_17 h0 h1
  · exact inv_of (p := 31) invB_31 h0 h1
  · exact inv_of (p := 101) invB_101 h0 h1
/-- no divisors of zero -/
theorem mul_ne {p : Int} (h : PR p) {a b : Int} (ha : a % p ≠ 0) (hb : b % p ≠ 0) : (a * b) % p ≠ 0 := by
  have hp := h.lt
  intro e
  have a0 := Int.emod_nonneg a (show p ≠ 0 by omega)
  have a1 := Int.emod_lt_of_pos a (show 0 < p by omega)
  have e1 : Cg p (a % p * inv p (a % p)) 1 := Cg.of (by rw [inv_ok h (by omega) a1, Int.emod_eq_of_lt (by omega) (by omega)])
  have e2 : Cg p (a * b) 0 := Cg.of (by rw [e, Int.zero_emod])
  have e3 : Cg p b 0 := by
    have e4 : Cg p (a % p * inv p (a % p) * b) (1 * b) := e1.mul (Cg.refl p b)
    have e5 : Cg p (a % p * inv p (a % p) * b) (inv p (a % p) * (a * b)) := by
      have := ((Cg.mod p a).mul (Cg.refl p (inv p (a % p) * b)))
      rw [show a % p * inv p (a % p) * b = a % p * (inv p (a % p) * b) by grind, show inv p (a % p) * (a * b) = a * (inv p (a % p) * b) by grind]
      exact this
    have e6 : Cg p (inv p (a % p) * (a * b)) (inv p (a % p) * 0) := (Cg.refl p _).mul e2
    have e7 := e4.symm.trans (e5.trans e6)
    rwa [Int.one_mul, Int.mul_zero] at e7
  have := e3.emod
  rw [Int.zero_emod] at this
  exact hb this
/-! interpolation -/
def stepI (p : Int) (s : List Int × List Int) (x y : Int) : List Int × List Int :=
  (plus p s.1 (times p (red p [(y - hv p s.1 x) * inv p (hv p s.2 x)]) s.2), times p s.2 (red p [-x, 1]))
def stI (p : Int) (l : List (Int × Int)) : List Int × List Int := l.foldl (fun s xy => stepI p s xy.1 xy.2) ([], [1])
theorem stI_snoc (p : Int) (l : List (Int × Int)) (xy : Int × Int) : stI p (l ++ [xy]) = stepI p (stI p l) xy.1 xy.2 := by
  unfold stI
  rw [List.foldl_append]
  rfl
structure InvI (p : Int) (l : List (Int × Int)) (s : List Int × List Int) : Prop where
  len1 : s.1.length ≤ l.length
  len2 : s.2.length ≤ l.length + 1
  in1 : ∀ x ∈ s.1, 0 ≤ x ∧ x < p
  in2 : ∀ x ∈ s.2, 0 ≤ x ∧ x < p
  nf : red p s.1 = s.1
  val : ∀ xy ∈ l, hv p s.1 xy.1 = xy.2
  zero : ∀ xy ∈ l, hv p s.2 xy.1 = 0
  ne : ∀ x, 0 ≤ x → x < p → (∀ xy ∈ l, xy.1 ≠ x) → hv p s.2 x ≠ 0
theorem invI_nil {p : Int} (h : PR p) : InvI p [] (stI p []) where
  len1 := Nat.le_refl _
  len2 := Nat.le_refl _
  in1 := fun x m => by cases m
  in2 := fun x m => by
    have e : x = 1 := by simpa [stI] using m
    have := h.lt
    omega
  nf := rfl
  val := fun _ m => by cases m
  zero := fun _ m => by cases m
  ne := fun x _ _ _ => by
    have hp := h.lt
    show (0 * x + 1) % p ≠ 0
    rw [show (0 : Int) * x + 1 = 1 by omega, Int.emod_eq_of_lt (by omega) (by omega)]
    decide
theorem invI_snoc {p : Int} (h : PR p) {l : List (Int × Int)} {x y : Int} (I : InvI p l (stI p l)) (x0 : 0 ≤ x) (x1 : x < p) (y0 : 0 ≤ y) (y1 : y < p) (nx : ∀ xy ∈ l, xy.1 ≠ x) : InvI p (l ++ [(x, y)]) (stI p (l ++ [(x, y)])) := by
  have hp := h.lt
  have p0 : 0 < p := by omega
  rw [stI_snoc]
  generalize stI p l = s at I
  have vb := hv_lt p0 s.2 x
  have b0 : 0 < hv p s.2 x := by
    have := I.ne x x0 x1 nx
    omega
  have hinv := inv_ok h b0 vb.2
  have vblank : ∀ z, Cg p (hv p (times p s.2 (red p [-x, 1])) z) (hv p s.2 z * (z - x)) := fun z => by
    refine (hv_times p _ _ z).trans ((Cg.refl p _).mul ?_)
    refine (hv_red p _ z).trans ?_
    show Cg p ((0 * z + 1) * z + -x) (z - x)
    rw [show (0 * z + 1) * z + -x = z - x by grind]
    exact Cg.refl _ _
  have vfound : ∀ z, Cg p (hv p (plus p s.1 (times p (red p [(y - hv p s.1 x) * inv p (hv p s.2 x)]) s.2)) z) (hv p s.1 z + (y - hv p s.1 x) * inv p (hv p s.2 x) * hv p s.2 z) := fun z => by
    refine (hv_plus p _ _ z).trans ((Cg.refl p _).add ?_)
    refine (hv_times p _ _ z).trans (Cg.mul ?_ (Cg.refl p _))
    refine (hv_red p _ z).trans ?_
    show Cg p (0 * z + (y - hv p s.1 x) * inv p (hv p s.2 x)) _
    rw [show 0 * z + (y - hv p s.1 x) * inv p (hv p s.2 x) = (y - hv p s.1 x) * inv p (hv p s.2 x) by grind]
    exact Cg.refl _ _
  have bnd := fun (f : List Int) (z : Int) => hv_lt p0 f z
  refine ⟨?_, ?_, fun _ m => red_mem p0 m, fun _ m => red_mem p0 m, red_red p0 _, ?_, ?_, ?_⟩
  · show (plus p s.1 (times p (red p [(y - hv p s.1 x) * inv p (hv p s.2 x)]) s.2)).length ≤ (l ++ [(x, y)]).length
    have h1 := plus_length p s.1 (times p (red p [(y - hv p s.1 x) * inv p (hv p s.2 x)]) s.2)
    have h2 := times_length p (red p [(y - hv p s.1 x) * inv p (hv p s.2 x)]) s.2
    have h3 : (red p [(y - hv p s.1 x) * inv p (hv p s.2 x)]).length ≤ 1 := by
      refine Nat.le_trans (trim_length _) ?_
      simp
    have h4 := I.len1
    have h5 := I.len2
    rw [List.length_append]
    show _ ≤ l.length + 1
    omega
  · show (times p s.2 (red p [-x, 1])).length ≤ (l ++ [(x, y)]).length + 1
    have h2 := times_length p s.2 (red p [-x, 1])
    have h3 : (red p [-x, 1]).length ≤ 2 := by
      refine Nat.le_trans (trim_length _) ?_
      simp
    have h5 := I.len2
    rw [List.length_append]
    show _ ≤ l.length + 1 + 1
    omega
  · rintro ⟨x', y'⟩ m
    show hv p (plus p s.1 (times p (red p [(y - hv p s.1 x) * inv p (hv p s.2 x)]) s.2)) x' = y'
    rcases List.mem_append.mp m with m | m
    · have e1 : hv p s.2 x' = 0 := I.zero _ m
      have e2 : hv p s.1 x' = y' := I.val _ m
      have c := vfound x'
      rw [e1, e2, Int.mul_zero, Int.add_zero] at c
      have b := bnd s.1 x'
      rw [e2] at b
      exact c.eq (bnd _ _).1 (bnd _ _).2 b.1 b.2
    · have e : (x', y') = (x, y) := by simpa using m
      cases e
      refine (vfound x).trans ?_ |>.eq (bnd _ _).1 (bnd _ _).2 y0 y1
      have c1 : Cg p (hv p s.2 x * inv p (hv p s.2 x)) 1 := Cg.of (by rw [hinv, Int.emod_eq_of_lt (by omega) (by omega)])
      have c2 := (Cg.refl p (hv p s.1 x)).add ((Cg.refl p (y - hv p s.1 x)).mul c1)
      rw [show hv p s.1 x + (y - hv p s.1 x) * 1 = y by grind] at c2
      rw [show hv p s.1 x + (y - hv p s.1 x) * inv p (hv p s.2 x) * hv p s.2 x = hv p s.1 x + (y - hv p s.1 x) * (hv p s.2 x * inv p (hv p s.2 x)) by grind]
      exact c2
  · rintro ⟨x', y'⟩ m
    show hv p (times p s.2 (red p [-x, 1])) x' = 0
    refine (vblank x').trans ?_ |>.eq (bnd _ _).1 (bnd _ _).2 (Int.le_refl _) p0
    rcases List.mem_append.mp m with m | m
    · have e1 : hv p s.2 x' = 0 := I.zero _ m
      rw [e1, Int.zero_mul]
      exact Cg.refl _ _
    · have e : (x', y') = (x, y) := by simpa using m
      cases e
      rw [Int.sub_self, Int.mul_zero]
      exact Cg.refl _ _
  · intro z z0 z1 nz e
    have e1 : hv p s.2 z ≠ 0 := I.ne z z0 z1 fun xy m => nz xy (List.mem_append_left _ m)
    have e2 : x ≠ z := nz (x, y) (List.mem_append_right _ (List.mem_singleton.mpr rfl))
    have c := vblank z
    have e3 : hv p (times p s.2 (red p [-x, 1])) z = 0 := e
    rw [e3] at c
    have b := bnd s.2 z
    refine mul_ne h (a := hv p s.2 z) (b := z - x) ?_ ?_ ?_
    · rw [Int.emod_eq_of_lt b.1 b.2]
      exact e1
    · intro e4
      have e5 : Cg p z x := Int.dvd_of_emod_eq_zero e4
      exact e2 (e5.eq z0 z1 x0 x1).symm
    · rw [← c.emod, Int.zero_emod]
theorem invI_take {p : Int} (h : PR p) {l : List (Int × Int)} (hin : ∀ xy ∈ l, 0 ≤ xy.1 ∧ xy.1 < p ∧ 0 ≤ xy.2 ∧ xy.2 < p) (hnd : (l.map (·.1)).Nodup) : ∀ i, i ≤ l.length → InvI p (l.take i) (stI p (l.take i)) := fun i => by
  induction i with
  | zero => exact fun _ => invI_nil h
  | succ i ih =>
    intro hi
    have hi' : i < l.length := hi
    have I := ih (by omega)
    obtain ⟨a1, a2, a3, a4⟩ := hin l[i] (List.getElem_mem hi')
    rw [List.take_succ_eq_append_getElem hi']
    exact invI_snoc h I a1 a2 a3 a4 fun xy m e => by
      obtain ⟨k, hk, ek⟩ := List.getElem_of_mem m
      rw [List.length_take] at hk
      rw [List.getElem_take] at ek
      have h1 : (l.map (·.1))[k]'(by rw [List.length_map]; omega) = (l.map (·.1))[i]'(by rw [List.length_map]; omega) := by
        rw [List.getElem_map, List.getElem_map, ek, e]
        rfl
      have := (List.getElem_inj hnd).mp h1
      omega
theorem invI_all {p : Int} (h : PR p) {l : List (Int × Int)} (hin : ∀ xy ∈ l, 0 ≤ xy.1 ∧ xy.1 < p ∧ 0 ≤ xy.2 ∧ xy.2 < p) (hnd : (l.map (·.1)).Nodup) : InvI p l (stI p l) := by
  have := invI_take h hin hnd l.length (Nat.le_refl _)
  rwa [List.take_length] at this
theorem erase_perm : ∀ (l : List Int) (d : Nat) (h : d < l.length), List.Perm (l[d] :: l.eraseIdx d) l
  | [], _, h => by simp at h
  | a :: r, 0, _ => List.Perm.refl _
  | a :: r, d + 1, h => by
    have ih := erase_perm r d (by simpa using h)
    show List.Perm (r[d]'(by simpa using h) :: a :: r.eraseIdx d) (a :: r)
    exact (List.Perm.swap a _ _).trans (List.Perm.cons a ih)
theorem nodup_move {l : List Int} {ls : List Int} {d : Nat} (hd : d < ls.length) (h : (l ++ ls).Nodup) : ((l ++ [ls[d]]) ++ ls.eraseIdx d).Nodup := by
  have p1 : List.Perm (ls[d] :: ls.eraseIdx d) ls := erase_perm ls d hd
  have p2 : List.Perm ((l ++ [ls[d]]) ++ ls.eraseIdx d) (l ++ ls) := by
    rw [List.append_assoc]
    exact List.Perm.append_left l p1
  exact p2.nodup_iff.mpr h
theorem range_nodup (m : Nat) : ((List.range m).map fun j => (0 : Int) + (j : Nat)).Nodup := by
  rw [List.nodup_iff_pairwise_ne, List.pairwise_map]
  exact List.Pairwise.imp (fun h e => by omega) List.pairwise_lt_range
theorem paired_snoc {α β : Type} {F : α → β → Prop} : ∀ {l : List α} {l' : List β} {a : α} {b : β}, PySem.Paired F l l' → F a b → PySem.Paired F (l ++ [a]) (l' ++ [b])
  | _, _, _, _, .nil, h => .cons h .nil
  | _, _, _, _, .cons r t, h => .cons r (paired_snoc t h)
end M
namespace M
/-! roots -/
def quot (r : Int) : List Int → List Int
  | [] => []
  | [_] => []
  | _ :: t => ev t r :: quot r t
theorem quot_ev (r x : Int) : ∀ f : List Int, ev f x = (x - r) * ev (quot r f) x + ev f r
  | [] => by
    show (0 : Int) = (x - r) * 0 + 0
    grind
  | [c] => by
    show (0 : Int) * x + c = (x - r) * 0 + (0 * r + c)
    grind
  | c :: d :: t => by
    have ih := quot_ev r x (d :: t)
    show ev (d :: t) x * x + c = (x - r) * (ev (quot r (d :: t)) x * x + ev (d :: t) r) + (ev (d :: t) r * r + c)
    rw [ih]
    grind
theorem quot_length (r : Int) : ∀ f : List Int, (quot r f).length = f.length - 1
  | [] => rfl
  | [_] => rfl
  | c :: d :: t => by
    show (quot r (d :: t)).length + 1 = (t.length + 1 + 1) - 1
    rw [quot_length r (d :: t)]
    show (t.length + 1 - 1) + 1 = _
    omega
theorem quot_zero {p r : Int} : ∀ f : List Int, (∀ c ∈ quot r f, Cg p c 0) → Cg p (ev f r) 0 → ∀ c ∈ f, Cg p c 0
  | [], _, _, _, m => by cases m
  | [c], _, h, c', m => by
    have e : c' = c := by simpa using m
    subst e
    have h' : Cg p (0 * r + c') 0 := h
    rwa [Int.zero_mul, Int.zero_add] at h'
  | c :: d :: t, hq, h, c', m => by
    have h1 : Cg p (ev (d :: t) r) 0 := hq _ (List.mem_cons_self ..)
    have ih := quot_zero (d :: t) (fun c m => hq c (List.mem_cons_of_mem _ m)) h1
    rcases List.mem_cons.mp m with e | m
    · subst e
      have h' : Cg p (ev (d :: t) r * r + c') 0 := h
      have h2 : Cg p (ev (d :: t) r * r) (0 * r) := h1.mul (Cg.refl p r)
      have h3 := h'.sub h2
      rwa [show ev (d :: t) r * r + c' - ev (d :: t) r * r = c' by grind, show (0 : Int) - 0 * r = 0 by grind] at h3
    · exact ih c' m
theorem roots {p : Int} (h : PR p) : ∀ (n : Nat) (f xs : List Int), f.length ≤ n → f.length ≤ xs.length → xs.Nodup → (∀ x ∈ xs, 0 ≤ x ∧ x < p) → (∀ x ∈ xs, Cg p (ev f x) 0) → ∀ c ∈ f, Cg p c 0
  | 0, f, _, hl, _, _, _, _, c, m => by
    cases f with
    | nil => cases m
    | cons a r => simp at hl
  | n + 1, f, [], hl, hx, _, _, _, c, m => by
    cases f with
    | nil => cases m
    | cons a r => simp at hx
  | n + 1, f, r :: xs, hl, hx, nd, hb, hz, c, m => by
    have hp := h.lt
    have nd' := List.nodup_cons.mp nd
    refine quot_zero f (r := r) (roots h n (quot r f) xs ?_ ?_ nd'.2 (fun x m => hb x (List.mem_cons_of_mem _ m)) ?_) (hz r (List.mem_cons_self ..)) c m
    · rw [quot_length]
      omega
    · rw [quot_length]
      have : f.length ≤ xs.length + 1 := hx
      omega
    · intro x mx
      have e1 := hz x (List.mem_cons_of_mem _ mx)
      have e2 := hz r (List.mem_cons_self ..)
      rw [quot_ev r x f] at e1
      have e3 := e1.sub e2
      rw [show (x - r) * ev (quot r f) x + ev f r - ev f r = (x - r) * ev (quot r f) x by grind, Int.sub_zero] at e3
      have hxb := hb x (List.mem_cons_of_mem _ mx)
      have hrb := hb r (List.mem_cons_self ..)
      by_cases z : ev (quot r f) x % p = 0
      · exact Cg.of (by rw [z, Int.zero_emod])
      · refine absurd ?_ (mul_ne h (a := x - r) ?_ z)
        · have := e3.emod
          rwa [Int.zero_emod] at this
        · intro z2
          have e4 : Cg p x r := Int.dvd_of_emod_eq_zero z2
          have e5 := e4.eq hxb.1 hxb.2 hrb.1 hrb.2
          subst e5
          exact nd'.1 mx
theorem trim_ext : ∀ (l l' : List Int), (∀ i, l.getD i 0 = l'.getD i 0) → trim l = trim l'
  | [], [], _ => rfl
  | [], b :: r', h => by
    have ih := trim_ext [] r' (fun i => by simpa using h (i + 1))
    have h0 : b = 0 := by simpa using (h 0).symm
    show [] = (if b = 0 ∧ trim r' = [] then [] else b :: trim r')
    rw [if_pos ⟨h0, ih.symm⟩]
  | a :: r, [], h => by
    have ih := trim_ext r [] (fun i => by simpa using h (i + 1))
    have h0 : a = 0 := by simpa using (h 0)
    show (if a = 0 ∧ trim r = [] then [] else a :: trim r) = []
    rw [if_pos ⟨h0, ih⟩]
  | a :: r, b :: r', h => by
    have ih := trim_ext r r' (fun i => by simpa using h (i + 1))
    have h0 : a = b := by simpa using (h 0)
    show (if a = 0 ∧ trim r = [] then [] else a :: trim r) = (if b = 0 ∧ trim r' = [] then [] else b :: trim r')
    rw [ih, h0]
/-- reduced: all coefficients are numbers -/
def Rd (p : Int) (f : List Int) : Prop := ∀ c ∈ f, 0 ≤ c ∧ c < p
theorem Rd.getD {p : Int} (hp : 0 < p) {f : List Int} (h : Rd p f) (i : Nat) : 0 ≤ f.getD i 0 ∧ f.getD i 0 < p := by
  rw [List.getD_eq_getElem?_getD]
  cases e : f[i]? with
  | none => exact ⟨Int.le_refl _, hp⟩
  | some y => exact h y (List.mem_of_getElem? e)
theorem hv_eq {p : Int} (hp : 0 < p) {f g : List Int} {x : Int} (h : Cg p (ev f x) (ev g x)) : hv p f x = hv p g x :=
  ((hv_ev p f x).trans (h.trans (hv_ev p g x).symm)).eq (hv_lt hp f x).1 (hv_lt hp f x).2 (hv_lt hp g x).1 (hv_lt hp g x).2
theorem hv_trim {p : Int} (hp : 0 < p) (f : List Int) (x : Int) : hv p (trim f) x = hv p f x := hv_eq hp (by rw [ev_trim]; exact Cg.refl _ _)
/-- two polynomials that agree at enough numbers are one -/
theorem same_poly {p : Int} (h : PR p) {f g xs : List Int} (hf : Rd p f) (hg : Rd p g) (lf : f.length ≤ xs.length) (lg : g.length ≤ xs.length) (nd : xs.Nodup) (hb : ∀ x ∈ xs, 0 ≤ x ∧ x < p)
    (e : ∀ x ∈ xs, hv p f x = hv p g x) : trim f = trim g := by
  have hp := h.lt
  refine trim_ext f g fun i => ?_
  have lz : (zeros (max f.length g.length)).length = max f.length g.length := by simp [zeros]
  let D := addMul (addMul (zeros (max f.length g.length)) 0 1 f) 0 (-1) g
  have lD : D.length = max f.length g.length := by
    show (addMul (addMul (zeros (max f.length g.length)) 0 1 f) 0 (-1) g).length = _
    rw [addMul_length, addMul_length, lz]
  have gD : ∀ i, D.getD i 0 = f.getD i 0 - g.getD i 0 := fun i => by
    show (addMul (addMul (zeros (max f.length g.length)) 0 1 f) 0 (-1) g).getD i 0 = _
    rw [addMul_at _ _ _ _ _ (by rw [addMul_length, lz]; omega), addMul_at _ _ _ _ _ (by rw [lz]; omega), zeros_get, if_pos (Nat.zero_le _), if_pos (Nat.zero_le _), Nat.sub_zero]
    omega
  have eD : ∀ x, ev D x = ev f x - ev g x := fun x => by
    show ev (addMul (addMul (zeros (max f.length g.length)) 0 1 f) 0 (-1) g) x = _
    rw [ev_addMul _ _ _ _ _ (by rw [addMul_length, lz]; omega), ev_addMul _ _ _ _ _ (by rw [lz]; omega), ev_zeros]
    grind
  have z := roots h D.length D xs (Nat.le_refl _) (by rw [lD]; omega) nd hb fun x m => by
    rw [eD]
    have e1 : Cg p (ev f x) (ev g x) := (hv_ev p f x).symm.trans (by rw [e x m]; exact hv_ev p g x)
    have e2 := e1.sub (Cg.refl p (ev g x))
    rwa [Int.sub_self] at e2
  by_cases hi : i < D.length
  · have e1 : Cg p (D.getD i 0) 0 := z _ (by rw [List.getD_eq_getElem?_getD, List.getElem?_eq_getElem hi]; exact List.getElem_mem hi)
    rw [gD] at e1
    have e2 := e1.add (Cg.refl p (g.getD i 0))
    rw [Int.sub_add_cancel, Int.zero_add] at e2
    exact e2.eq (hf.getD (by omega) i).1 (hf.getD (by omega) i).2 (hg.getD (by omega) i).1 (hg.getD (by omega) i).2
  · rw [lD] at hi
    rw [getD_ge (show f.length ≤ i by omega), getD_ge (show g.length ≤ i by omega)]
/-! decoding -/
def hits (p : Int) (f : List Int) (l : List (Int × Int)) : List (Int × Int) := l.filter fun xy => hv p f xy.1 == xy.2
theorem hits_two (p : Int) (f g : List Int) (l : List (Int × Int)) : (hits p f l).length + (hits p g l).length ≤ l.length + (l.filter fun xy => hv p f xy.1 == xy.2 && hv p g xy.1 == xy.2).length := by
  unfold hits
  induction l with
  | nil => simp
  | cons a r ih =>
    simp only [List.filter_cons, List.length_cons]
    cases hv p f a.1 == a.2 <;> cases hv p g a.1 == a.2 <;> simp [List.length_cons] <;> omega
structure Inp (p : Int) (d e : Nat) (l : List (Int × Int)) : Prop where
  pr : PR p
  inn : ∀ xy ∈ l, 0 ≤ xy.1 ∧ xy.1 < p ∧ 0 ≤ xy.2 ∧ xy.2 < p
  nd : (l.map (·.1)).Nodup
  many : d + 2 * e + 1 ≤ l.length
/-- a polynomial of the degree d with all but e of the pairs -/
structure Fit (p : Int) (d e : Nat) (l : List (Int × Int)) (f : List Int) : Prop where
  tr : trim f = f
  rd : Rd p f
  le : f.length ≤ d + 1
  hit : l.length ≤ (hits p f l).length + e
def DecOk (p : Int) (d e : Nat) (l : List (Int × Int)) : Option (List Int) → Prop
  | some f => Fit p d e l f
  | none => ∀ f, ¬ Fit p d e l f
theorem fit_one {p : Int} {d e : Nat} {l : List (Int × Int)} (I : Inp p d e l) {f g : List Int} (F : Fit p d e l f) (G : Fit p d e l g) : f = g := by
  have t := hits_two p f g l
  have h1 := F.hit
  have h2 := G.hit
  have h3 := I.many
  have sub : (l.filter fun xy => hv p f xy.1 == xy.2 && hv p g xy.1 == xy.2).Sublist l := List.filter_sublist
  have lx : d + 1 ≤ ((l.filter fun xy => hv p f xy.1 == xy.2 && hv p g xy.1 == xy.2).map (·.1)).length := by
    rw [List.length_map]
    omega
  have := same_poly I.pr F.rd G.rd (xs := (l.filter fun xy => hv p f xy.1 == xy.2 && hv p g xy.1 == xy.2).map (·.1)) (by have := F.le; omega) (by have := G.le; omega)
    (I.nd.sublist (sub.map _)) (fun x m => by
      obtain ⟨xy, mm, rfl⟩ := List.mem_map.mp m
      have := I.inn xy (sub.subset mm)
      exact ⟨this.1, this.2.1⟩) (fun x m => by
      obtain ⟨xy, mm, rfl⟩ := List.mem_map.mp m
      have := (List.mem_filter.mp mm).2
      rw [Bool.and_eq_true] at this
      rw [eq_of_beq this.1, eq_of_beq this.2])
  rw [F.tr, G.tr] at this
  exact this
theorem dec_one {p : Int} {d e : Nat} {l : List (Int × Int)} (I : Inp p d e l) : ∀ {r s : Option (List Int)}, DecOk p d e l r → DecOk p d e l s → r = s
  | none, none, _, _ => rfl
  | some f, none, h, g => absurd h (g f)
  | none, some f, h, g => absurd g (h f)
  | some f, some g, h, k => by rw [fit_one I h k]
end M
namespace M
theorem ev_ext {l l' : List Int} (h : ∀ i, l.getD i 0 = l'.getD i 0) (x : Int) : ev l x = ev l' x := by rw [← ev_trim l, trim_ext l l' h, ev_trim]
theorem getD_rangeM (n i : Nat) (f : Nat → Int) (h : i < n) : ((List.range n).map f).getD i 0 = f i := by
  rw [List.getD_eq_getElem?_getD, List.getElem?_map, List.getElem?_range h]
  rfl
theorem getD_rangeO (n i : Nat) (f : Nat → Int) (h : n ≤ i) : ((List.range n).map f).getD i 0 = 0 := getD_ge (by rw [List.length_map, List.length_range]; exact h)
theorem getD_mod (p : Int) (l : List Int) (i : Nat) : (l.map (· % p)).getD i 0 = l.getD i 0 % p := by
  rw [List.getD_eq_getElem?_getD, List.getD_eq_getElem?_getD, List.getElem?_map]
  cases l[i]? with
  | none => exact (Int.zero_emod p).symm
  | some y => rfl
theorem Rd.mod {p : Int} (hp : 0 < p) (l : List Int) : Rd p (l.map (· % p)) := fun c m => by
  obtain ⟨y, _, rfl⟩ := List.mem_map.mp m
  exact ⟨Int.emod_nonneg _ (by omega), Int.emod_lt_of_pos _ hp⟩
/-! the law's own line -/
def lng (xj fac : Int) (term : List Int) (u : Nat) : Int := if 0 < u then (0 - xj * term.getD u 0 * fac) + term.getD (u - 1) 0 * fac else 0 - xj * term.getD u 0 * fac
theorem ev_lng (n : Nat) (xj fac : Int) (term : List Int) (x : Int) (hl : term.length = n) (hz : term.getD (n - 1) 0 = 0) : ev ((List.range n).map (lng xj fac term)) x = ev term x * ((x - xj) * fac) := by
  cases n with
  | zero =>
    have : term = [] := by simpa using hl
    subst this
    show (0 : Int) = 0 * _
    grind
  | succ n =>
    have lz : (zeros (n + 1)).length = n + 1 := by simp [zeros]
    have lt : (term.take n).length = n := by rw [List.length_take]; omega
    have e1 : ∀ i, ((List.range (n + 1)).map (lng xj fac term)).getD i 0 = (addMul (addMul (zeros (n + 1)) 0 (-(xj * fac)) term) 1 fac (term.take n)).getD i 0 := fun i => by
      rw [addMul_at _ _ _ _ _ (by rw [addMul_length, lz, lt]; omega), addMul_at _ _ _ _ _ (by rw [lz]; omega), zeros_get, if_pos (Nat.zero_le _), Nat.sub_zero, Int.zero_add]
      by_cases hi : i < n + 1
      · rw [getD_rangeM _ _ _ hi]
        unfold lng
        by_cases h0 : 0 < i
        · rw [if_pos h0, if_pos (show 1 ≤ i from h0)]
          have e2 : (term.take n).getD (i - 1) 0 = term.getD (i - 1) 0 := by
            rw [List.getD_eq_getElem?_getD, List.getD_eq_getElem?_getD, List.getElem?_take_of_lt (by omega)]
          rw [e2]
          grind
        · rw [if_neg h0, if_neg (by omega)]
          grind
      · rw [getD_rangeO _ _ _ (by omega), getD_ge (show term.length ≤ i by omega), if_pos (by omega), getD_ge (show (term.take n).length ≤ i - 1 by omega)]
        grind
    rw [ev_ext e1, ev_addMul _ _ _ _ _ (by rw [addMul_length, lz, lt]; omega), ev_addMul _ _ _ _ _ (by rw [lz]; omega), ev_zeros]
    have e3 : ev (term.take n) x = ev term x := ev_ext (fun i => by
      rw [List.getD_eq_getElem?_getD, List.getElem?_take]
      by_cases hi : i < n
      · rw [if_pos hi, ← List.getD_eq_getElem?_getD]
      · rw [if_neg hi]
        by_cases h2 : i = n
        · subst h2
          exact hz.symm
        · exact (getD_ge (by omega)).symm) x
    rw [e3]
    grind
def xAt (l : List (Int × Int)) (k : Nat) : Int := (l.getD k (0, 0)).1
def yAt (l : List (Int × Int)) (k : Nat) : Int := (l.getD k (0, 0)).2
def stepT (p : Int) (n : Nat) (xk xj : Int) (term : List Int) : List Int := ((List.range n).map (lng xj (inv p ((xk - xj) % p)) term)).map (· % p)
def termT (p : Int) (l : List (Int × Int)) (k : Nat) : Nat → List Int
  | 0 => yAt l k :: zeros (l.length - 1)
  | j + 1 => if j = k then termT p l k j else stepT p l.length (xAt l k) (xAt l j) (termT p l k j)
def foundT (p : Int) (l : List (Int × Int)) : Nat → List Int
  | 0 => zeros l.length
  | k + 1 => (List.range l.length).map fun u => ((foundT p l k).getD u 0 + (termT p l k l.length).getD u 0) % p
def lineT (p : Int) (l : List (Int × Int)) : List Int := foundT p l l.length
theorem termT_length (p : Int) (l : List (Int × Int)) (k : Nat) (h : k < l.length) : ∀ j, (termT p l k j).length = l.length
  | 0 => by
    show (zeros (l.length - 1)).length + 1 = _
    simp [zeros]
    omega
  | j + 1 => by
    show (if j = k then termT p l k j else stepT p l.length (xAt l k) (xAt l j) (termT p l k j)).length = _
    split
    · exact termT_length p l k h j
    · unfold stepT
      rw [List.length_map, List.length_map, List.length_range]
theorem foundT_length (p : Int) (l : List (Int × Int)) : ∀ k, (foundT p l k).length = l.length
  | 0 => by
    show (zeros l.length).length = _
    simp [zeros]
  | k + 1 => by
    show ((List.range l.length).map _).length = _
    rw [List.length_map, List.length_range]
theorem at_in {p : Int} {l : List (Int × Int)} (hin : ∀ xy ∈ l, 0 ≤ xy.1 ∧ xy.1 < p ∧ 0 ≤ xy.2 ∧ xy.2 < p) {k : Nat} (h : k < l.length) : (0 ≤ xAt l k ∧ xAt l k < p) ∧ 0 ≤ yAt l k ∧ yAt l k < p := by
  unfold xAt yAt
  rw [List.getD_eq_getElem?_getD, List.getElem?_eq_getElem h]
  have := hin l[k] (List.getElem_mem h)
  exact ⟨⟨this.1, this.2.1⟩, this.2.2⟩
theorem termT_rd {p : Int} (hp : 0 < p) {l : List (Int × Int)} (hin : ∀ xy ∈ l, 0 ≤ xy.1 ∧ xy.1 < p ∧ 0 ≤ xy.2 ∧ xy.2 < p) {k : Nat} (h : k < l.length) : ∀ j, Rd p (termT p l k j)
  | 0 => fun c m => by
    have m' : c ∈ yAt l k :: zeros (l.length - 1) := m
    rcases List.mem_cons.mp m' with e | m'
    · rw [e]
      exact (at_in hin h).2
    · have : c = 0 := (List.mem_replicate.mp m').2
      omega
  | j + 1 => by
    show Rd p (if j = k then termT p l k j else stepT p l.length (xAt l k) (xAt l j) (termT p l k j))
    split
    · exact termT_rd hp hin h j
    · exact Rd.mod hp _
theorem foundT_rd {p : Int} (hp : 0 < p) (l : List (Int × Int)) : ∀ k, Rd p (foundT p l k)
  | 0 => fun c m => by
    have : c = 0 := (List.mem_replicate.mp m).2
    omega
  | k + 1 => fun c m => by
    obtain ⟨y, _, rfl⟩ := List.mem_map.mp m
    exact ⟨Int.emod_nonneg _ (by omega), Int.emod_lt_of_pos _ hp⟩
/-- how many turns the loop over j has made that change the term -/
def turnsT (k j : Nat) : Nat := if j ≤ k then j else j - 1
theorem termT_zero {p : Int} {l : List (Int × Int)} {k : Nat} (h : k < l.length) : ∀ j i, turnsT k j < i → (termT p l k j).getD i 0 = 0
  | 0, i, hi => by
    unfold turnsT at hi
    rw [if_pos (Nat.zero_le _)] at hi
    show (yAt l k :: zeros (l.length - 1)).getD i 0 = 0
    cases i with
    | zero => omega
    | succ i => exact zeros_get _ i
  | j + 1, i, hi => by
    show (if j = k then termT p l k j else stepT p l.length (xAt l k) (xAt l j) (termT p l k j)).getD i 0 = 0
    have ih := termT_zero (p := p) h j
    unfold turnsT at hi ih
    split
    · rename_i e
      subst e
      refine ih i ?_
      rw [if_pos (Nat.le_refl _)]
      rw [if_neg (by omega)] at hi
      omega
    · rename_i e
      unfold stepT
      rw [getD_mod]
      by_cases hn : i < l.length
      · rw [getD_rangeM _ _ _ hn]
        unfold lng
        have h1 : turnsT k j + 1 < i ∨ turnsT k j + 1 = turnsT k (j + 1) := by
          unfold turnsT
          right
          split <;> split <;> omega
        have h2 : turnsT k j + 1 < i := by
          rcases h1 with h1 | h1
          · exact h1
          · rw [h1]
            exact hi
        unfold turnsT at h2
        rw [if_pos (by omega), ih i (by omega), ih (i - 1) (by omega)]
        rw [Int.mul_zero, Int.zero_mul, Int.sub_zero, Int.add_zero, Int.zero_emod]
      · rw [getD_rangeO _ _ _ (by omega), Int.zero_emod]
def prodT (p : Int) (l : List (Int × Int)) (k : Nat) (x : Int) : Nat → Int
  | 0 => yAt l k
  | j + 1 => if j = k then prodT p l k x j else prodT p l k x j * ((x - xAt l j) * inv p ((xAt l k - xAt l j) % p))
theorem ev_termT {p : Int} {l : List (Int × Int)} {k : Nat} (h : k < l.length) (x : Int) : ∀ j, j ≤ l.length → Cg p (ev (termT p l k j) x) (prodT p l k x j)
  | 0, _ => by
    show Cg p (ev (zeros (l.length - 1)) x * x + yAt l k) (yAt l k)
    rw [ev_zeros, Int.zero_mul, Int.zero_add]
    exact Cg.refl _ _
  | j + 1, hj => by
    have ih := ev_termT (p := p) h x j (by omega)
    show Cg p (ev (if j = k then termT p l k j else stepT p l.length (xAt l k) (xAt l j) (termT p l k j)) x) (if j = k then prodT p l k x j else _)
    by_cases e : j = k
    · rw [if_pos e, if_pos e]
      exact ih
    · rw [if_neg e, if_neg e]
      unfold stepT
      refine (ev_mod p _ x).trans ?_
      rw [ev_lng _ _ _ _ _ (termT_length p l k h j) (termT_zero h j _ (by unfold turnsT; split <;> omega))]
      exact ih.mul (Cg.refl _ _)
theorem prodT_zero {p : Int} {l : List (Int × Int)} {k i : Nat} (hik : i ≠ k) : ∀ j, i < j → Cg p (prodT p l k (xAt l i) j) 0
  | 0, h => by omega
  | j + 1, h => by
    show Cg p (if j = k then prodT p l k (xAt l i) j else prodT p l k (xAt l i) j * ((xAt l i - xAt l j) * inv p ((xAt l k - xAt l j) % p))) 0
    by_cases e : i = j
    · subst e
      rw [if_neg hik, Int.sub_self, Int.zero_mul, Int.mul_zero]
      exact Cg.refl _ _
    · have ih := prodT_zero (p := p) (l := l) hik j (by omega)
      split
      · exact ih
      · have := ih.mul (Cg.refl p ((xAt l i - xAt l j) * inv p ((xAt l k - xAt l j) % p)))
        rwa [Int.zero_mul] at this
theorem xAt_ne {l : List (Int × Int)} (nd : (l.map (·.1)).Nodup) {i j : Nat} (hi : i < l.length) (hj : j < l.length) (h : i ≠ j) : xAt l i ≠ xAt l j := by
  unfold xAt
  rw [List.getD_eq_getElem?_getD, List.getD_eq_getElem?_getD, List.getElem?_eq_getElem hi, List.getElem?_eq_getElem hj]
  intro e
  have h1 : (l.map (·.1))[i]'(by rw [List.length_map]; exact hi) = (l.map (·.1))[j]'(by rw [List.length_map]; exact hj) := by
    rw [List.getElem_map, List.getElem_map]
    exact e
  exact h ((List.getElem_inj nd).mp h1)
theorem prodT_one {p : Int} (hpr : PR p) {l : List (Int × Int)} (hin : ∀ xy ∈ l, 0 ≤ xy.1 ∧ xy.1 < p ∧ 0 ≤ xy.2 ∧ xy.2 < p) (nd : (l.map (·.1)).Nodup) {k : Nat} (h : k < l.length) : ∀ j, j ≤ l.length → Cg p (prodT p l k (xAt l k) j) (yAt l k)
  | 0, _ => Cg.refl _ _
  | j + 1, hj => by
    have hp := hpr.lt
    have ih := prodT_one hpr hin nd h j (by omega)
    show Cg p (if j = k then prodT p l k (xAt l k) j else prodT p l k (xAt l k) j * ((xAt l k - xAt l j) * inv p ((xAt l k - xAt l j) % p))) _
    split
    · exact ih
    · rename_i e
      have b0 := Int.emod_nonneg (xAt l k - xAt l j) (show p ≠ 0 by omega)
      have b1 := Int.emod_lt_of_pos (xAt l k - xAt l j) (show 0 < p by omega)
      have hk := (at_in hin h).1
      have hj' := (at_in hin (k := j) (by omega)).1
      have b2 : (xAt l k - xAt l j) % p ≠ 0 := fun z => xAt_ne nd (i := k) (j := j) h (by omega) (fun z => e z.symm) ((show Cg p (xAt l k) (xAt l j) from Int.dvd_of_emod_eq_zero z).eq hk.1 hk.2 hj'.1 hj'.2)
      have e1 : Cg p ((xAt l k - xAt l j) % p * inv p ((xAt l k - xAt l j) % p)) 1 := Cg.of (by rw [inv_ok hpr (by omega) b1, Int.emod_eq_of_lt (by omega) (by omega)])
      have e2 : Cg p ((xAt l k - xAt l j) * inv p ((xAt l k - xAt l j) % p)) 1 := ((Cg.mod p _).symm.mul (Cg.refl p _)).trans e1
      have := ih.mul e2
      rwa [Int.mul_one] at this
theorem ev_foundT {p : Int} (hpr : PR p) {l : List (Int × Int)} (hin : ∀ xy ∈ l, 0 ≤ xy.1 ∧ xy.1 < p ∧ 0 ≤ xy.2 ∧ xy.2 < p) (nd : (l.map (·.1)).Nodup) {i : Nat} (hi : i < l.length) : ∀ m, m ≤ l.length → Cg p (ev (foundT p l m) (xAt l i)) (if i < m then yAt l i else 0)
  | 0, _ => by
    show Cg p (ev (zeros l.length) (xAt l i)) _
    rw [ev_zeros, if_neg (by omega)]
    exact Cg.refl _ _
  | m + 1, hm => by
    have ih := ev_foundT hpr hin nd hi m (by omega)
    have lz : (zeros l.length).length = l.length := by simp [zeros]
    have e1 : ∀ u, (foundT p l (m + 1)).getD u 0 = ((addMul (addMul (zeros l.length) 0 1 (foundT p l m)) 0 1 (termT p l m l.length)).map (· % p)).getD u 0 := fun u => by
      show ((List.range l.length).map _).getD u 0 = _
      rw [getD_mod, addMul_at _ _ _ _ _ (by rw [addMul_length, lz, termT_length p l m (by omega)]; omega), addMul_at _ _ _ _ _ (by rw [lz, foundT_length]; omega), zeros_get, if_pos (Nat.zero_le _), if_pos (Nat.zero_le _), Nat.sub_zero, Int.zero_add, Int.one_mul, Int.one_mul]
      by_cases hu : u < l.length
      · rw [getD_rangeM _ _ _ hu]
      · rw [getD_rangeO _ _ _ (by omega), getD_ge (by rw [foundT_length]; omega), getD_ge (by rw [termT_length p l m (by omega)]; omega)]
        exact (Int.zero_emod p).symm
    rw [ev_ext e1]
    refine (ev_mod p _ _).trans ?_
    rw [ev_addMul _ _ _ _ _ (by rw [addMul_length, lz, termT_length p l m (by omega)]; omega), ev_addMul _ _ _ _ _ (by rw [lz, foundT_length]; omega), ev_zeros]
    have e2 := ev_termT (p := p) (l := l) (k := m) (by omega) (xAt l i) l.length (Nat.le_refl _)
    rw [Int.zero_add, Int.one_mul, Int.pow_zero, Int.one_mul, Int.one_mul]
    have e3 := ih.add e2
    refine e3.trans ?_
    by_cases e : i = m
    · subst e
      have := prodT_one hpr hin nd hi l.length (Nat.le_refl _)
      rw [if_neg (by omega), if_pos (by omega), Int.zero_add]
      exact this
    · have := prodT_zero (p := p) (l := l) e l.length hi
      have e4 := (Cg.refl p (if i < m then yAt l i else 0)).add this
      refine e4.trans ?_
      rw [Int.add_zero]
      by_cases h : i < m
      · rw [if_pos h, if_pos (by omega)]
        exact Cg.refl _ _
      · rw [if_neg h, if_neg (by omega)]
        exact Cg.refl _ _
theorem lineT_length (p : Int) (l : List (Int × Int)) : (lineT p l).length = l.length := foundT_length p l _
theorem lineT_rd {p : Int} (hp : 0 < p) (l : List (Int × Int)) : Rd p (lineT p l) := foundT_rd hp l _
theorem lineT_at {p : Int} (hpr : PR p) {l : List (Int × Int)} (hin : ∀ xy ∈ l, 0 ≤ xy.1 ∧ xy.1 < p ∧ 0 ≤ xy.2 ∧ xy.2 < p) (nd : (l.map (·.1)).Nodup) : ∀ xy ∈ l, hv p (lineT p l) xy.1 = xy.2 := fun xy m => by
  have hp := hpr.lt
  obtain ⟨i, hi, e⟩ := List.getElem_of_mem m
  have h := ev_foundT hpr hin nd hi l.length (Nat.le_refl _)
  rw [if_pos hi] at h
  have ex : xAt l i = xy.1 := by
    unfold xAt
    rw [List.getD_eq_getElem?_getD, List.getElem?_eq_getElem hi, e]
    rfl
  have ey : yAt l i = xy.2 := by
    unfold yAt
    rw [List.getD_eq_getElem?_getD, List.getElem?_eq_getElem hi, e]
    rfl
  rw [ex, ey] at h
  have b := hin xy m
  exact ((hv_ev p _ _).trans h).eq (hv_lt (by omega) _ _).1 (hv_lt (by omega) _ _).2 b.2.2.1 b.2.2.2
/-! the law's own choices -/
def choM (k : Nat) : Nat → List (List Nat)
  | 0 => [[]]
  | j + 1 => choM k j ++ ((choM k j).filter fun l => decide (l.length < k)).map fun l => l ++ [j]
theorem choM_length (k : Nat) : ∀ j, (choM k j).length ≤ 2 ^ j
  | 0 => Nat.le_refl _
  | j + 1 => by
    show (choM k j ++ ((choM k j).filter fun l => decide (l.length < k)).map fun l => l ++ [j]).length ≤ _
    rw [List.length_append, List.length_map, Nat.pow_succ]
    have := choM_length k j
    have h2 := List.length_filter_le (fun l : List Nat => decide (l.length < k)) (choM k j)
    omega
theorem choM_sound (k : Nat) : ∀ j l, l ∈ choM k j → l.Pairwise (· < ·) ∧ (∀ x ∈ l, x < j) ∧ l.length ≤ k
  | 0, l, m => by
    have e : l = [] := by simpa [choM] using m
    subst e
    exact ⟨.nil, fun x m => (by cases m), Nat.zero_le _⟩
  | j + 1, l, m => by
    have m' : l ∈ choM k j ++ ((choM k j).filter fun l => decide (l.length < k)).map fun l => l ++ [j] := m
    rcases List.mem_append.mp m' with m' | m'
    · have := choM_sound k j l m'
      exact ⟨this.1, fun x h => Nat.lt_succ_of_lt (this.2.1 x h), this.2.2⟩
    · obtain ⟨l0, m0, rfl⟩ := List.mem_map.mp m'
      obtain ⟨m1, m2⟩ := List.mem_filter.mp m0
      have := choM_sound k j l0 m1
      refine ⟨List.pairwise_append.mpr ⟨this.1, List.pairwise_singleton _ _, fun a ha b hb => ?_⟩, fun x h => ?_, ?_⟩
      · rw [List.mem_singleton.mp hb]
        exact this.2.1 a ha
      · rcases List.mem_append.mp h with h | h
        · exact Nat.lt_succ_of_lt (this.2.1 x h)
        · rw [List.mem_singleton.mp h]
          exact Nat.lt_succ_self _
      · rw [List.length_append]
        have := of_decide_eq_true m2
        exact this
theorem choM_all (k : Nat) : ∀ j l, l.Pairwise (· < ·) → (∀ x ∈ l, x < j) → l.length ≤ k → l ∈ choM k j
  | 0, l, _, h, _ => by
    cases l with
    | nil => simp [choM]
    | cons a r => exact absurd (h a (List.mem_cons_self ..)) (Nat.not_lt_zero _)
  | j + 1, l, hp, h, hk => by
    show l ∈ choM k j ++ ((choM k j).filter fun l => decide (l.length < k)).map fun l => l ++ [j]
    by_cases hj : j ∈ l
    · have hne : l ≠ [] := fun e => by rw [e] at hj; cases hj
      have e : l = l.dropLast ++ [l.getLast hne] := (List.dropLast_concat_getLast hne).symm
      rw [e] at hp
      have hp' := List.pairwise_append.mp hp
      have el : l.getLast hne = j := by
        rw [e] at hj
        rcases List.mem_append.mp hj with hj | hj
        · have h1 := hp'.2.2 j hj _ (List.mem_singleton.mpr rfl)
          have h2 := h _ (List.getLast_mem hne)
          omega
        · exact (List.mem_singleton.mp hj).symm
      rw [el] at e hp'
      have hl : l.length = l.dropLast.length + 1 := by
        rw [List.length_dropLast]
        have : 0 < l.length := List.length_pos_iff.mpr hne
        omega
      refine List.mem_append_right _ (List.mem_map.mpr ⟨l.dropLast, List.mem_filter.mpr ⟨choM_all k j _ hp'.1 (fun x m => hp'.2.2 x m j (List.mem_singleton.mpr rfl)) (by omega), decide_eq_true (by omega)⟩, e.symm⟩)
    · refine List.mem_append_left _ (choM_all k j l hp (fun x m => ?_) hk)
      have h1 := h x m
      have h2 : x ≠ j := fun e => hj (e ▸ m)
      omega
def choL (many k : Nat) : List (List Nat) := (choM k many).filter fun l => l.length == k
theorem mem_choL {many k : Nat} {l : List Nat} : l ∈ choL many k ↔ l.Pairwise (· < ·) ∧ (∀ x ∈ l, x < many) ∧ l.length = k := by
  unfold choL
  rw [List.mem_filter]
  constructor
  · rintro ⟨m, e⟩
    have := choM_sound k many l m
    exact ⟨this.1, this.2.1, eq_of_beq e⟩
  · rintro ⟨h1, h2, h3⟩
    exact ⟨choM_all k many l h1 h2 (by omega), by rw [h3]; exact beq_self_eq_true _⟩
theorem choL_length (many k : Nat) : (choL many k).length ≤ 2 ^ many := Nat.le_trans (List.length_filter_le _ _) (choM_length k many)
/-- the pairs with the chosen numbers -/
def pick (l : List (Int × Int)) (ch : List Nat) : List (Int × Int) := ch.map fun k => l.getD k (0, 0)
theorem pick_mem {l : List (Int × Int)} {ch : List Nat} (h : ∀ x ∈ ch, x < l.length) : ∀ xy ∈ pick l ch, xy ∈ l := fun xy m => by
  obtain ⟨k, mk, rfl⟩ := List.mem_map.mp m
  rw [List.getD_eq_getElem?_getD, List.getElem?_eq_getElem (h k mk)]
  exact List.getElem_mem _
theorem pick_nd {l : List (Int × Int)} (nd : (l.map (·.1)).Nodup) {ch : List Nat} (hp : ch.Pairwise (· < ·)) (h : ∀ x ∈ ch, x < l.length) : ((pick l ch).map (·.1)).Nodup := by
  unfold pick
  rw [List.map_map, List.nodup_iff_pairwise_ne, List.pairwise_map]
  refine List.Pairwise.imp_of_mem (fun {a b} ha hb hab => ?_) hp
  exact xAt_ne nd (h a ha) (h b hb) (by omega)
theorem filter_pick (P : Int × Int → Bool) (l : List (Int × Int)) : pick l ((List.range l.length).filter fun k => P (l.getD k (0, 0))) = l.filter P := by
  unfold pick
  have e : l = (List.range l.length).map fun k => l.getD k (0, 0) := by
    refine List.ext_getElem? fun i => ?_
    rw [List.getElem?_map]
    by_cases h : i < l.length
    · rw [List.getElem?_range h, List.getElem?_eq_getElem h]
      show _ = some (l.getD i (0, 0))
      rw [List.getD_eq_getElem?_getD, List.getElem?_eq_getElem h]
      rfl
    · rw [List.getElem?_eq_none (by omega), List.getElem?_eq_none (by simpa using Nat.le_of_not_lt h)]
      rfl
  conv => rhs; rw [e]
  rw [List.filter_map]
  rfl
theorem hits_trim {p : Int} (hp : 0 < p) (f : List Int) (l : List (Int × Int)) : hits p (trim f) l = hits p f l := by
  unfold hits
  congr 1
  funext xy
  rw [hv_trim hp]
/-- where some polynomial fits, some choice's line is it -/
theorem line_all {p : Int} {d e : Nat} {l : List (Int × Int)} (I : Inp p d e l) {f : List Int} (F : Fit p d e l f) : ∃ ch ∈ choL l.length (d + 1), trim (lineT p (pick l ch)) = f := by
  have hp := I.pr.lt
  let idx := (List.range l.length).filter fun k => (fun xy : Int × Int => hv p f xy.1 == xy.2) (l.getD k (0, 0))
  have hidx : pick l idx = hits p f l := filter_pick (fun xy : Int × Int => hv p f xy.1 == xy.2) l
  have hlen : idx.length = (hits p f l).length := by
    rw [← hidx]
    unfold pick
    rw [List.length_map]
  have hpw : idx.Pairwise (· < ·) := List.Pairwise.filter _ List.pairwise_lt_range
  have hlt : ∀ x ∈ idx, x < l.length := fun x m => List.mem_range.mp (List.mem_filter.mp m).1
  have hit := F.hit
  have many := I.many
  let ch := idx.take (d + 1)
  have cl : ch.length = d + 1 := by
    show (idx.take (d + 1)).length = d + 1
    rw [List.length_take]
    omega
  have cp : ch.Pairwise (· < ·) := hpw.sublist (List.take_sublist _ _)
  have cm : ∀ x ∈ ch, x < l.length := fun x m => hlt x (List.mem_of_mem_take m)
  refine ⟨ch, mem_choL.mpr ⟨cp, cm, cl⟩, ?_⟩
  have nd := pick_nd I.nd cp cm
  have hin : ∀ xy ∈ pick l ch, 0 ≤ xy.1 ∧ xy.1 < p ∧ 0 ≤ xy.2 ∧ xy.2 < p := fun xy m => I.inn xy (pick_mem cm xy m)
  have pl : (pick l ch).length = d + 1 := by
    unfold pick
    rw [List.length_map, cl]
  rw [← F.tr]
  refine same_poly I.pr (lineT_rd (by omega) _) F.rd (xs := (pick l ch).map (·.1)) (by rw [lineT_length, List.length_map]; omega) (by have := F.le; rw [List.length_map, pl]; exact this) nd (fun x m => ?_) fun x m => ?_
  · obtain ⟨xy, mm, rfl⟩ := List.mem_map.mp m
    have := hin xy mm
    exact ⟨this.1, this.2.1⟩
  · obtain ⟨xy, mm, rfl⟩ := List.mem_map.mp m
    rw [lineT_at I.pr hin nd xy mm]
    obtain ⟨k, mk, rfl⟩ := List.mem_map.mp mm
    have m1 := (List.mem_filter.mp (List.mem_of_mem_take mk)).2
    exact (eq_of_beq m1).symm
theorem line_fit {p : Int} {d e : Nat} {l : List (Int × Int)} (I : Inp p d e l) {ch : List Nat} (h : ch ∈ choL l.length (d + 1)) (hh : l.length ≤ (hits p (lineT p (pick l ch)) l).length + e) : Fit p d e l (trim (lineT p (pick l ch))) := by
  have hp := I.pr.lt
  obtain ⟨h1, h2, h3⟩ := mem_choL.mp h
  refine ⟨trim_trim _, fun c m => lineT_rd (by omega) _ c (mem_trim m), ?_, ?_⟩
  · refine Nat.le_trans (trim_length _) ?_
    rw [lineT_length]
    unfold pick
    rw [List.length_map]
    omega
  · rw [hits_trim (by omega)]
    exact hh
theorem dec_none {p : Int} {d e : Nat} {l : List (Int × Int)} (I : Inp p d e l) (h : ∀ ch ∈ choL l.length (d + 1), (hits p (lineT p (pick l ch)) l).length + e < l.length) : DecOk p d e l none := fun f F => by
  have hp := I.pr.lt
  obtain ⟨ch, m, t⟩ := line_all I F
  have h1 := h ch m
  have h2 := F.hit
  rw [← t, hits_trim (by omega)] at h2
  omega
end M
namespace M
theorem incr_length {n : Nat} : ∀ (l : List Nat) (a : Nat), l.Pairwise (· < ·) → (∀ x ∈ l, a ≤ x ∧ x < n) → l.length ≤ n - a
  | [], _, _, _ => Nat.zero_le _
  | b :: r, a, h, hb => by
    have h' := List.pairwise_cons.mp h
    have ih := incr_length r (b + 1) h'.2 fun x m => ⟨h'.1 x m, (hb x (List.mem_cons_of_mem _ m)).2⟩
    have h2 := hb b (List.mem_cons_self ..)
    show r.length + 1 ≤ n - a
    omega
end M
namespace M
/-! sums -/
def sm (n : Nat) (g : Nat → Int) : Int := match n with
  | 0 => 0
  | n + 1 => sm n g + g n
theorem sm_congr {n : Nat} {g h : Nat → Int} (e : ∀ k, k < n → g k = h k) : sm n g = sm n h := by
  induction n with
  | zero => rfl
  | succ n ih =>
    show sm n g + g n = sm n h + h n
    rw [ih (fun k hk => e k (by omega)), e n (by omega)]
theorem sm_add (n : Nat) (g h : Nat → Int) : sm n (fun k => g k + h k) = sm n g + sm n h := by
  induction n with
  | zero => rfl
  | succ n ih =>
    show sm n (fun k => g k + h k) + (g n + h n) = (sm n g + g n) + (sm n h + h n)
    rw [ih]
    omega
theorem sm_mul (n : Nat) (g : Nat → Int) (c : Int) : sm n (fun k => g k * c) = sm n g * c := by
  induction n with
  | zero => exact (Int.zero_mul c).symm
  | succ n ih =>
    show sm n (fun k => g k * c) + g n * c = (sm n g + g n) * c
    rw [ih, Int.add_mul]
theorem sm_zero (n : Nat) : sm n (fun _ => 0) = 0 := by
  induction n with
  | zero => rfl
  | succ n ih =>
    show sm n (fun _ => 0) + 0 = 0
    rw [ih]
    rfl
theorem sm_swap (n m : Nat) (g : Nat → Nat → Int) : sm n (fun a => sm m (fun b => g a b)) = sm m (fun b => sm n (fun a => g a b)) := by
  induction n with
  | zero => exact (sm_zero m).symm
  | succ n ih =>
    show sm n (fun a => sm m (fun b => g a b)) + sm m (fun b => g n b) = sm m (fun b => sm n (fun a => g a b) + g n b)
    rw [ih, sm_add]
theorem sm_cg {p : Int} (n : Nat) {g h : Nat → Int} (e : ∀ k, k < n → Cg p (g k) (h k)) : Cg p (sm n g) (sm n h) := by
  induction n with
  | zero => exact Cg.refl _ _
  | succ n ih => exact (ih fun k hk => e k (by omega)).add (e n (by omega))
theorem ev_snoc : ∀ (l : List Int) (c x : Int), ev (l ++ [c]) x = ev l x + c * x ^ l.length
  | [], c, x => by
    show (0 : Int) * x + c = 0 + c * x ^ 0
    grind
  | a :: r, c, x => by
    show ev (r ++ [c]) x * x + a = ev r x * x + a + c * x ^ (r.length + 1)
    rw [ev_snoc r c x]
    grind
theorem ev_range (n : Nat) (g : Nat → Int) (x : Int) : ev ((List.range n).map g) x = sm n fun k => g k * x ^ k := by
  induction n with
  | zero => rfl
  | succ n ih =>
    rw [List.range_succ, List.map_append]
    show ev ((List.range n).map g ++ [g n]) x = sm n (fun k => g k * x ^ k) + g n * x ^ n
    rw [ev_snoc, ih, List.length_map, List.length_range]
theorem hv_cg {p : Int} {l l' : List Int} {x : Int} (hp : 0 < p) (h : Cg p (ev l x) (ev l' x)) : hv p l x = hv p l' x := hv_eq hp h
/-! symmetric tables -/
/-- where row j of the numbers on and above the diagonal begins -/
def offs (t : Nat) : Nat → Nat
  | 0 => 0
  | j + 1 => offs t j + (t + 1 - j)
/-- the coefficient at j, k -/
def tb (t : Nat) (tape : List Int) (base j k : Nat) : Int := tape.getD (base + offs t (min j k) + (max j k - min j k)) 0
theorem tb_comm (t : Nat) (tape : List Int) (base j k : Nat) : tb t tape base j k = tb t tape base k j := by
  unfold tb
  rw [Nat.min_comm, Nat.max_comm]
/-- a square table of a function -/
def tab (n : Nat) (g : Nat → Nat → Int) : List (List Int) := (List.range n).map fun j => (List.range n).map fun k => g j k
theorem tab_length (n : Nat) (g : Nat → Nat → Int) : (tab n g).length = n := by simp [tab]
theorem tab_get {n : Nat} (g : Nat → Nat → Int) {j : Nat} (h : j < n) : (tab n g)[j]? = some ((List.range n).map fun k => g j k) := by
  unfold tab
  rw [List.getElem?_map, List.getElem?_range h]
  rfl
theorem tab_congr {n : Nat} {g h : Nat → Nat → Int} (e : ∀ j k, j < n → k < n → g j k = h j k) : tab n g = tab n h := by
  unfold tab
  refine List.map_congr_left fun j hj => List.map_congr_left fun k hk => e j k (List.mem_range.mp hj) (List.mem_range.mp hk)
theorem tab_set {n : Nat} (g : Nat → Nat → Int) {j k : Nat} (hj : j < n) (hk : k < n) (v : Int) : (tab n g).set j (((List.range n).map fun y => g j y).set k v) = tab n fun x y => if x = j ∧ y = k then v else g x y := by
  refine List.ext_getElem? fun i => ?_
  rw [List.getElem?_set]
  by_cases e : j = i
  · subst e
    rw [if_pos rfl, if_pos (by rw [tab_length]; exact hj), tab_get _ hj]
    refine congrArg some (List.ext_getElem? fun u => ?_)
    rw [List.getElem?_set]
    by_cases e2 : k = u
    · subst e2
      rw [if_pos rfl, if_pos (by simpa using hk), List.getElem?_map, List.getElem?_range hk]
      show _ = some (if j = j ∧ k = k then v else g j k)
      rw [if_pos ⟨rfl, rfl⟩]
    · rw [if_neg e2, List.getElem?_map, List.getElem?_map]
      by_cases hu : u < n
      · rw [List.getElem?_range hu]
        show some (g j u) = some (if j = j ∧ u = k then v else g j u)
        rw [if_neg (fun z => e2 z.2.symm)]
      · rw [List.getElem?_eq_none (by simpa using Nat.le_of_not_lt hu)]
        rfl
  · rw [if_neg e]
    by_cases hi : i < n
    · rw [tab_get _ hi, tab_get _ hi]
      refine congrArg some (List.map_congr_left fun u _ => ?_)
      rw [if_neg (fun z => e z.1.symm)]
    · rw [List.getElem?_eq_none (by rw [tab_length]; omega), List.getElem?_eq_none (by rw [tab_length]; omega)]
/-- what the reading has set: all above row j, and of row j what is ahead of k -/
def seen (j k u v : Nat) : Prop := u < j ∨ (u = j ∧ v < k)
instance (j k u v : Nat) : Decidable (seen j k u v) := by unfold seen; infer_instance
def part (t : Nat) (tape : List Int) (base j k : Nat) (x y : Nat) : Int := if seen j k (min x y) (max x y) then tb t tape base x y else 0
theorem part_start (t : Nat) (tape : List Int) (base : Nat) : tab (t + 1) (part t tape base 0 0) = tab (t + 1) fun _ _ => 0 := tab_congr fun x y _ _ => if_neg (by unfold seen; omega)
theorem part_row (t : Nat) (tape : List Int) (base j : Nat) : tab (t + 1) (part t tape base j j) = tab (t + 1) (part t tape base j 0) := tab_congr fun x y _ _ => by
  unfold part
  by_cases h : seen j 0 (min x y) (max x y)
  · rw [if_pos h, if_pos (by unfold seen at h ⊢; omega)]
  · rw [if_neg h, if_neg (by unfold seen at h ⊢; omega)]
theorem part_next (t : Nat) (tape : List Int) (base j : Nat) : tab (t + 1) (part t tape base j (t + 1)) = tab (t + 1) (part t tape base (j + 1) (j + 1)) := tab_congr fun x y hx hy => by
  unfold part
  by_cases h : seen j (t + 1) (min x y) (max x y)
  · rw [if_pos h, if_pos (by unfold seen at h ⊢; omega)]
  · rw [if_neg h, if_neg (by unfold seen at h ⊢; omega)]
theorem part_done (t : Nat) (tape : List Int) (base : Nat) : tab (t + 1) (part t tape base (t + 1) (t + 1)) = tab (t + 1) (tb t tape base) := tab_congr fun x y hx hy => if_pos (by unfold seen; omega)
theorem part_step (t : Nat) (tape : List Int) (base j k : Nat) (hjk : j ≤ k) : tab (t + 1) (part t tape base j (k + 1)) = tab (t + 1) fun x y => if x = k ∧ y = j then tb t tape base j k else if x = j ∧ y = k then tb t tape base j k else part t tape base j k x y := tab_congr fun x y _ _ => by
  unfold part
  by_cases h1 : x = k ∧ y = j
  · obtain ⟨rfl, rfl⟩ := h1
    rw [if_pos (show x = x ∧ y = y from ⟨rfl, rfl⟩), if_pos (by unfold seen; omega), tb_comm]
  · rw [if_neg h1]
    by_cases h2 : x = j ∧ y = k
    · obtain ⟨rfl, rfl⟩ := h2
      rw [if_pos (show x = x ∧ y = y from ⟨rfl, rfl⟩), if_pos (by unfold seen; omega)]
    · rw [if_neg h2]
      by_cases h : seen j k (min x y) (max x y)
      · rw [if_pos h, if_pos (by unfold seen at h ⊢; omega)]
      · rw [if_neg h, if_neg (by unfold seen at h ⊢; omega)]
/-- a polynomial in two variables, unreduced -/
def ev2 (n : Nat) (g : Nat → Nat → Int) (x y : Int) : Int := sm n fun a => sm n fun b => g a b * x ^ a * y ^ b
theorem ev2_comm {n : Nat} {g : Nat → Nat → Int} (h : ∀ a b, g a b = g b a) (x y : Int) : ev2 n g x y = ev2 n g y x := by
  unfold ev2
  rw [sm_swap]
  exact sm_congr fun b _ => sm_congr fun a _ => by rw [h a b]; grind
/-- the row for i -/
def rowL (p : Int) (n : Nat) (g : Nat → Nat → Int) (i : Int) : List Int := (List.range n).map fun k => hv p ((List.range n).map fun j => g j k) i
theorem hv_rowL {p : Int} (hp : 0 < p) (n : Nat) (g : Nat → Nat → Int) (i y : Int) : hv p (rowL p n g i) y = ev2 n g i y % p := by
  have e1 : Cg p (hv p (rowL p n g i) y) (ev2 n g i y) := by
    refine (hv_ev p _ y).trans ?_
    unfold rowL
    rw [ev_range]
    unfold ev2
    rw [sm_swap]
    refine sm_cg n fun k _ => ?_
    have e2 : Cg p (hv p ((List.range n).map fun j => g j k) i) (sm n fun j => g j k * i ^ j) := (hv_ev p _ i).trans (by rw [ev_range]; exact Cg.refl _ _)
    have e3 := e2.mul (Cg.refl p (y ^ k))
    rw [← sm_mul] at e3
    exact e3
  have b := hv_lt hp (rowL p n g i) y
  rw [← e1.emod, Int.emod_eq_of_lt b.1 b.2]
theorem rowL_rd {p : Int} (hp : 0 < p) (n : Nat) (g : Nat → Nat → Int) (i : Int) : Rd p (rowL p n g i) := fun c m => by
  obtain ⟨k, _, rfl⟩ := List.mem_map.mp m
  exact hv_lt hp _ _
theorem rowL_length (p : Int) (n : Nat) (g : Nat → Nat → Int) (i : Int) : (rowL p n g i).length = n := by simp [rowL]
/-- the law's sum -/
theorem sum_cg {p : Int} (n : Nat) (g : Nat → Nat → Int) (x y : Int) : Cg p (sm n fun a => sm n fun b => g a b * (x ^ a % p) * (y ^ b % p)) (ev2 n g x y) :=
  sm_cg n fun a _ => sm_cg n fun b _ => ((Cg.refl p (g a b)).mul (Cg.mod p (x ^ a))).mul (Cg.mod p (y ^ b))
end M
namespace K1
open PySem PySem.Spec PyProof.Rows L2 Z
/-- a tuple, a list of ints -/
abbrev IsT (K : PySem.W.Frag) (H : Hp) (a : Addr) (ns : List Int) : Prop := SqT K H a (ns.map V.int)
abbrev IsL (K : PySem.W.Frag) (H : Hp) (a : Addr) (ns : List Int) : Prop := SqL K H a (ns.map V.int)
/-- a sequence of refs whose items are told -/
theorem pr_at {K : PySem.W.Frag} {H : Hp} {as : List Addr} {l : List (Int × Int)} (h : Paired (fun a xy => SqT K H a [.int xy.1, .int xy.2]) as l) {k : Nat} (hk : k < l.length) : ∃ a, as[k]? = some a ∧ SqT K H a [.int (M.xAt l k), .int (M.yAt l k)] := by
  have e := Paired.length h
  have ha : as[k]? = some (as[k]'(by omega)) := List.getElem?_eq_getElem (by omega)
  obtain ⟨xy, e1, e2⟩ := paired_get h ha
  refine ⟨_, ha, ?_⟩
  have e3 : l.getD k (0, 0) = xy := by rw [List.getD_eq_getElem?_getD, e1]; rfl
  unfold M.xAt M.yAt
  rw [e3]
  exact e2
theorem at_ref {as : List Addr} {i : Int} {k : Nat} {a : Addr} (h : as[k]? = some a) (e : i = k) : atI (as.map V.ref) i = some (.ref a) := at_of e (by rw [List.getElem?_map, h]; rfl)
theorem at_intI {ns : List Int} {i : Int} {k : Nat} (h : k < ns.length) (e : i = k) : atI (ns.map V.int) i = some (.int (ns.getD k 0)) := at_of e (at_int h)
/-! cells: objects that are told one by one -/
abbrev Cl {β : Type} (enc : β → HO) (H : Hp) (a : Addr) (x : β) : Prop := H a = some (enc x)
section
variable {β : Type} {enc : β → HO}
theorem cells_but {H H' : Hp} {c : Addr} : ∀ {ras : List Addr} {l : List β}, Paired (Cl enc H) ras l → But c H H' → c ∉ ras → Paired (Cl enc H') ras l
  | _, _, .nil, _, _ => .nil
  | _, _, .cons h t, bt, hn => .cons (bt _ _ (fun z => hn (by rw [z]; exact List.mem_cons_self ..)) h) (cells_but t bt fun m => hn (List.mem_cons_of_mem _ m))
theorem cells_same {H H' : Hp} {ras : List Addr} {l : List β} (h : Paired (Cl enc H) ras l) (s : Same H H') : Paired (Cl enc H') ras l := L2.Paired.mapP h fun a xy h => s _ _ h
theorem cells_set {H H' : Hp} {a : Addr} {y : β} : ∀ {ras : List Addr} {l : List β} {i : Nat}, Paired (Cl enc H) ras l → ras.Nodup → ras[i]? = some a → But a H H' → Cl enc H' a y → Paired (Cl enc H') ras (l.set i y)
  | _, _, _, .nil, _, e, _, _ => by simp at e
  | b :: ras, z :: l, 0, .cons h t, nd, e, bt, ha => by
    have e' : b = a := by simpa using e
    subst e'
    have nd' := List.nodup_cons.mp nd
    exact .cons ha (cells_but t bt nd'.1)
  | b :: ras, z :: l, i + 1, .cons h t, nd, e, bt, ha => by
    have nd' := List.nodup_cons.mp nd
    have e' : ras[i]? = some a := by simpa using e
    have hb : b ≠ a := fun z => nd'.1 (by rw [z]; exact List.mem_of_getElem? e')
    exact .cons (bt _ _ hb h) (cells_set t nd'.2 e' bt ha)
theorem cells_get {H : Hp} {ras : List Addr} {l : List β} (h : Paired (Cl enc H) ras l) {i : Nat} {y : β} (e : l[i]? = some y) : ∃ a, ras[i]? = some a ∧ Cl enc H a y := by
  have hl := Paired.length h
  have hi := (List.getElem?_eq_some_iff.mp e).1
  have ea : ras[i]? = some (ras[i]'(by omega)) := List.getElem?_eq_getElem (by omega)
  obtain ⟨b, e1, e2⟩ := paired_get h ea
  rw [e] at e1
  cases e1
  exact ⟨_, ea, e2⟩
theorem cells_free {H : Hp} {ras : List Addr} {l : List β} (h : Paired (Cl enc H) ras l) {c : Addr} (n : H c = none) : c ∉ ras := fun m => by
  obtain ⟨j, hj, ej⟩ := List.getElem_of_mem m
  obtain ⟨_, _, h2⟩ := paired_get h (show ras[j]? = some c by rw [List.getElem?_eq_getElem hj, ej])
  rw [show H c = _ from h2] at n
  cases n
end
/-! a list of lists of ints, a tuple of tuples of ints -/
abbrev encL (r : List Int) : HO := .lst (r.map V.int)
def IsTab (H : Hp) (a : Addr) (f : List (List Int)) : Prop := ∃ ras : List Addr, H a = some (.lst (ras.map V.ref)) ∧ Paired (Cl encL H) ras f
def IsTT (K : PySem.W.Frag) (H : Hp) (a : Addr) (f : List (List Int)) : Prop := ∃ as : List Addr, SqT K H a (as.map V.ref) ∧ Paired (IsT K H) as f
theorem IsTab.same {H H' : Hp} {a : Addr} {f : List (List Int)} (h : IsTab H a f) (s : Same H H') : IsTab H' a f := by
  obtain ⟨ras, e, p⟩ := h
  exact ⟨ras, s _ _ e, cells_same p s⟩
theorem IsTT.same {K : PySem.W.Frag} {H H' : Hp} {a : Addr} {f : List (List Int)} (h : IsTT K H a f) (s : Same H H') : IsTT K H' a f := by
  obtain ⟨as, e, p⟩ := h
  exact ⟨as, sqt_same s e, L2.Paired.mapP p fun a r h => sqt_same s h⟩
theorem some_getD {α : Type} {l : List α} {k : Nat} {d : α} (h : k < l.length) : l[k]? = some (l.getD k d) := by
  rw [List.getD_eq_getElem?_getD, List.getElem?_eq_getElem h]
  rfl
theorem take_get {α : Type} {l : List α} {i : Nat} {x : α} (e : l[i]? = some x) : l.take (i + 1) = l.take i ++ [x] := by
  obtain ⟨h, e1⟩ := List.getElem?_eq_some_iff.mp e
  rw [List.take_succ_eq_append_getElem h, e1]
theorem pr_item2 {β : Type} {G : Addr → β → Prop} {as : List Addr} {l : List β} (h : Paired G as l) {i : Nat} {x : V} (e : (as.map V.ref)[i]? = some x) : ∃ a b, x = .ref a ∧ as[i]? = some a ∧ l[i]? = some b ∧ G a b := by
  rw [List.getElem?_map] at e
  cases ea : as[i]? with
  | none =>
    rw [ea] at e
    cases e
  | some a =>
    rw [ea] at e
    obtain ⟨b, e1, e2⟩ := paired_get h ea
    exact ⟨a, b, (Option.some.inj e).symm, rfl, e1, e2⟩
theorem pr_get {β : Type} {G : Addr → β → Prop} {as : List Addr} {l : List β} (h : Paired G as l) {i : Nat} {b : β} (e : l[i]? = some b) : ∃ a, as[i]? = some a ∧ G a b := by
  have hl := Paired.length h
  have hi := (List.getElem?_eq_some_iff.mp e).1
  have ea : as[i]? = some (as[i]'(by omega)) := List.getElem?_eq_getElem (by omega)
  obtain ⟨b', e1, e2⟩ := paired_get h ea
  rw [e] at e1
  cases e1
  exact ⟨_, ea, e2⟩
theorem paired_app {α β : Type} {F : α → β → Prop} : ∀ {l : List α} {l' : List β} {m : List α} {m' : List β}, PySem.Paired F l l' → PySem.Paired F m m' → PySem.Paired F (l ++ m) (l' ++ m')
  | _, _, _, _, .nil, h => h
  | _, _, _, _, .cons r t, h => .cons r (paired_app t h)
/-- as data -/
def tt (f : List (List Int)) : PyData := .tuple (f.map fun r => .tuple (r.map .int))
theorem dp_tts {K : PySem.W.Frag} {H : Hp} : ∀ {as : List Addr} {f : List (List Int)}, Paired (IsT K H) as f → DpAll K H (as.map V.ref) (f.map fun r => .tuple (r.map .int))
  | _, _, .nil => .nil
  | _, _, .cons h t => .cons (dp_t h) (dp_tts t)
theorem dp_tt {K : PySem.W.Frag} {H : Hp} {a : Addr} {f : List (List Int)} (h : IsTT K H a f) : Dp K H (.ref a) (tt f) := by
  obtain ⟨as, e, p⟩ := h
  exact .tup e (dp_tts p)
theorem canLay_tts : ∀ f : List (List Int), PyData.canLayAll0 (f.map fun r => PyData.tuple (r.map .int)) = true
  | [] => rfl
  | r :: f => by simp [PyData.canLayAll0, PyData.canLay0, Z.canLayAll_ints, canLay_tts f]
theorem depth_tts : ∀ f : List (List Int), PyData.depthAll (f.map fun r => PyData.tuple (r.map .int)) ≤ 1
  | [] => Nat.zero_le _
  | r :: f => by
    have h := depth_tts f
    simp [PyData.depthAll, PyData.depth, Z.depthAll_ints]
    omega
theorem shaped_tt (f : List (List Int)) : SeqAt.shaped (tt f) = true := by
  have h := depth_tts f
  unfold SeqAt.shaped tt
  rw [Bool.and_eq_true, decide_eq_true_eq]
  refine ⟨by simpa [PyData.canLay0] using canLay_tts f, ?_⟩
  rw [PyData.depth]
  omega
end K1
namespace M
/-! setups, addresses, scripts -/
structure SetOk (p n t m : Int) : Prop where
  pr : PR p
  t0 : 0 ≤ t
  t2 : t ≤ 2
  nt : 3 * t + 1 ≤ n
  n7 : n ≤ 7
  m1 : 1 ≤ m
  m6 : m ≤ 6
def Pty (n i : Int) : Prop := 1 ≤ i ∧ i ≤ n
def Idx (m a : Int) : Prop := 0 ≤ a ∧ a < m
/-- an address of the round and the sender -/
inductive AddrAt (n t m : Int) : Int → Int → List Int → Prop
  | r1 {i j a u : Int} : Pty n i → Pty n j → j ≠ i → Idx m a → Idx (t + 1) u → AddrAt n t m 1 i [1, i, j, a, u]
  | r2 {j k i a : Int} : Pty n j → Pty n k → k ≠ j → Pty n i → Idx m a → AddrAt n t m 2 j [2, j, k, i, a]
  | r3 {j i k : Int} : Pty n j → Pty n i → Pty n k → k ≠ j → AddrAt n t m 3 j [3, j, 0, i, k]
  | r4 {i j k a : Int} : Pty n i → Pty n j → Pty n k → k ≠ j → Idx m a → AddrAt n t m 4 i [4, i, 0, j, k, a]
  | r5 {j i : Int} : Pty n j → Pty n i → AddrAt n t m 5 j [5, j, 0, i]
  | r6 {i j a u : Int} : Pty n i → Pty n j → Idx m a → Idx (t + 1) u → AddrAt n t m 6 i [6, i, 0, j, a, u]
  | r7 {j i : Int} : Pty n j → Pty n i → AddrAt n t m 7 j [7, j, 0, i]
  | r8 {j a : Int} : Pty n j → Idx m a → AddrAt n t m 8 j [8, j, 0, a]
inductive Chg
  | is (v : Int)
  | add (v : Int)
  | drop
  | copy (x : List Int)
structure Scr where
  foes : List Int
  rules : List (List Int × Chg)
def ChgOk (p n t m : Int) : Chg → Prop
  | .is v => 0 ≤ v ∧ v < p
  | .add v => 0 ≤ v ∧ v < p
  | .drop => True
  | .copy x => ∃ s i, AddrAt n t m s i x
structure ScrOk (p n t m : Int) (s : Scr) : Prop where
  asc : s.foes.Pairwise (· < ·)
  pty : ∀ i ∈ s.foes, Pty n i
  few : (s.foes.length : Int) ≤ t
  len : s.rules.length ≤ 40
  rule : ∀ r ∈ s.rules, (∃ st i, AddrAt n t m st i r.1 ∧ i ∈ s.foes) ∧ ChgOk p n t m r.2
theorem other_ne {n s d : Int} (h2 : 2 ≤ n) (h7 : n ≤ 7) (s1 : 1 ≤ s) (s2 : s ≤ n) (d0 : 0 ≤ d) (d1 : d < n - 1) : Pty n ((s + d) % n + 1) ∧ (s + d) % n + 1 ≠ s := by
  unfold Pty
  rcases (show n = 2 ∨ n = 3 ∨ n = 4 ∨ n = 5 ∨ n = 6 ∨ n = 7 by omega) with rfl | rfl | rfl | rfl | rfl | rfl <;> omega
theorem strict_of_le {l : List Int} (h : l.Pairwise (· ≤ ·)) (nd : l.Nodup) : l.Pairwise (· < ·) := by
  rw [List.nodup_iff_pairwise_ne] at nd
  exact (List.Pairwise.and h nd).imp fun ⟨a, b⟩ => by omega
end M
namespace K1
open PySem PySem.Spec PyProof.Rows L2 Z
def IsChg (K : PySem.W.Frag) (H : Hp) (b : Addr) : M.Chg → Prop
  | .is v => SqT K H b [.str "is", .int v]
  | .add v => SqT K H b [.str "add", .int v]
  | .drop => SqT K H b [.str "drop"]
  | .copy x => ∃ a, SqT K H b [.str "copy", .ref a] ∧ IsT K H a x
def IsRule (K : PySem.W.Frag) (H : Hp) (r : Addr) (x : List Int × M.Chg) : Prop := ∃ a b, SqT K H r [.ref a, .ref b] ∧ IsT K H a x.1 ∧ IsChg K H b x.2
def IsScr (K : PySem.W.Frag) (H : Hp) (v : Addr) (s : M.Scr) : Prop := ∃ f rs as, SqT K H v [.ref f, .ref rs] ∧ IsT K H f s.foes ∧ SqT K H rs (as.map V.ref) ∧ Paired (IsRule K H) as s.rules
/-- tuples stay -/
def TK (K : PySem.W.Frag) (H H' : Hp) : Prop := ∀ a xs, SqT K H a xs → SqT K H' a xs
theorem TK.refl (K : PySem.W.Frag) (H : Hp) : TK K H H := fun _ _ h => h
theorem TK.trans {K : PySem.W.Frag} {H H1 H2 : Hp} (a : TK K H H1) (b : TK K H1 H2) : TK K H H2 := fun x xs h => b x xs (a x xs h)
theorem TK.same {K : PySem.W.Frag} {H H' : Hp} (s : Same H H') : TK K H H' := fun _ _ h => sqt_same s h
theorem TK.but {K : PySem.W.Frag} {H H' : Hp} {c : Addr} {ys : List V} (b : But c H H') (hc : H c = some (.lst ys)) : TK K H H' := fun _ _ h => sqt_but b hc h
theorem IsChg.tk {K : PySem.W.Frag} {H H' : Hp} {b : Addr} {c : M.Chg} (h : IsChg K H b c) (k : TK K H H') : IsChg K H' b c := by
  cases c with
  | is v => exact k _ _ h
  | add v => exact k _ _ h
  | drop => exact k _ _ h
  | copy x =>
    obtain ⟨a, h1, h2⟩ := h
    exact ⟨a, k _ _ h1, k _ _ h2⟩
theorem IsRule.tk {K : PySem.W.Frag} {H H' : Hp} {r : Addr} {x : List Int × M.Chg} (h : IsRule K H r x) (k : TK K H H') : IsRule K H' r x := by
  obtain ⟨a, b, h1, h2, h3⟩ := h
  exact ⟨a, b, k _ _ h1, k _ _ h2, h3.tk k⟩
theorem IsScr.tk {K : PySem.W.Frag} {H H' : Hp} {v : Addr} {s : M.Scr} (h : IsScr K H v s) (k : TK K H H') : IsScr K H' v s := by
  obtain ⟨f, rs, as, h1, h2, h3, h4⟩ := h
  exact ⟨f, rs, as, k _ _ h1, k _ _ h2, k _ _ h3, L2.Paired.mapP h4 fun a x h => h.tk k⟩
theorem IsTT.tk {K : PySem.W.Frag} {H H' : Hp} {a : Addr} {f : List (List Int)} (h : IsTT K H a f) (k : TK K H H') : IsTT K H' a f := by
  obtain ⟨as, e, p⟩ := h
  exact ⟨as, k _ _ e, L2.Paired.mapP p fun a r h => k _ _ h⟩
end K1
namespace Z
open PySem PySem.Spec PyProof.Rows L2 HT
section
variable {prog : Program} {w : World} {A : Around} {E : Value → Shared → Prop} {s : Shared}
theorem adjust_rev (n : Nat) : Builtin.Slice.sliceAdjust none none (-1) (n : Int) = ((n : Int) - 1, -1) := by
  simp [Builtin.Slice.sliceAdjust]
theorem places_rev (n : Nat) : Builtin.Slice.slicePlaces ((n : Int) - 1) (-1) (-1) = n := by
  simp [Builtin.Slice.slicePlaces]
  omega
theorem sliceApplied_rev {sl : Addr} {vs : Value} {n : Nat} {Q : Int × Int × Nat → Shared → Prop} (hs : s.heap.IsSliceOf sl .none .none vs) (ps : PySem.IsPart vs (some (-1)))
    (h : Q ((n : Int) - 1, -1, n) s) : wpAny (model prog w) A (Builtin.Slice.sliceApplied (.ref sl) (pure (n : Int))) Q E s := by
  obtain ⟨os, hos, hcs, hds⟩ := id hs
  unfold Builtin.Slice.sliceApplied Builtin.Slice.sliceFields
  refine wpAny_bind (wpAny_bind (wpAny_field hos hds (x := .none) rfl (wpAny_bind (wpAny_field hos hds (x := .none) rfl (wpAny_bind (wpAny_field hos hds (x := vs) rfl (wpAny_pure ?_)))))))
  refine wpAny_bind (slicePart_ ps ?_)
  show wpAny _ _ (if ((-1 : Int) == 0) = true then _ else _) _ _ s
  rw [if_neg (by decide)]
  refine wpAny_bind (slicePart_ .none (wpAny_bind (slicePart_ .none (wpAny_bind (wpAny_pure ?_)))))
  show wpAny _ _ (match Builtin.Slice.sliceAdjust none none (-1) (n : Int) with | (lo, hi) => pure (lo, (-1 : Int), Builtin.Slice.slicePlaces lo hi (-1))) _ _ s
  rw [adjust_rev]
  show wpAny _ _ (pure ((n : Int) - 1, (-1 : Int), Builtin.Slice.slicePlaces ((n : Int) - 1) (-1) (-1))) _ _ s
  rw [places_rev]
  exact wpAny_pure h
theorem filterMap_congr' {α β : Type} {l : List α} {f g : α → Option β} (h : ∀ a ∈ l, f a = g a) : l.filterMap f = l.filterMap g := by
  induction l with
  | nil => rfl
  | cons a r ih => rw [List.filterMap_cons, List.filterMap_cons, h a (List.mem_cons_self ..), ih fun b m => h b (List.mem_cons_of_mem _ m)]
theorem pick_rev (xs : Array Value) : ((List.range xs.size).filterMap fun (m : Nat) => xs[(((xs.size : Int) - 1) + (m : Int) * (-1)).toNat]?).toArray = xs.toList.reverse.toArray := by
  have h := PySem.W.krv_pick xs
  unfold slicePick at h
  rw [PySem.W.krv_bounds] at h
  have h2 : ((sliceRange ((xs.size : Int) - 1) (-1) (-1)).filterMap (xs[·]?)).toArray = xs.toList.reverse.toArray := h
  rw [PySem.W.krv_sliceRange, List.filterMap_map] at h2
  rw [← h2]
  congr 1
  refine filterMap_congr' fun m hm => ?_
  have := List.mem_range.mp hm
  show xs[(((xs.size : Int) - 1) + (m : Int) * (-1)).toNat]? = xs[xs.size - 1 - m]?
  congr 1
  omega
theorem getItem_tuple_rev {t sl : Addr} {items : Array Value} {vs : Value} {Q : Value → Shared → Prop} (ht : IsTup s.heap t items) (hs : s.heap.IsSliceOf sl .none .none vs) (ps : PySem.IsPart vs (some (-1)))
    (h : Q (.ref s.heap.objs.size) { s with heap := s.heap.push { cls := .type "tuple", data := .seq items.toList.reverse.toArray } })
    (hsz : items.size ≤ sizeLine) : wpAny (model prog w) A (getItem (.ref t) (.ref sl)) Q E s := by
  have htake : sizeOk (.seq items.toList.reverse.toArray) := by
    show items.toList.reverse.toArray.size ≤ sizeLine
    rw [List.size_toArray, List.length_reverse, Array.length_toList]
    exact hsz
  obtain ⟨os, hos, hcs, hds⟩ := id hs
  have hTs : s.TypeIs (.ref sl) "slice" := ⟨os, hos, hcs⟩
  unfold getItem
  try with_reducible refine wpAny_holding ?_
  first | refine wpAny_bind (wpAny_pure ?_) | skip
  refine wpAny_bind (wpAny_sequenceKey ht.typeIs (by decide) ?_)
  refine wpAny_bind (wpAny_callSpecial?_slot (name := Str.ofString "__getitem__") ht.typeIs PyProof.Rows.slot_tuple_getitem
    (wpAny_call_entry PyProof.Rows.slot_tuple_getitem ht.typeIs entry_tuple_getitem ?_ (args_tuple_getitem _ _)))
  show wpAny _ _ (Builtin.Tuple.tupleItemsOf (.ref t) >>= _) _ _ s
  refine wpAny_bind (tupleItemsOf_ ht ?_)
  refine wpAny_bind (wpAny_typeOf hTs ?_)
  rw [if_pos (by decide)]
  refine wpAny_bind (sliceApplied_rev hs ps ?_)
  have hno : ¬ ((((items.size : Int) - 1) == 0 && (-1 : Int) == 1 && items.size == items.size) = true) := by
    intro q
    rw [Bool.and_eq_true, Bool.and_eq_true] at q
    exact absurd q.1.2 (by decide)
  show wpAny _ _ (if (((items.size : Int) - 1) == 0 && (-1 : Int) == 1 && items.size == items.size) = true then _ else _) _ _ s
  rw [if_neg hno, pick_rev]
  first
    | exact wpAny_bind (m := Builtin.Tuple.tupleExact _) (wpAny_newObj_type (wpAny_pure ⟨_, rfl, wpAny_pure h⟩) htake)
    | exact wpAny_bind (m := Builtin.Tuple.tupleExact _) (wpAny_newObj_type (wpAny_bind (wpAny_pure (wpAny_pure ⟨_, rfl, wpAny_pure h⟩))) htake)
    | exact wpAny_bind (wpAny_bind (m := Builtin.Tuple.tupleExact _) (wpAny_newObj_type (wpAny_pure (wpAny_pure ⟨_, rfl, wpAny_pure h⟩)) htake))
    | exact wpAny_bind (wpAny_bind (m := Builtin.Tuple.tupleExact _) (wpAny_newObj_type (wpAny_pure ⟨_, rfl, wpAny_pure h⟩) htake))
end
def tRevT (K : PySem.W.Frag) (te : TE) : TE := fun σ H Q => te σ H fun x H1 => ∃ a xs, x = .ref a ∧ SqT K H1 a xs ∧ ∀ p, H1 p = none → Q (.ref p) (upd H1 p (.tup xs.reverse))
theorem pe_revT {X : Cx} {e : Expr} {te : TE} {k : Nat} {p1 p2 p3 pos : Pos} (he : PE X e te) : PE X (.Subscript e (.Slice none none (some (.UnaryOp .USub (.Constant (.int 1) k p1) p2)) p3) pos) (tRevT X.K te) := by
  refine ⟨fun pins s σ H Q I h => ?_⟩
  refine Subscript_ (thn (he.run pins s σ H _ I h) fun v s1 ⟨x, H1, I1, r1, q1⟩ => ?_)
  obtain ⟨a, xs, ex, hx, q⟩ := q1
  subst ex
  cases r1
  have hst : PO X (some (.UnaryOp .USub (.Constant (.int 1) k p1) p2)) (tPart (tUn (rU fun i => .int (-i)) (tC (.int 1)))) := po_some (pe_un un_neg pe_int)
  refine wpAny_Slice (thn (po_none.run pins s1 σ H1 (fun o H2 => o = none ∧ H2 = H1) I1 ⟨rfl, rfl⟩) fun vl s2 ⟨l, H2, I2, pl, el, e2⟩ => ?_)
  subst el e2
  cases pl
  refine thn (po_none.run pins s2 σ H2 (fun o H3 => o = none ∧ H3 = H2) I2 ⟨rfl, rfl⟩) fun vu s3 ⟨u, H3, I3, pu, eu, e3⟩ => ?_
  subst eu e3
  cases pu
  refine thn (hst.run pins s3 σ H3 (fun o H4 => o = some (-1) ∧ H4 = H3) I3 ⟨1, rfl, -1, rfl, rfl, rfl⟩) fun vs s4 ⟨o, H4, I4, ps, eo, e4⟩ => ?_
  subst eo e4
  have I5 : Inv X pins σ H4 { s4 with heap := s4.heap.push { cls := .type "slice", data := .fields #[.none, .none, vs] } } := I4.kept (t' := s4.toks) fun b ob q => Heap.get?_push_of_some _ q
  obtain ⟨its, r, ht, hz⟩ := I5.tuple hx
  have hlen := r.length
  show wpAny (model X.prog X.w) X.A (subscriptTail e (.Slice none none (some (.UnaryOp .USub (.Constant (.int 1) k p1) p2)) p3) (.ref a) (.ref s4.heap.objs.size)) (EP X pins σ Q) X.xe { s4 with heap := s4.heap.push { cls := .type "slice", data := .fields #[.none, .none, vs] } }
  refine tail_any (ops := [.ref a, .ref s4.heap.objs.size]) ht.typeIs (PyProof.Rows.slot_tuple_getitem.lookup) ?_ (by with_unfolding_all rfl)
  refine getItem_tuple_rev ht (Heap.IsSliceOf.new _ .none .none vs) ps ?_ (by rw [List.size_toArray]; omega)
  refine ⟨.ref _, _, I5.laid (t' := s4.toks) (o := .tup xs.reverse) (fun b ob q => Heap.get?_push_of_some _ q) (Nat.le_refl _) ?_, rfl, q _ (I5.hok.fresh (Nat.le_refl _))⟩
  exact ⟨by rw [List.length_reverse]; exact hz, _, r.reverse, IsTup.new _ _⟩
theorem pe_revTK {X : Cx} (K : PySem.W.Frag) {e : Expr} {te : TE} {k : Nat} {p1 p2 p3 pos : Pos} (he : PE X e te) (ek : X.K = K := by rfl) : PE X (.Subscript e (.Slice none none (some (.UnaryOp .USub (.Constant (.int 1) k p1) p2)) p3) pos) (tRevT K te) := by
  subst ek
  exact pe_revT he
end Z
namespace Z
open PySem PySem.Spec PyProof.Rows L2
section
variable {K : PySem.W.Frag} {H : Hp} {Q : VK}
def RevTW (K : PySem.W.Frag) (x : V) (H : Hp) (Q : VK) : Prop := ∃ a xs, x = .ref a ∧ SqT K H a xs ∧ ∀ p, H p = none → Q (.ref p) (upd H p (.tup xs.reverse))
theorem s_revT {te : TE} {σ : L2.St} (h : te σ H fun x H1 => RevTW K x H1 Q) : tRevT K te σ H Q := h
theorem s_revTv {a : Addr} {xs : List V} (hx : SqT K H a xs) (h : ∀ q H', H q = none → Same H H' → H' q = some (.tup xs.reverse) → Q (.ref q) H') : RevTW K (.ref a) H Q := ⟨a, xs, rfl, hx, s_new h⟩
theorem s_slT {p : Addr} {xs : List V} {lo hi : Option Int} (hx : SqT K H p xs) (h : ∀ q H', Same H H' → SqT K H' q (cutV xs lo hi) → Q (.ref q) H') : rSlA K (.ref p) lo hi H Q := by
  refine ⟨p, xs, rfl, hx, fun hw => h p H (Same.refl H) ?_, fun _ => s_new fun q H' _ s e => h q H' s (SqT.of e)⟩
  have e : cutV xs lo hi = xs := by
    unfold cutV
    rw [hw.1, hw.2, List.drop_zero, Nat.sub_zero, List.take_length]
  rw [e]
  exact hx
end
/-! data that does not change: None, numbers, truth values, texts, tuples -/
mutual
def Im (K : PySem.W.Frag) (H : Hp) : PyData → V → Prop
  | .none, v => v = .non
  | .bool b, v => v = .bl b
  | .int i, v => v = .int i
  | .str s, v => v = .str s
  | .tuple ds, v => ∃ a vs, v = .ref a ∧ SqT K H a vs ∧ Ims K H ds vs
  | .list _, _ => False
  | .dict _, _ => False
def Ims (K : PySem.W.Frag) (H : Hp) : List PyData → List V → Prop
  | [], vs => vs = []
  | d :: ds, vs => ∃ v r, vs = v :: r ∧ Im K H d v ∧ Ims K H ds r
end
section
variable {K : PySem.W.Frag} {H H' : Hp}
mutual
theorem Im.tk (k : K1.TK K H H') : ∀ (d : PyData) (v : V), Im K H d v → Im K H' d v
  | .none, _, h => h
  | .bool _, _, h => h
  | .int _, _, h => h
  | .str _, _, h => h
  | .tuple ds, v, h => by
    obtain ⟨a, vs, e, s, i⟩ := h
    exact ⟨a, vs, e, k _ _ s, Ims.tk k ds vs i⟩
  | .list _, _, h => h.elim
  | .dict _, _, h => h.elim
theorem Ims.tk (k : K1.TK K H H') : ∀ (ds : List PyData) (vs : List V), Ims K H ds vs → Ims K H' ds vs
  | [], _, h => h
  | d :: ds, vs, h => by
    obtain ⟨v, r, e, i, is⟩ := h
    exact ⟨v, r, e, Im.tk k d v i, Ims.tk k ds r is⟩
end
mutual
theorem Im.dp : ∀ (d : PyData) (v : V), Im K H d v → Dp K H v d
  | .none, _, h => by cases (show _ = _ from h); exact .non
  | .bool b, _, h => by cases (show _ = _ from h); exact .bl b
  | .int i, _, h => by cases (show _ = _ from h); exact .int i
  | .str s, _, h => by cases (show _ = _ from h); exact .str s
  | .tuple ds, v, h => by
    obtain ⟨a, vs, e, s, i⟩ := h
    subst e
    exact .tup s (Ims.dp ds vs i)
  | .list _, _, h => h.elim
  | .dict _, _, h => h.elim
theorem Ims.dp : ∀ (ds : List PyData) (vs : List V), Ims K H ds vs → DpAll K H vs ds
  | [], _, h => by cases (show _ = _ from h); exact .nil
  | d :: ds, vs, h => by
    obtain ⟨v, r, e, i, is⟩ := h
    subst e
    exact .cons (Im.dp d v i) (Ims.dp ds r is)
end
theorem Ims.length : ∀ {ds : List PyData} {vs : List V}, Ims K H ds vs → vs.length = ds.length
  | [], _, h => by cases (show _ = _ from h); rfl
  | d :: ds, vs, h => by
    obtain ⟨v, r, e, i, is⟩ := h
    subst e
    show r.length + 1 = ds.length + 1
    rw [Ims.length is]
theorem Ims.get : ∀ {ds : List PyData} {vs : List V}, Ims K H ds vs → ∀ {i : Nat} {v : V}, vs[i]? = some v → ∃ d, ds[i]? = some d ∧ Im K H d v
  | [], _, h, i, v, e => by cases (show _ = _ from h); simp at e
  | d :: ds, vs, h, i, v, e => by
    obtain ⟨v', r, e', im, is⟩ := h
    subst e'
    cases i with
    | zero =>
      have : v' = v := by simpa using e
      exact ⟨d, rfl, this ▸ im⟩
    | succ i => exact Ims.get is (i := i) (by simpa using e)
theorem Ims.at : ∀ {ds : List PyData} {vs : List V}, Ims K H ds vs → ∀ {i : Nat} {d : PyData}, ds[i]? = some d → ∃ v, vs[i]? = some v ∧ Im K H d v
  | [], _, h, i, d, e => by simp at e
  | d' :: ds, vs, h, i, d, e => by
    obtain ⟨v', r, e', im, is⟩ := h
    subst e'
    cases i with
    | zero =>
      have : d' = d := by simpa using e
      exact ⟨v', rfl, this ▸ im⟩
    | succ i => exact Ims.at is (i := i) (by simpa using e)
theorem Ims.app : ∀ {ds es : List PyData} {vs us : List V}, Ims K H ds vs → Ims K H es us → Ims K H (ds ++ es) (vs ++ us)
  | [], _, _, _, h, g => by cases (show _ = _ from h); exact g
  | d :: ds, es, vs, us, h, g => by
    obtain ⟨v, r, e, i, is⟩ := h
    subst e
    exact ⟨v, r ++ us, rfl, i, Ims.app is g⟩
theorem Ims.one {d : PyData} {v : V} (h : Im K H d v) : Ims K H [d] [v] := ⟨v, [], rfl, h, rfl⟩
theorem Ims.drop : ∀ {ds : List PyData} {vs : List V}, Ims K H ds vs → ∀ i, Ims K H (ds.drop i) (vs.drop i)
  | [], _, h, i => by cases (show _ = _ from h); rw [List.drop_nil, List.drop_nil]; exact rfl
  | d :: ds, vs, h, 0 => h
  | d :: ds, vs, h, i + 1 => by
    obtain ⟨v, r, e, im, is⟩ := h
    subst e
    exact Ims.drop is i
theorem Ims.take : ∀ {ds : List PyData} {vs : List V}, Ims K H ds vs → ∀ i, Ims K H (ds.take i) (vs.take i)
  | [], _, h, i => by cases (show _ = _ from h); rw [List.take_nil, List.take_nil]; exact rfl
  | d :: ds, vs, h, 0 => rfl
  | d :: ds, vs, h, i + 1 => by
    obtain ⟨v, r, e, im, is⟩ := h
    subst e
    exact ⟨v, r.take i, rfl, im, Ims.take is i⟩
theorem Ims.rev : ∀ {ds : List PyData} {vs : List V}, Ims K H ds vs → Ims K H ds.reverse vs.reverse
  | [], _, h => by cases (show _ = _ from h); exact rfl
  | d :: ds, vs, h => by
    obtain ⟨v, r, e, im, is⟩ := h
    subst e
    rw [List.reverse_cons, List.reverse_cons]
    exact (Ims.rev is).app (Ims.one im)
/-- what isinstance(x, tuple) says -/
def isTup : PyData → Bool
  | .tuple _ => true
  | _ => false
end
/-! isinstance -/
def clsOf : PyData → String
  | .none => "NoneType"
  | .bool _ => "bool"
  | .int _ => "int"
  | .str _ => "str"
  | .list _ => "list"
  | .tuple _ => "tuple"
  | .dict _ => "dict"
section
variable {K : PySem.W.Frag} {H : Hp} {Q : VK}
theorem Im.tyx : ∀ {d : PyData} {v : V}, Im K H d v → TyX K H v (.type (clsOf d))
  | .none, _, h => by cases (show _ = _ from h); exact .base .non
  | .bool b, _, h => by cases (show _ = _ from h); exact .base (.bl b)
  | .int i, _, h => by cases (show _ = _ from h); exact .base (.int i)
  | .str s, _, h => by cases (show _ = _ from h); exact .base (.str s)
  | .tuple ds, v, h => by
    obtain ⟨a, vs, e, s, i⟩ := h
    subst e
    rcases s with (s | ⟨o, s⟩) | ⟨o, t, n, s, c, _⟩
    · exact .base (.tup s)
    · exact .fTuple s
    · exact .kTuple s c
  | .list _, _, h => h.elim
  | .dict _, _, h => h.elim
theorem s_isiD {d : PyData} {v : V} {c : String} {b : Bool} (h : Im K H d v) (e : kitB (clsOf d) c = some b) (q : Q (.bl b) H) : rIsi K [v, .ty c] H Q := ⟨_, _, _, _, b, rfl, .ty c, h.tyx, kit_ty e, q⟩
theorem kit_tup : ∀ d : PyData, kitB (clsOf d) "tuple" = some (isTup d)
  | .none => (by decide +kernel : kitB "NoneType" "tuple" = some false)
  | .bool _ => (by decide +kernel : kitB "bool" "tuple" = some false)
  | .int _ => (by decide +kernel : kitB "int" "tuple" = some false)
  | .str _ => (by decide +kernel : kitB "str" "tuple" = some false)
  | .list _ => (by decide +kernel : kitB "list" "tuple" = some false)
  | .tuple _ => (by decide +kernel : kitB "tuple" "tuple" = some true)
  | .dict _ => (by decide +kernel : kitB "dict" "tuple" = some false)
def isStr : PyData → Bool
  | .str _ => true
  | _ => false
def isInt : PyData → Bool
  | .int _ => true
  | .bool _ => true
  | _ => false
def isBool : PyData → Bool
  | .bool _ => true
  | _ => false
theorem kit_str : ∀ d : PyData, kitB (clsOf d) "str" = some (isStr d)
  | .none => (by decide +kernel : kitB "NoneType" "str" = some false)
  | .bool _ => (by decide +kernel : kitB "bool" "str" = some false)
  | .int _ => (by decide +kernel : kitB "int" "str" = some false)
  | .str _ => (by decide +kernel : kitB "str" "str" = some true)
  | .list _ => (by decide +kernel : kitB "list" "str" = some false)
  | .tuple _ => (by decide +kernel : kitB "tuple" "str" = some false)
  | .dict _ => (by decide +kernel : kitB "dict" "str" = some false)
theorem kit_int : ∀ d : PyData, kitB (clsOf d) "int" = some (isInt d)
  | .none => (by decide +kernel : kitB "NoneType" "int" = some false)
  | .bool _ => (by decide +kernel : kitB "bool" "int" = some true)
  | .int _ => (by decide +kernel : kitB "int" "int" = some true)
  | .str _ => (by decide +kernel : kitB "str" "int" = some false)
  | .list _ => (by decide +kernel : kitB "list" "int" = some false)
  | .tuple _ => (by decide +kernel : kitB "tuple" "int" = some false)
  | .dict _ => (by decide +kernel : kitB "dict" "int" = some false)
theorem kit_bool : ∀ d : PyData, kitB (clsOf d) "bool" = some (isBool d)
  | .none => (by decide +kernel : kitB "NoneType" "bool" = some false)
  | .bool _ => (by decide +kernel : kitB "bool" "bool" = some true)
  | .int _ => (by decide +kernel : kitB "int" "bool" = some false)
  | .str _ => (by decide +kernel : kitB "str" "bool" = some false)
  | .list _ => (by decide +kernel : kitB "list" "bool" = some false)
  | .tuple _ => (by decide +kernel : kitB "tuple" "bool" = some false)
  | .dict _ => (by decide +kernel : kitB "dict" "bool" = some false)
theorem s_isT {d : PyData} {v : V} (h : Im K H d v) (q : Q (.bl (isTup d)) H) : rIsi K [v, .ty "tuple"] H Q := s_isiD h (kit_tup d) q
theorem s_isS {d : PyData} {v : V} (h : Im K H d v) (q : Q (.bl (isStr d)) H) : rIsi K [v, .ty "str"] H Q := s_isiD h (kit_str d) q
theorem s_isI {d : PyData} {v : V} (h : Im K H d v) (q : Q (.bl (isInt d)) H) : rIsi K [v, .ty "int"] H Q := s_isiD h (kit_int d) q
theorem s_isB {d : PyData} {v : V} (h : Im K H d v) (q : Q (.bl (isBool d)) H) : rIsi K [v, .ty "bool"] H Q := s_isiD h (kit_bool d) q
end
/-! sizes, heights -/
mutual
def sz : PyData → Nat
  | .tuple ds => 1 + szs ds
  | .list ds => 1 + szs ds
  | .none => 1
  | .bool _ => 1
  | .int _ => 1
  | .str _ => 1
  | .dict _ => 1
def szs : List PyData → Nat
  | [] => 0
  | d :: ds => sz d + szs ds
end
mutual
def ht : PyData → Nat
  | .tuple ds => 1 + hts ds
  | .list ds => 1 + hts ds
  | .none => 1
  | .bool _ => 1
  | .int _ => 1
  | .str _ => 1
  | .dict _ => 1
def hts : List PyData → Nat
  | [] => 0
  | d :: ds => max (ht d) (hts ds)
end
/-- a text that can be laid, not a long one -/
def strS (x : Str) : Bool := PyData.canLay0 (.str x) && decide (x.length ≤ 1000)
/-! what the laws' data are -/
mutual
def pl : PyData → Bool
  | .tuple ds => pls ds
  | .none => true
  | .int _ => true
  | .str x => strS x
  | .bool _ => false
  | .list _ => false
  | .dict _ => false
def pls : List PyData → Bool
  | [] => true
  | d :: ds => pl d && pls ds
end
mutual
theorem pl_lay : ∀ d : PyData, pl d = true → d.canLay0 = true
  | .tuple ds, h => by
    have h' : pls ds = true := h
    have := pls_lay ds h'
    simpa [PyData.canLay0] using this
  | .none, _ => rfl
  | .int _, _ => rfl
  | .str x, h => ((Bool.and_eq_true _ _).mp h).1
  | .bool _, h => by cases h
  | .list _, h => by cases h
  | .dict _, h => by cases h
theorem pls_lay : ∀ ds : List PyData, pls ds = true → PyData.canLayAll0 ds = true
  | [], _ => rfl
  | d :: ds, h => by
    have h' : (pl d && pls ds) = true := h
    rw [Bool.and_eq_true] at h'
    rw [PyData.canLayAll0, pl_lay d h'.1, pls_lay ds h'.2]
    rfl
end
mutual
theorem pl_noB : ∀ d : PyData, pl d = true → noB d = true
  | .tuple ds, h => by
    have h' : pls ds = true := h
    have := pls_noB ds h'
    simpa [noB] using this
  | .none, _ => rfl
  | .int _, _ => rfl
  | .str x, h => rfl
  | .bool _, h => by cases h
  | .list _, h => by cases h
  | .dict _, h => by cases h
theorem pls_noB : ∀ ds : List PyData, pls ds = true → noBs ds = true
  | [], _ => rfl
  | d :: ds, h => by
    have h' : (pl d && pls ds) = true := h
    rw [Bool.and_eq_true] at h'
    rw [noBs, pl_noB d h'.1, pls_noB ds h'.2]
    rfl
end
theorem pls_mem {ds : List PyData} : pls ds = true ↔ ∀ d ∈ ds, pl d = true := by
  induction ds with
  | nil => exact ⟨fun _ d h => (by cases h), fun _ => rfl⟩
  | cons a r ih =>
    show (pl a && pls r) = true ↔ _
    rw [Bool.and_eq_true, ih]
    exact ⟨fun h d m => by rcases List.mem_cons.mp m with m | m; exact m ▸ h.1; exact h.2 d m, fun h => ⟨h a (List.mem_cons_self ..), fun d m => h d (List.mem_cons_of_mem _ m)⟩⟩
theorem szs_app : ∀ ds es : List PyData, szs (ds ++ es) = szs ds + szs es
  | [], es => by
    show szs es = 0 + szs es
    omega
  | d :: ds, es => by
    show sz d + szs (ds ++ es) = sz d + szs ds + szs es
    rw [szs_app ds es]
    omega
theorem hts_app : ∀ ds es : List PyData, hts (ds ++ es) = max (hts ds) (hts es)
  | [], es => by
    show hts es = max 0 (hts es)
    omega
  | d :: ds, es => by
    show max (ht d) (hts (ds ++ es)) = max (max (ht d) (hts ds)) (hts es)
    rw [hts_app ds es]
    omega
theorem sz_pos : ∀ d : PyData, 1 ≤ sz d
  | .tuple ds => Nat.le_add_right ..
  | .list ds => Nat.le_add_right ..
  | .none => Nat.le_refl _
  | .bool _ => Nat.le_refl _
  | .int _ => Nat.le_refl _
  | .str _ => Nat.le_refl _
  | .dict _ => Nat.le_refl _
theorem ht_pos : ∀ d : PyData, 1 ≤ ht d
  | .tuple ds => Nat.le_add_right ..
  | .list ds => Nat.le_add_right ..
  | .none => Nat.le_refl _
  | .bool _ => Nat.le_refl _
  | .int _ => Nat.le_refl _
  | .str _ => Nat.le_refl _
  | .dict _ => Nat.le_refl _
theorem len_szs : ∀ ds : List PyData, ds.length ≤ szs ds
  | [] => Nat.le_refl _
  | d :: ds => by
    have h1 := len_szs ds
    have h2 := sz_pos d
    show ds.length + 1 ≤ sz d + szs ds
    omega
theorem mem_sz : ∀ {ds : List PyData} {d : PyData}, d ∈ ds → sz d ≤ szs ds ∧ ht d ≤ hts ds
  | a :: r, d, m => by
    show sz d ≤ sz a + szs r ∧ ht d ≤ max (ht a) (hts r)
    rcases List.mem_cons.mp m with e | m
    · subst e
      omega
    · have := mem_sz m
      omega
/-- bounded data -/
structure Bd (h s : Nat) (d : PyData) : Prop where
  ht : ht d ≤ h
  sz : sz d ≤ s
  pl : pl d = true
theorem Bd.part {h s : Nat} {ds : List PyData} (b : Bd h s (.tuple ds)) {d : PyData} (m : d ∈ ds) : Bd h s d := by
  have h1 : 1 + hts ds ≤ h := b.ht
  have h2 : 1 + szs ds ≤ s := b.sz
  have h3 : pls ds = true := b.pl
  have := mem_sz m
  exact ⟨by omega, by omega, pls_mem.mp h3 d m⟩
theorem Bd.mono {h s h' s' : Nat} {d : PyData} (b : Bd h s d) (e : h ≤ h') (f : s ≤ s') : Bd h' s' d := ⟨Nat.le_trans b.ht e, Nat.le_trans b.sz f, b.pl⟩
theorem sub_szs : ∀ {ds es : List PyData}, ds.Sublist es → szs ds ≤ szs es ∧ hts ds ≤ hts es ∧ (pls es = true → pls ds = true)
  | _, _, .slnil => ⟨Nat.le_refl _, Nat.le_refl _, fun h => h⟩
  | _, _, .cons (l₁ := l₁) (l₂ := l₂) a s => by
    have := sub_szs s
    refine ⟨?_, ?_, fun h => ?_⟩
    · show szs l₁ ≤ sz a + szs l₂
      omega
    · show hts l₁ ≤ max (ht a) (hts l₂)
      omega
    · have h' : (pl a && pls l₂) = true := h
      rw [Bool.and_eq_true] at h'
      exact this.2.2 h'.2
  | _, _, .cons₂ (l₁ := l₁) (l₂ := l₂) a s => by
    have := sub_szs s
    refine ⟨?_, ?_, fun h => ?_⟩
    · show sz a + szs l₁ ≤ sz a + szs l₂
      omega
    · show max (ht a) (hts l₁) ≤ max (ht a) (hts l₂)
      omega
    · have h' : (pl a && pls l₂) = true := h
      rw [Bool.and_eq_true] at h'
      show (pl a && pls l₁) = true
      rw [h'.1, this.2.2 h'.2]
      rfl
end Z
namespace Z
open PySem PySem.Spec PyProof.Rows L2
open Sem (wp)
set_option maxRecDepth 8000 in
theorem list_extend_tup (l : Addr) (items : Array Value) (n : Nat) (b : Addr) (items2 : Array Value) (n2 : Nat) (bd : Option Addr) (bs : Array (Option Value)) (hs0 : ¬(!items.isEmpty && Builtin.List.listTooLong (items.size + items2.size)) = true) (hs1 : items.size ≤ sizeLine) (hs2 : items.size + items2.size ≤ sizeLine + 1) :
    Meets (Builtin.«list.extend» ⟨[.ref l, .ref b], []⟩) (fun _ R s => s.heap.get? l = some { cls := .type "list", dict := none, data := .seq items n, slots := #[] } ∧ s.heap.get? b = some { cls := .type "tuple", dict := bd, data := .seq items2 n2, slots := bs } ∧ R (.ok (.ret Value.none)) { s with heap := s.heap.update l (Obj.mapSeq fun x => x ++ items2), toks := s.toks }) :=
  .of_wp fun prog w A R s h => by
    obtain ⟨hp, g, d, tk, os⟩ := s; obtain ⟨hl, hb, h⟩ := h; have f1 := PySem.AutoSeq1.idx_int; have f2 := PySem.AutoSeq1.sub_tuple_tuple; have f3 := PySem.AutoSeq1.sub_list_list; have f4 := PySem.AutoSeq1.sub_tuple_list; have f5 := PySem.AutoSeq1.sub_list_tuple;
    have hz' : (items ++ items2).size ≤ sizeLine + 1 := by rw [Array.size_append]; exact hs2
    wp_walk using (wpAny_updateSeq hl rfl (hz := hs1) (_hz' := hz')), wpAny_loadPart' hl, wpAny_loadPart' hb; exact ⟨_, rfl, h⟩
def rIsB : R2 := fun x y H Q => ∃ a b, x = .bl a ∧ y = .bl b ∧ Q (.bl (decide (a = b))) H
def rNotB : R2 := fun x y H Q => ∃ a b, x = .bl a ∧ y = .bl b ∧ Q (.bl (!decide (a = b))) H
theorem op_isBn {X : Cx} : OpR X (compareOp .Is) rIsB := op_is_bl
theorem op_notBn {X : Cx} : OpR X (compareOp .IsNot) rNotB := op_isnot_bl
theorem s_isB2 {a b : Bool} {H : Hp} {Q : VK} (h : Q (.bl (decide (a = b))) H) : rIsB (.bl a) (.bl b) H Q := ⟨a, b, rfl, rfl, h⟩
theorem s_notB2 {a b : Bool} {H : Hp} {Q : VK} (h : Q (.bl (!decide (a = b))) H) : rNotB (.bl a) (.bl b) H Q := ⟨a, b, rfl, rfl, h⟩
theorem s_truB {K : PySem.W.Frag} {b : Bool} {H : Hp} {F : Bool → Hp → Prop} (h : F b H) : IsTru K (.bl b) H F := ⟨b, rfl, h⟩
theorem op_repTK {X : Cx} (K : PySem.W.Frag) (e : X.K = K := by rfl) : OpR X (binaryOp .Mult) (rRepT K) := by subst e; exact op_repT
/-- xs.extend(t), t a tuple -/
def rExtT (K : PySem.W.Frag) : V → List V → Hp → VK → Prop := fun x vs H Q => ∃ l b xs zs, x = .ref l ∧ vs = [.ref b] ∧ H l = some (.lst xs) ∧ SqT K H b zs ∧ xs.length + zs.length ≤ sizeLine ∧ Q .non (upd H l (.lst (xs ++ zs)))
theorem mt_extT {X : Cx} : MtM X "list.extend" (rExtT X.K) := by
  intro pins s σ H x vs v us Q I rx rv h
  obtain ⟨l, b, xs, zs, rfl, rfl, hH, hB, hz, q⟩ := h
  cases rx
  obtain ⟨u, rfl, ru⟩ := rv.one
  cases ru
  obtain ⟨z, its, n, r, hl, e⟩ := I.lstM hH
  obtain ⟨its2, r2, ⟨o, ho, hc, n2, hd⟩, z2⟩ := I.tuple hB
  have hl2 := r2.length
  obtain ⟨oc, od, dt, sl⟩ := o
  simp only at hc hd
  subst hc hd
  have hsz : its.toArray.size + its2.toArray.size ≤ sizeLine := by rw [List.size_toArray, List.size_toArray]; omega
  have hlong : ¬ (!its.toArray.isEmpty && Builtin.List.listTooLong (its.toArray.size + its2.toArray.size)) = true := by
    rw [notLongL hsz, Bool.and_false]
    exact Bool.false_ne_true
  refine call_meets F.slot_list_extend ⟨_, e, rfl⟩ F.entry_list_extend (F.args_list_extend_2 _ _)
    (list_extend_tup l its.toArray n b its2.toArray n2 od sl hlong (by rw [List.size_toArray]; omega) (by omega)) ⟨e, ho, ?_⟩
  refine ⟨.non, _, I.lset (its' := its ++ its2) hH e (by simp) (r.append r2) ?_, rfl, q⟩
  rw [List.length_append]
  omega
theorem mt_extTK {X : Cx} (K : PySem.W.Frag) (e : X.K = K := by rfl) : MtM X "list.extend" (rExtT K) := by subst e; exact mt_extT
section
variable {K : PySem.W.Frag} {H : Hp} {Q : VK}
theorem s_extT {p b : Addr} {xs zs : List V} (hx : H p = some (.lst xs)) (hb : SqT K H b zs) (hz : xs.length + zs.length ≤ sizeLine) (h : ∀ H', But p H H' → H' p = some (.lst (xs ++ zs)) → Q .non H') : rExtT K (.ref p) [.ref b] H Q := ⟨p, b, xs, zs, rfl, rfl, hx, hb, hz, h _ But.upd upd_same⟩
end
/-- == of data, one side at most 64 deep -/
def rEqM (K : PySem.W.Frag) : R2 := fun x y H Q => ∃ d e, Dp K H x d ∧ Dp K H y e ∧ d.canLay0 = true ∧ e.canLay0 = true ∧ min d.depth e.depth ≤ 64 ∧ Q (.bl (PyData.eqv d e)) H
theorem op_eqM {X : Cx} (hu : X.A.units + 64 < cLine) : OpR X (compareOp .Eq) (rEqM X.K) := by
  intro pins s σ H x y v u Q I rx ry h
  obtain ⟨d, e, hd, he, sd, se, hm, q⟩ := h
  obtain ⟨as, r1⟩ := Dp.reads I d x v hd rx
  obtain ⟨bs, r2⟩ := Dp.reads I e y u he ry
  exact SeqAt.compareEq_reads r1 r2 sd se (by omega) ⟨.bl _, H, I, rfl, q⟩
theorem op_eqMK {X : Cx} (K : PySem.W.Frag) (hu : X.A.units + 64 < cLine) (e : X.K = K := by rfl) : OpR X (compareOp .Eq) (rEqM K) := by subst e; exact op_eqM hu
end Z
namespace Z
open PySem PySem.Spec PyProof.Rows L2
section
variable {X : Cx} (K : PySem.W.Frag)
def rLst (K : PySem.W.Frag) : List V → Hp → VK → Prop := fun xs H Q => ∃ p ys, xs = [.ref p] ∧ (SqL K H p ys ∨ SqT K H p ys) ∧ ∀ l, H l = none → Q (.ref l) (upd H l (.lst ys))
theorem c_lstK (e : X.K = K := by rfl) : CallR X (.type "list") (rLst K) := by subst e; exact call_list_of
end
section
variable {K : PySem.W.Frag} {σ : L2.St} {H : Hp} {r : VK} {n : L2.St → Hp → Prop} {Q : VK}
theorem s_lstT {p : Addr} {xs : List V} (hx : SqT K H p xs) (h : ∀ q H', H q = none → Same H H' → H' q = some (.lst xs) → Q (.ref q) H') : rLst K [.ref p] H Q := ⟨p, xs, rfl, .inr hx, s_new h⟩
theorem s_lstL {p : Addr} {xs : List V} (hx : SqL K H p xs) (h : ∀ q H', H q = none → Same H H' → H' q = some (.lst xs) → Q (.ref q) H') : rLst K [.ref p] H Q := ⟨p, xs, rfl, .inl hx, s_new h⟩
end
end Z
namespace Z
open PySem PySem.Spec PyProof.Rows L2
/-! constants of the top: numbers, tables of tuples by numbers -/
theorem pe_globE {X : Cx} {x : Str} {pos : Pos} {v : V} (hg : Gl X x) (h : ∃ u, X.mg x = some u ∧ RelV v u) (hd : (x == ("__debug__" : Str)) = false := by decide) : PE X (.Name x pos) (tC v) := by
  obtain ⟨u, hm, r⟩ := h
  exact pe_glob hg hm r hd
def refAt (mg : Str → Option Value) (x : Str) : Addr := match mg x with
  | some (.ref a) => a
  | _ => 0
def rowsOf : List DictEntry → Option (List (Int × Addr))
  | [] => some []
  | ⟨h, .int i _, .ref a⟩ :: r => if h = hashInt i then (rowsOf r).map ((i, a) :: ·) else none
  | _ => none
/-- at a stands a table of the top: numbers, and tuples of the top -/
def WInt (K : PySem.W.Frag) (a : Addr) (rows : List (Int × Addr)) : Prop :=
  ∃ es n, K.lookup a = some ⟨.type "dict", none, .dict es n, #[]⟩ ∧ rowsOf es.toList = some rows ∧ (a == sysModules) = false
/-- at b stands a tuple of the top -/
def WTup (K : PySem.W.Frag) (b : Addr) (xs : List V) : Prop :=
  ∃ (o : Obj) (its : Array Value) (n : Nat), K.lookup b = some o ∧ o.cls = .type "tuple" ∧ o.data = .seq its n ∧ its.size ≤ sizeLine ∧ Vals xs its.toList
theorem WTup.sq {K : PySem.W.Frag} {H : Hp} {b : Addr} {xs : List V} (h : WTup K b xs) : SqT K H b xs := .inr h
theorem RelV.of_abs {x : V} {u : Value} (e : absV u = some x) : RelV x u := by
  cases u <;> first | (cases e; first | rfl | exact ⟨_, rfl⟩) | cases e
theorem Vals.of_abs : ∀ {xs : List V} {us : List Value}, us.map absV = xs.map some → Vals xs us
  | [], [], _ => .nil
  | [], _ :: _, h => by cases h
  | _ :: _, [], h => by cases h
  | x :: xs, u :: us, h => by
    injection h with h1 h2
    exact .cons (RelV.of_abs h1) (Vals.of_abs h2)
theorem wtup_mk {K : PySem.W.Frag} {b : Addr} {xs : List V} {dd : Option Addr} {its : Array Value} {n : Nat} {sl : Array (Option Value)} (l : K.lookup b = some ⟨.type "tuple", dd, .seq its n, sl⟩) (z : xs.length ≤ 1000) (e : its.toList.map absV = xs.map some) : WTup K b xs := by
  have line : (1000 : Nat) < sizeLine := by decide
  have el := congrArg List.length e
  rw [List.length_map, List.length_map, Array.length_toList] at el
  exact ⟨_, its, n, l, rfl, rfl, by omega, Vals.of_abs e⟩
theorem wint_mk {K : PySem.W.Frag} {a : Addr} {es : Array DictEntry} {n : Nat} {rows : List (Int × Addr)} (l : K.lookup a = some ⟨.type "dict", none, .dict es n, #[]⟩) (e : rowsOf es.toList = some rows) (h : (a == sysModules) = false) : WInt K a rows := ⟨es, n, l, e, h⟩
theorem rows_keys {prog : Program} {w : World} : ∀ {l : List DictEntry} {rows : List (Int × Addr)}, rowsOf l = some rows → ∀ e ∈ l, ∃ k, (intKind prog w).is k e.key = true ∧ e.hash = (intKind prog w).hash k
  | [], _, _, _, m => by cases m
  | ⟨h, .int i t, .ref a⟩ :: r, rows, e, x, m => by
    have e' : (if h = hashInt i then (rowsOf r).map ((i, a) :: ·) else none) = some rows := e
    by_cases hh : h = hashInt i
    · rw [if_pos hh] at e'
      cases er : rowsOf r with
      | none => rw [er] at e'; cases e'
      | some rr =>
        rcases List.mem_cons.mp m with m | m
        · subst m
          exact ⟨i, (by simp [intKind, Value.isInt]), hh⟩
        · exact rows_keys er x m
    · rw [if_neg hh] at e'
      cases e'
theorem rows_find {prog : Program} {w : World} : ∀ {l : List DictEntry} {rows : List (Int × Addr)}, rowsOf l = some rows → ∀ k : Int, (l.find? fun e => (intKind prog w).is k e.key).map (·.val) = (rows.lookup k).map Value.ref
  | [], rows, e, k => by
    have : rows = [] := by injection e with e; exact e.symm
    subst this
    rfl
  | ⟨h, .int i t, .ref a⟩ :: r, rows, e, k => by
    have e' : (if h = hashInt i then (rowsOf r).map ((i, a) :: ·) else none) = some rows := e
    by_cases hh : h = hashInt i
    · rw [if_pos hh] at e'
      cases er : rowsOf r with
      | none => rw [er] at e'; cases e'
      | some rr =>
        rw [er] at e'
        have : rows = (i, a) :: rr := by injection e' with e'; exact e'.symm
        subst this
        rw [List.find?_cons, List.lookup_cons]
        by_cases hk : k = i
        · subst hk
          rw [show (intKind prog w).is k (Value.int k t) = true by simp [intKind, Value.isInt], beq_self_eq_true]
          rfl
        · rw [show (intKind prog w).is k (Value.int i t) = false by simp [intKind, Value.isInt]; exact fun z => hk z.symm, beq_eq_false_iff_ne.mpr hk]
          exact rows_find er k
    · rw [if_neg hh] at e'
      cases e'
theorem WInt.map {K : PySem.W.Frag} {prog : Program} {w : World} {h : Heap} {a : Addr} {rows : List (Int × Addr)} (X : K.In h) (W : WInt K a rows) : h.MapOf (intKind prog w) a (fun k => (rows.lookup k).map Value.ref) := by
  obtain ⟨es, n, l, e, _⟩ := W
  refine ⟨_, es, n, X _ _ l, ⟨rfl, rfl, rfl⟩, rfl, fun x hx => rows_keys e x (Array.mem_toList_iff.mpr hx), fun k => ?_⟩
  have := rows_find (prog := prog) (w := w) e k
  obtain ⟨l⟩ := es
  show findBy (intKind prog w).is _ k = (rows.lookup k).map Value.ref
  rw [← this]
  unfold findBy
  rw [List.find?_toArray]
def rIxW (K : PySem.W.Frag) : R2 := fun x y H Q => ∃ p k rows b, x = .ref p ∧ y = .int k ∧ WInt K p rows ∧ rows.lookup k = some b ∧ Q (.ref b) H
def rInW (K : PySem.W.Frag) : R2 := fun x y H Q => ∃ p k rows, x = .int k ∧ y = .ref p ∧ WInt K p rows ∧ Q (.bl (rows.lookup k).isSome) H
def rNInW (K : PySem.W.Frag) : R2 := fun x y H Q => ∃ p k rows, x = .int k ∧ y = .ref p ∧ WInt K p rows ∧ Q (.bl (!(rows.lookup k).isSome)) H
section
variable {X : Cx}
theorem ix_wint : IxR X (rIxW X.K) := by
  intro value slice pins s σ H x y v u Q I rx ry h hs
  obtain ⟨p, k, rows, b, rfl, rfl, W, e, q⟩ := h
  obtain rfl : v = Value.ref p := rx
  obtain ⟨t, rfl⟩ := ry
  have hm := W.map (prog := X.prog) (w := X.w) I.kIn
  exact tail_any hm.typeIs slot_dict_getitem.lookup (wpAny_getItem_of (show (intKind X.prog X.w).is k (Value.int k t) = true by simp [intKind, Value.isInt]) hm (by rw [e]; rfl) ⟨.ref b, H, I.tok _, rfl, q⟩) hs
theorem op_inW : OpR X (compareOp .In) (rInW X.K) := by
  intro pins s σ H x y v u Q I rx ry h
  obtain ⟨p, k, rows, rfl, rfl, W, q⟩ := h
  obtain rfl : u = Value.ref p := ry
  obtain ⟨t, rfl⟩ := rx
  have hm := W.map (prog := X.prog) (w := X.w) I.kIn
  obtain ⟨_, _, _, _, hd⟩ := W
  refine wpAny_in_of (show (intKind X.prog X.w).is k (Value.int k t) = true by simp [intKind, Value.isInt]) hd hm ?_
  refine ⟨.bl _, H, I.tok _, rfl, ?_⟩
  rw [Option.isSome_map]
  exact q
theorem op_ninW : OpR X (compareOp .NotIn) (rNInW X.K) := by
  intro pins s σ H x y v u Q I rx ry h
  obtain ⟨p, k, rows, rfl, rfl, W, q⟩ := h
  obtain rfl : u = Value.ref p := ry
  obtain ⟨t, rfl⟩ := rx
  have hm := W.map (prog := X.prog) (w := X.w) I.kIn
  obtain ⟨_, _, _, _, hd⟩ := W
  refine wpAny_notIn_of (show (intKind X.prog X.w).is k (Value.int k t) = true by simp [intKind, Value.isInt]) hd hm ?_
  refine ⟨.bl _, H, I.tok _, rfl, ?_⟩
  rw [Option.isSome_map]
  exact q
end
section
variable {X : Cx} (K : PySem.W.Frag)
theorem ix_wintK (e : X.K = K := by rfl) : IxR X (rIxW K) := by subst e; exact ix_wint
theorem op_inWK (e : X.K = K := by rfl) : OpR X (compareOp .In) (rInW K) := by subst e; exact op_inW
theorem op_ninWK (e : X.K = K := by rfl) : OpR X (compareOp .NotIn) (rNInW K) := by subst e; exact op_ninW
end
section
variable {K : PySem.W.Frag} {H : Hp} {Q : VK} {σ : L2.St}
theorem s_ixW {p : Addr} {k : Int} {rows : List (Int × Addr)} {b : Addr} (W : WInt K p rows) (e : rows.lookup k = some b) (h : Q (.ref b) H) : rIxW K (.ref p) (.int k) H Q := ⟨p, k, rows, b, rfl, rfl, W, e, h⟩
theorem s_ninW {p : Addr} {k : Int} {rows : List (Int × Addr)} (W : WInt K p rows) (h : Q (.bl (!(rows.lookup k).isSome)) H) : rNInW K (.int k) (.ref p) H Q := ⟨p, k, rows, rfl, rfl, W, h⟩
theorem s_chain {r r' : R2} {ta tb tc : TE} (h : ta σ H fun x H1 => tb σ H1 fun y H2 => r x y H2 fun z H3 => IsBl z H3 fun k H4 => if k = true then tc σ H4 fun w' H5 => r' y w' H5 Q else Q (.bl false) H4) : tChain r r' ta tb tc σ H Q := h
end
end Z
namespace Z
open PySem PySem.Spec PyProof.Rows L2 RZ
/-! zip of two tuples -/
def ZipA (K : PySem.W.Frag) (vs : List V) (H : Hp) (R : It → Hp → Prop) : Prop := ∃ a b xs ys, vs = [.ref a, .ref b] ∧ ((SqL K H a xs ∧ SqL K H b ys ∧ R (Itz K a b) H) ∨ (SqT K H a xs ∧ SqT K H b ys ∧ R (ItzT K a b) H))
theorem pi_zipAK {X : Cx} (K : PySem.W.Frag) {e e2 : Expr} {ta : TA} {p pos tpos : Pos} {elts : List Expr} {kk : Nat} (hg : Gl X "zip") (hm : X.mg "zip" = none) (ha : PA X [e, e2] ta)
    (hs : starEach [e, e2] X.env = (false, eval e X.env) :: starEach [e2] X.env := by rfl) (hpl : (backTo pos (starEach [e2] X.env)).any (·.1) = false := by rfl) (ek : X.K = K := by rfl) :
    PI X (.Tuple elts kk tpos) (.Call (.Name "zip" p) [e, e2] [] pos) (iZipA K ta) := by subst ek; exact pi_zipA hg hm ha hs hpl
theorem cut_fromZ (xs : List V) (m : Nat) : cutV xs (some (m : Int)) none = xs.drop m := by
  unfold cutV
  rw [show HT.sIx xs.length 0 (some (m : Int)) = min m xs.length from HT.sIx_nat _ _ _, HT.sIx_none]
  by_cases h : m ≤ xs.length
  · rw [Nat.min_eq_left h, List.take_of_length_le (by rw [List.length_drop]; omega)]
  · rw [Nat.min_eq_right (by omega), List.drop_of_length_le (Nat.le_refl _), List.take_nil, List.drop_of_length_le (by omega)]
section
variable {K : PySem.W.Frag} {H : Hp} {Q : VK} {σ : L2.St}
theorem s_izipA {ta : TA} {R : It → Hp → Prop} (h : ta σ H fun vs H1 => ZipA K vs H1 R) : iZipA K ta σ H R := h
theorem s_zipTT {a b : Addr} {xs ys : List V} {R : It → Hp → Prop} (hx : SqT K H a xs) (hy : SqT K H b ys) (h : R (ItzT K a b) H) : ZipA K [.ref a, .ref b] H R := ⟨a, b, xs, ys, rfl, .inr ⟨hx, hy, h⟩⟩
theorem s_zipLL {a b : Addr} {xs ys : List V} {R : It → Hp → Prop} (hx : SqL K H a xs) (hy : SqL K H b ys) (h : R (Itz K a b) H) : ZipA K [.ref a, .ref b] H R := ⟨a, b, xs, ys, rfl, .inl ⟨hx, hy, h⟩⟩
theorem l_mapZT {g : TG} {tt : TT} {te : TE} {vs : List Nat} {a b : Addr} {xs ys : List V} (F : Nat → V) (hl : xs.length = ys.length) (hx : SqT K H a xs) (hy : SqT K H b ys) (hz : xs.length ≤ 100000)
    (hs : ∀ (D : Addr) (N : Hp → Prop) (i : Nat) (x y : V) (T : Addr) (H' : Hp), xs[i]? = some x → ys[i]? = some y → Same H H' → H' T = some (.tup [x, y]) → (∀ H4, Same H' H4 → LcEnd D N (F i) H4) → g (.ref T) (wipe σ vs) H' fun σ2 H2 => wipe σ2 vs = wipe σ vs ∧ tt σ2 H2 fun b H3 => if b = true then te σ2 H3 fun y H4 => LcEnd D N y H4 else N H3)
    (hd : ∀ D H', H D = none → Same H H' → H' D = some (.lst ((List.range xs.length).map F)) → Q (.ref D) H') : LcW g tt te vs Q σ (ItzT K a b) H := by
  have line : (100000 : Nat) < sizeLine := by decide
  intro D nD
  refine ⟨fun i m H' => m = xs.length - i ∧ i ≤ xs.length ∧ Same H H' ∧ H' D = some (.lst ((List.range i).map F)), ⟨_, rfl, Nat.zero_le _, Same.new nD, upd_same⟩, ?_⟩
  rintro i m H' ⟨rfl, hi, sm, eD⟩
  have qx := sqt_same sm hx
  have qy := sqt_same sm hy
  by_cases hlt : i < xs.length
  · have e1 : xs[i]? = some xs[i] := List.getElem?_eq_getElem hlt
    have hlt2 : i < ys.length := by omega
    have e2 : ys[i]? = some ys[i] := List.getElem?_eq_getElem hlt2
    refine .inr ⟨⟨xs, ys, _, _, qx, qy, e1, e2⟩, fun H'' => Same H H'' ∧ H'' D = some (.lst ((List.range (i + 1)).map F)), fun H'' p => ⟨xs.length - (i + 1), by omega, rfl, hlt, p⟩, fun v H'' y => ?_⟩
    obtain ⟨T, x', y', rfl, hT, rfl, f1, f2⟩ := y
    have s2 : Same H' (upd H' T (.tup [x', y'])) := Same.new hT
    refine hs D _ i x' y' T _ (f1 xs qx) (f2 ys qy) (sm.trans s2) upd_same fun H4 s4 => ?_
    refine s_lcEnd (s4 _ _ (s2 _ _ eD)) (by rw [List.length_map, List.length_range]; omega) fun H5 b5 e5 => ⟨But.same b5 ((sm.trans s2).trans s4) nD, ?_⟩
    rw [map_range_succ]
    exact e5
  · have e : i = xs.length := by omega
    subst e
    exact .inl ⟨⟨xs, ys, qx, qy, Or.inl (Nat.le_refl _)⟩, hd D H' nD sm eD⟩
end
end Z
namespace Z
open PySem PySem.Spec PyProof.Rows L2 TL
/-! texts -/
def rAddT : V → V → Hp → VK → Prop := fun x y H Q => ∃ i j, x = .str i ∧ y = .str j ∧ i.length + j.length ≤ sizeLine ∧ Q (.str (i ++ j)) H
theorem op_addT {X : Cx} : OpR X (binaryOp .Add) rAddT := op_add_str
def rLenS : List V → Hp → VK → Prop := fun xs H Q => ∃ z, xs = [.str z] ∧ z.length ≤ sizeLine ∧ Q (.int z.length) H
theorem c_lenS {X : Cx} : CallR X (.builtin "len") rLenS := call_len_str
def rJoin (K : PySem.W.Frag) : V → List V → Hp → VK → Prop := fun x xs H Q => ∃ a p, ∃ ys : List Str, x = .str a ∧ xs = [.ref p] ∧ (SqL K H p (ys.map V.str) ∨ SqT K H p (ys.map V.str)) ∧
    (ys.map (·.length)).sum + ys.length * a.length ≤ 16777216 ∧ Q (.str (Txt.join a ys)) H
theorem mt_joinK {X : Cx} (K : PySem.W.Frag) (e : X.K = K := by rfl) : MtR X "str.join" (rJoin K) := by subst e; exact mt_join
section
variable {K : PySem.W.Frag} {σ : L2.St} {H : Hp} {Q : VK}
theorem s_addT {a b : Str} (hz : a.length + b.length ≤ 100000) (h : Q (.str (a ++ b)) H) : rAddT (.str a) (.str b) H Q := by
  have line : (100000 : Nat) < sizeLine := by decide
  exact ⟨a, b, rfl, rfl, by omega, h⟩
theorem s_lenS {z : Str} (hz : z.length ≤ 100000) (h : Q (.int z.length) H) : rLenS [.str z] H Q := by
  have line : (100000 : Nat) < sizeLine := by decide
  exact ⟨z, rfl, by omega, h⟩
theorem s_ixS {z : Str} {i : Int} {c : Nat} (hz : z.length ≤ 100000) (ha : atI z.cps.toList i = some c) (h : Q (.str ⟨#[c]⟩) H) : rIxS (.str z) (.int i) H Q := by
  have line : (100000 : Nat) < sizeLine := by decide
  exact ⟨z, i, c, rfl, rfl, by omega, ha, h⟩
theorem s_slS {z : Str} {lo hi : Option Int} (hz : z.length ≤ 100000) (h : Q (.str (cutS z lo hi)) H) : rSlS (.str z) lo hi H Q := by
  have line : (100000 : Nat) < sizeLine := by decide
  exact ⟨z, rfl, by omega, h⟩
theorem s_tyS {z : Str} {f : V → List V → Hp → VK → Prop} {t : TA} (h : t σ H fun xs H2 => f (.str z) xs H2 Q) : TyR K "str" f t σ (.str z) H Q := ⟨rfl, h⟩
theorem s_joinL {a : Str} {p : Addr} {ys : List Str} (hp : SqL K H p (ys.map V.str)) (hz : (ys.map (·.length)).sum + ys.length * a.length ≤ 16777216) (h : Q (.str (Txt.join a ys)) H) : rJoin K (.str a) [.ref p] H Q := ⟨a, p, ys, rfl, rfl, .inl hp, hz, h⟩
theorem s_joinT {a : Str} {p : Addr} {ys : List Str} (hp : SqT K H p (ys.map V.str)) (hz : (ys.map (·.length)).sum + ys.length * a.length ≤ 16777216) (h : Q (.str (Txt.join a ys)) H) : rJoin K (.str a) [.ref p] H Q := ⟨a, p, ys, rfl, rfl, .inr hp, hz, h⟩
end
theorem at_gen {α : Type} {l : List α} {i : Int} {k : Nat} {x : α} (e : i = k) (h : l[k]? = some x) : atI l i = some x := by
  subst e
  have hk := (List.getElem?_eq_some_iff.mp h).1
  unfold atI
  rw [ixN_nat hk]
  simpa using h
/-! a text as the list of its signs: tl -/
theorem tl_len (z : Str) : (tl z).length = z.length := by simp [tl, Str.length]
theorem tl_inj' {a b : Str} (h : tl a = tl b) : a = b := by
  cases a
  cases b
  rw [Str.mk.injEq]
  exact Array.toList_inj.mp h
theorem tl_one (c : Nat) : tl ⟨#[c]⟩ = [c] := rfl
theorem tl_to (z : Str) (m : Nat) : tl (cutS z none (some (m : Int))) = (tl z).take m := by
  show (((tl z).drop 0).take (HT.sIx z.length z.length (some (m : Int)) - 0)) = _
  rw [HT.sIx_nat, List.drop_zero, Nat.sub_zero, ← tl_len]
  exact List.take_eq_take_min.symm
theorem tl_from (z : Str) (m : Nat) : tl (cutS z (some (m : Int)) none) = (tl z).drop m := by
  show (((tl z).drop (HT.sIx z.length 0 (some (m : Int)))).take (z.length - HT.sIx z.length 0 (some (m : Int)))) = _
  rw [HT.sIx_nat, ← tl_len]
  by_cases h : m ≤ (tl z).length
  · rw [Nat.min_eq_left h, List.take_of_length_le (by rw [List.length_drop]; exact Nat.le_refl _)]
  · rw [Nat.min_eq_right (by omega), Nat.sub_self, List.take_zero, List.drop_of_length_le (by omega)]
theorem fold_glue (g : Array Nat) : ∀ (ps : List Str) (acc : Array Nat), (ps.foldl (fun acc p => acc ++ g ++ p.cps) acc).toList = acc.toList ++ (ps.map fun p => g.toList ++ tl p).flatten
  | [], acc => by simp
  | p :: ps, acc => by
    rw [List.foldl_cons, fold_glue g ps, List.map_cons, List.flatten_cons, Array.toList_append, Array.toList_append, List.append_assoc, List.append_assoc, List.append_assoc]
theorem tl_join0 : ∀ ys : List Str, tl (Txt.join (Str.ofString "") ys) = (ys.map tl).flatten
  | [] => rfl
  | a :: r => by
    have h := fold_glue (Str.ofString "").cps r a.cps
    have e : (Str.ofString "").cps.toList = [] := rfl
    rw [e] at h
    exact h
end Z
namespace K1
open PySem PySem.Spec PyProof.Rows L2 TL Z
/-- the signs of names -/
abbrev sgS : Str := Str.ofString "abcdefghijklmnopqrstuvwxyzABCDEFGHIJKLMNOPQRSTUVWXYZ0123456789"
def SG : List Nat := tl sgS
theorem sg_len : SG.length = 62 := by decide +kernel
theorem sg_nd : SG.Nodup := by decide +kernel
structure NmOk (z : Str) : Prop where
  pos : 0 < (tl z).length
  le : (tl z).length ≤ 8
  sg : ∀ c ∈ tl z, c ∈ SG
structure WordsOk (ws : List Str) : Prop where
  len : ws.length = 12
  nm : ∀ z ∈ ws, NmOk z
  nd : ws.Nodup
theorem sg_at {i : Nat} (h : i < 62) : SG[i]? = some (SG.getD i 0) := by
  rw [List.getD_eq_getElem?_getD, List.getElem?_eq_getElem (by rw [sg_len]; exact h)]
  rfl
theorem sg_mem {i : Nat} (h : i < 62) : SG.getD i 0 ∈ SG := List.mem_of_getElem? (sg_at h)

structure NamesOk (xs : List Str) : Prop where
  pos : 0 < xs.length
  le : xs.length ≤ 12
  nm : ∀ z ∈ xs, NmOk z
  nd : xs.Nodup
theorem WordsOk.take {ws : List Str} (h : WordsOk ws) {m : Nat} (h0 : 0 < m) (h1 : m ≤ 12) : NamesOk (ws.take m) where
  pos := by rw [List.length_take, h.len]; omega
  le := by rw [List.length_take, h.len]; omega
  nm := fun z hz => h.nm z (List.mem_of_mem_take hz)
  nd := h.nd.sublist (List.take_sublist _ _)
/-- a lot; pick: drawn in order (0), a set (1), again (2) -/
inductive Lot where
  | sure (x : Str)
  | order (xs : List Str)
  | pick (k : Nat) (s : Int) (xs : List Str)
  | prizes (s : Int) (rows : List (Str × Int))
  | seats (s : Int) (rows : List (Str × Int))
  | both (ls : List Lot)
  | among (ws : List Int) (ls : List Lot)
def namesD (xs : List Str) : PyData := .tuple (xs.map .str)
def rowD (r : Str × Int) : PyData := .tuple [.str r.1, .int r.2]
def rowsD (rows : List (Str × Int)) : PyData := .tuple (rows.map rowD)
def kindS (k : Nat) : Str := if k = 0 then Str.ofString "draw" else if k = 1 then Str.ofString "set" else Str.ofString "again"
mutual
def lotD : Lot → PyData
  | .sure x => .tuple [.str (Str.ofString "sure"), .str x]
  | .order xs => .tuple [.str (Str.ofString "order"), namesD xs]
  | .pick k s xs => .tuple [.str (kindS k), .int s, namesD xs]
  | .prizes s rows => .tuple [.str (Str.ofString "prizes"), .int s, rowsD rows]
  | .seats s rows => .tuple [.str (Str.ofString "seats"), .int s, rowsD rows]
  | .both ls => .tuple [.str (Str.ofString "both"), .tuple (lotDs ls)]
  | .among ws ls => .tuple [.str (Str.ofString "among"), .tuple (pairDs ws ls)]
def lotDs : List Lot → List PyData
  | [] => []
  | l :: ls => lotD l :: lotDs ls
def pairDs : List Int → List Lot → List PyData
  | w :: ws, l :: ls => .tuple [.int w, lotD l] :: pairDs ws ls
  | _, _ => []
end
mutual
def nodes : Lot → Nat
  | .sure _ => 1
  | .order _ => 1
  | .pick _ _ _ => 1
  | .prizes _ _ => 1
  | .seats _ _ => 1
  | .both ls => 1 + nodess ls
  | .among _ ls => 1 + nodess ls
def nodess : List Lot → Nat
  | [] => 0
  | l :: ls => nodes l + nodess ls
end
theorem lotDs_map : ∀ ls : List Lot, lotDs ls = ls.map lotD
  | [] => rfl
  | l :: ls => congrArg (lotD l :: ·) (lotDs_map ls)
theorem nodess_sum : ∀ ls : List Lot, nodess ls = (ls.map nodes).sum
  | [] => rfl
  | l :: ls => by rw [List.map_cons, List.sum_cons, ← nodess_sum ls]; rfl
/-- what is drawn of the plain ones -/
def PlainOk : Lot → Prop
  | .sure x => NmOk x
  | .order xs => NamesOk xs ∧ xs.length ≤ 6
  | .pick k s xs => NamesOk xs ∧ xs.length ≤ 6 ∧ 0 ≤ s ∧ k ≤ 2 ∧ (k < 2 → s ≤ xs.length) ∧ (k = 2 → s ≤ 3)
  | .prizes s rows => NamesOk (rows.map (·.1)) ∧ rows.length ≤ 5 ∧ 0 ≤ s ∧ s ≤ rows.length ∧ ∀ r ∈ rows, 1 ≤ r.2 ∧ r.2 ≤ 100
  | .seats s rows => NamesOk (rows.map (·.1)) ∧ rows.length ≤ 6 ∧ 0 ≤ s ∧ s ≤ 11 ∧ (∀ r ∈ rows, 0 ≤ r.2 ∧ r.2 ≤ 40) ∧ 0 < (rows.map (·.2)).sum
  | .both _ => False
  | .among _ _ => False
/-- what is drawn, with at most so many levels around the plain ones -/
def LotOk : Nat → Lot → Prop
  | 0, e => PlainOk e
  | d + 1, e => PlainOk e ∨ (∃ ls, e = .both ls ∧ 0 < ls.length ∧ ls.length ≤ 6 ∧ ∀ l ∈ ls, LotOk d l) ∨
      ∃ ws ls, e = .among ws ls ∧ ws.length = ls.length ∧ 0 < ls.length ∧ ls.length ≤ 6 ∧ (∀ w ∈ ws, 0 ≤ w ∧ w ≤ 1000) ∧ 0 < ws.sum ∧ ∀ l ∈ ls, LotOk d l
theorem LotOk.plain {e : Lot} (h : PlainOk e) : ∀ {d : Nat}, LotOk d e
  | 0 => h
  | _ + 1 => .inl h
theorem plain_nodes {e : Lot} (h : PlainOk e) : nodes e = 1 := by
  cases e <;> first | rfl | exact h.elim
theorem strS_nm {z : Str} (h : NmOk z) : strS z = true := by
  have h1 : ∀ c ∈ SG, c < 0x110000 := by decide +kernel
  have h2 : PyData.canLay0 (.str z) = true := by
    show z.cps.all (· < 0x110000) = true
    rw [← Array.all_toList, List.all_eq_true]
    intro c hc
    exact decide_eq_true (h1 c (h.sg c hc))
  have h3 := h.le
  rw [tl_len] at h3
  unfold strS
  rw [h2, decide_eq_true (show z.length ≤ 1000 by omega)]
  rfl
theorem ims_map {α : Type} {K : PySem.W.Frag} {H : Hp} {f : α → PyData} {g : α → V} (h : ∀ a, Im K H (f a) (g a)) : ∀ l : List α, Ims K H (l.map f) (l.map g)
  | [] => rfl
  | a :: l => ⟨g a, l.map g, rfl, h a, ims_map h l⟩
theorem im_names {K : PySem.W.Frag} {H : Hp} {a : Addr} {xs : List Str} (h : SqT K H a (xs.map V.str)) : Im K H (namesD xs) (.ref a) := ⟨a, _, rfl, h, ims_map (f := PyData.str) (g := V.str) (fun _ => rfl) xs⟩
end K1
namespace K1
namespace ML
open PySem
/-! lists of outcomes, and how a number finds its place in them -/
section
variable {α β : Type}
theorem flat_len {l : List α} {f : α → List β} {b : Nat} (h : ∀ x ∈ l, (f x).length = b) : (l.flatMap f).length = l.length * b := by
  induction l with
  | nil => simp
  | cons a r ih =>
    rw [List.flatMap_cons, List.length_append, h a (List.mem_cons_self ..), ih fun x m => h x (List.mem_cons_of_mem _ m), List.length_cons, Nat.succ_mul, Nat.add_comm]
/-- a list of lists of one length: the last digit finds the place within -/
theorem flat_get {l : List α} {f : α → List β} {b : Nat} (hb : 0 < b) (h : ∀ x ∈ l, (f x).length = b) : ∀ k, (l.flatMap f)[k]? = (l[k / b]?).bind fun x => (f x)[k % b]? := by
  induction l with
  | nil => intro k; simp
  | cons a r ih =>
    intro k
    have ha := h a (List.mem_cons_self ..)
    rw [List.flatMap_cons]
    by_cases hk : k < b
    · rw [List.getElem?_append_left (by rw [ha]; exact hk), Nat.div_eq_of_lt hk, Nat.mod_eq_of_lt hk]
      rfl
    · have hk : b ≤ k := Nat.le_of_not_lt hk
      rw [List.getElem?_append_right (by rw [ha]; exact hk), ha, ih (fun x m => h x (List.mem_cons_of_mem _ m)) (k - b)]
      obtain ⟨j, rfl⟩ : ∃ j, k = j + b := ⟨k - b, by omega⟩
      rw [Nat.add_sub_cancel, Nat.add_div_right j hb, Nat.add_mod_right, List.getElem?_cons_succ]
/-- the digits of k, the last one fastest -/
def digR : Nat → List Nat → List Nat
  | _, [] => []
  | k, b :: r => (k % b) :: digR (k / b) r
def digs (k : Nat) (bs : List Nat) : List Nat := (digR k bs.reverse).reverse
theorem digs_snoc (k : Nat) (bs : List Nat) (b : Nat) : digs k (bs ++ [b]) = digs (k / b) bs ++ [k % b] := by
  unfold digs
  rw [List.reverse_append, List.reverse_cons, List.reverse_nil, List.nil_append, List.singleton_append, digR, List.reverse_cons]
theorem digR_len : ∀ (k : Nat) (bs : List Nat), (digR k bs).length = bs.length
  | _, [] => rfl
  | k, b :: r => by rw [digR, List.length_cons, List.length_cons, digR_len]
theorem digs_len (k : Nat) (bs : List Nat) : (digs k bs).length = bs.length := by
  unfold digs
  rw [List.length_reverse, digR_len, List.length_reverse]
end
section
variable {α : Type} [DecidableEq α]
/-! names in order, or again -/
def extN (names : List α) (again : Bool) (one : List α) : List (List α) := (names.filter fun x => again || !decide (x ∈ one)).map fun x => one ++ [x]
def tupL (names : List α) (again : Bool) : Nat → List (List α)
  | 0 => [[]]
  | s + 1 => (tupL names again s).flatMap (extN names again)
def basesN (again : Bool) (n : Nat) (s : Nat) : List Nat := (List.range s).map fun i => if again then n else n - i
theorem basesN_succ (again : Bool) (n s : Nat) : basesN again n (s + 1) = basesN again n s ++ [if again then n else n - s] := by
  unfold basesN
  rw [List.range_succ, List.map_append]
  rfl
/-- what the numbers of places choose: found, left -/
def stepN (again : Bool) (st : List α × List α) (d : Nat) : List α × List α := match st.2[d]? with
  | some x => (st.1 ++ [x], if again then st.2 else st.2.eraseIdx d)
  | none => st
def atN (names : List α) (again : Bool) (ds : List Nat) : List α × List α := ds.foldl (stepN again) ([], names)
theorem atN_snoc (names : List α) (again : Bool) (ds : List Nat) (d : Nat) : atN names again (ds ++ [d]) = stepN again (atN names again ds) d := by
  unfold atN
  rw [List.foldl_append]
  rfl
theorem erase_filter : ∀ {l : List α} {d : Nat} {x : α}, l.Nodup → l[d]? = some x → l.eraseIdx d = l.filter fun y => !decide (y = x)
  | [], _, _, _, e => by simp at e
  | a :: r, 0, x, nd, e => by
    have : a = x := by simpa using e
    subst this
    rw [List.eraseIdx_cons_zero, List.filter_cons, decide_eq_true rfl]
    simp only [Bool.not_true, Bool.false_eq_true, if_false]
    exact (List.filter_eq_self.mpr fun y hy => by
      have : y ≠ a := fun z => (List.nodup_cons.mp nd).1 (z ▸ hy)
      rw [decide_eq_false this]; rfl).symm
  | a :: r, d + 1, x, nd, e => by
    have e' : r[d]? = some x := by simpa using e
    have hx : x ∈ r := List.mem_of_getElem? e'
    have : a ≠ x := fun z => (List.nodup_cons.mp nd).1 (z ▸ hx)
    rw [List.eraseIdx_cons_succ, List.filter_cons, decide_eq_false this]
    simp only [Bool.not_false, if_true]
    rw [erase_filter (List.nodup_cons.mp nd).2 e']
/-- each tuple of the list is what its number chooses; what is left are the others -/
theorem tup_at {names : List α} (nd : names.Nodup) (again : Bool) : ∀ s : Nat, (again = true ∨ s ≤ names.length) →
    (tupL names again s).length = (basesN again names.length s).prod ∧ (∀ one ∈ tupL names again s, (extN names again one).length = if again then names.length else names.length - s) ∧
    ∀ k one, (tupL names again s)[k]? = some one → atN names again (digs k (basesN again names.length s)) = (one, if again then names else names.filter fun x => !decide (x ∈ one))
  | 0, _ => by
    refine ⟨rfl, fun one h => ?_, fun k one e => ?_⟩
    · have : one = [] := by simpa [tupL] using h
      subst this
      unfold extN
      rw [List.length_map]
      cases again
      · simp
      · simp
    · have : one = [] := by
        cases k with
        | zero => simpa [tupL] using e.symm
        | succ k => simp [tupL] at e
      subst this
      show ([], names) = _
      cases again
      · simp only [List.not_mem_nil, decide_false, Bool.not_false, Bool.false_eq_true, if_false]
        rw [List.filter_eq_self.mpr fun _ _ => rfl]
      · rfl
  | s + 1, hs => by
    obtain ⟨hl, he, ha⟩ := tup_at nd again s (hs.imp id fun h => by omega)
    have hE : ∀ one ∈ tupL names again (s + 1), (extN names again one).length = if again then names.length else names.length - (s + 1) := by
      intro one h
      obtain ⟨q, hq, h⟩ := List.mem_flatMap.mp h
      have hlen := he q hq
      unfold extN at h hlen ⊢
      obtain ⟨x, hx, rfl⟩ := List.mem_map.mp h
      rw [List.length_map] at hlen ⊢
      cases again with
      | true => simp
      | false =>
        simp only [Bool.false_or, Bool.false_eq_true, if_false] at hlen hx ⊢
        obtain ⟨h1, h2⟩ := List.mem_filter.mp hx
        have hx2 : x ∉ q := by simpa using h2
        have e1 : (names.filter fun y => !decide (y ∈ q ++ [x])) = (names.filter fun y => !decide (y ∈ q)).filter fun y => !decide (y = x) := by
          rw [List.filter_filter]
          refine List.filter_congr fun y _ => ?_
          by_cases a1 : y ∈ q <;> by_cases a2 : y = x <;> simp [a1, a2]
        have nd2 : (names.filter fun y => !decide (y ∈ q)).Nodup := nd.sublist List.filter_sublist
        obtain ⟨d, hd⟩ := List.getElem?_of_mem hx
        rw [e1, ← erase_filter nd2 hd, List.length_eraseIdx_of_lt (List.getElem?_eq_some_iff.mp hd).1, hlen]
        omega
    refine ⟨?_, hE, ?_⟩
    · rw [basesN_succ, List.prod_append]
      show ((tupL names again s).flatMap (extN names again)).length = _
      rw [flat_len he, hl]
      simp
    · intro k one e
      have e : ((tupL names again s).flatMap (extN names again))[k]? = some one := e
      have hb : 0 < if again then names.length else names.length - s := by
        obtain ⟨q, hq, h⟩ := List.mem_flatMap.mp (List.mem_of_getElem? e)
        rw [← he q hq]
        exact List.length_pos_of_mem h
      rw [flat_get hb he k] at e
      rw [basesN_succ, digs_snoc, atN_snoc]
      generalize (if again then names.length else names.length - s) = b at e hb ⊢
      cases hq : (tupL names again s)[k / b]? with
      | none => rw [hq] at e; cases e
      | some q =>
        rw [hq] at e
        have e : (extN names again q)[k % b]? = some one := e
        rw [ha _ q hq]
        unfold extN at e
        rw [List.getElem?_map] at e
        cases again with
        | true =>
          rw [List.filter_eq_self.mpr fun _ _ => by simp] at e
          cases hx : names[k % b]? with
          | none => rw [hx] at e; cases e
          | some x =>
            rw [hx] at e
            have : q ++ [x] = one := by simpa using e
            subst this
            show stepN true (q, names) (k % b) = _
            unfold stepN
            dsimp only
            rw [hx]
            rfl
        | false =>
          simp only [Bool.false_or] at e
          have nd2 : (names.filter fun y => !decide (y ∈ q)).Nodup := nd.sublist List.filter_sublist
          cases hx : (names.filter fun y => !decide (y ∈ q))[k % b]? with
          | none => rw [hx] at e; cases e
          | some x =>
            rw [hx] at e
            have : q ++ [x] = one := by simpa using e
            subst this
            show stepN false (q, names.filter fun y => !decide (y ∈ q)) (k % b) = _
            unfold stepN
            dsimp only
            rw [hx]
            simp only [Bool.false_eq_true, if_false]
            rw [erase_filter nd2 hx, List.filter_filter]
            congr 1
            refine List.filter_congr fun y _ => ?_
            by_cases a1 : y ∈ q <;> by_cases a2 : y = x <;> simp [a1, a2]
end
/-! sets -/
section
variable {α : Type}
def combL : List α → Nat → List (List α)
  | _, 0 => [[]]
  | [], _ + 1 => []
  | x :: xs, s + 1 => (combL xs s).map (x :: ·) ++ combL xs (s + 1)
def ch : Nat → Nat → Nat
  | _, 0 => 1
  | 0, _ + 1 => 0
  | m + 1, s + 1 => ch m s + ch m (s + 1)
theorem comb_len : ∀ (xs : List α) (s : Nat), (combL xs s).length = ch xs.length s
  | [], 0 => rfl
  | _ :: _, 0 => rfl
  | [], _ + 1 => rfl
  | x :: xs, s + 1 => by
    rw [combL, List.length_append, List.length_map, comb_len xs s, comb_len xs (s + 1), List.length_cons, ch]
/-- the set with the number k -/
def setAt : List α → Nat → Nat → List α
  | [], _, _ => []
  | _ :: xs, 0, k => setAt xs 0 k
  | x :: xs, s + 1, k => if k < ch xs.length s then x :: setAt xs s k else setAt xs (s + 1) (k - ch xs.length s)
theorem setAt_zero : ∀ (xs : List α) (k : Nat), setAt xs 0 k = []
  | [], _ => rfl
  | _ :: xs, k => setAt_zero xs k
theorem set_at : ∀ (xs : List α) (s k : Nat) (one : List α), (combL xs s)[k]? = some one → setAt xs s k = one
  | xs, 0, k, one, e => by
    rw [setAt_zero]
    cases xs <;> (cases k with
      | zero => simpa [combL] using e
      | succ k => simp [combL] at e)
  | [], s + 1, k, one, e => by simp [combL] at e
  | x :: xs, s + 1, k, one, e => by
    rw [combL] at e
    rw [setAt]
    have hl : ((combL xs s).map (x :: ·)).length = ch xs.length s := by rw [List.length_map, comb_len]
    by_cases hk : k < ch xs.length s
    · rw [if_pos hk]
      rw [List.getElem?_append_left (by omega), List.getElem?_map] at e
      cases h : (combL xs s)[k]? with
      | none => rw [h] at e; cases e
      | some q =>
        rw [h] at e
        have : x :: q = one := by simpa using e
        rw [← this, set_at xs s k q h]
    · rw [if_neg hk]
      rw [List.getElem?_append_right (by omega), hl] at e
      exact set_at xs (s + 1) _ one e
theorem comb_map {β : Type} (f : α → β) : ∀ (xs : List α) (s : Nat), combL (xs.map f) s = (combL xs s).map (List.map f)
  | xs, 0 => by cases xs <;> rfl
  | [], s + 1 => rfl
  | x :: xs, s + 1 => by
    rw [List.map_cons, combL, combL, comb_map f xs s, comb_map f xs (s + 1), List.map_append, List.map_map, List.map_map]
    rfl
end
/-- lists that grow, by what stands behind -/
def nxt (q : List Nat) : Nat := match q.getLast? with
  | some x => x + 1
  | none => 0
def extI (n : Nat) (q : List Nat) : List (List Nat) := (List.range' (nxt q) (n - nxt q)).map fun x => q ++ [x]
def incL (n : Nat) : Nat → List (List Nat)
  | 0 => [[]]
  | s + 1 => (incL n s).flatMap (extI n)
/-- .. by what stands ahead -/
def preL (n : Nat) : Nat → List Nat → Nat → List (List Nat)
  | 0, p, _ => [p]
  | s + 1, p, a => (List.range' a (n - a)).flatMap fun x => preL n s (p ++ [x]) (x + 1)
theorem nxt_snoc (p : List Nat) (x : Nat) : nxt (p ++ [x]) = x + 1 := by
  unfold nxt
  rw [List.getLast?_concat]
theorem pre_ext (n : Nat) : ∀ (s : Nat) (p : List Nat) (a : Nat), nxt p = a → (preL n s p a).flatMap (extI n) = preL n (s + 1) p a
  | 0, p, a, h => by
    subst h
    show [p].flatMap (extI n) = (List.range' (nxt p) (n - nxt p)).flatMap fun x => [p ++ [x]]
    rw [List.flatMap_singleton, extI]
    generalize List.range' (nxt p) (n - nxt p) = l
    induction l with
    | nil => rfl
    | cons a r ih => rw [List.map_cons, List.flatMap_cons, ih]; rfl
  | s + 1, p, a, h => by
    show ((List.range' a (n - a)).flatMap fun x => preL n s (p ++ [x]) (x + 1)).flatMap (extI n) = (List.range' a (n - a)).flatMap fun x => preL n (s + 1) (p ++ [x]) (x + 1)
    rw [List.flatMap_assoc]
    congr 1
    funext x
    exact pre_ext n s (p ++ [x]) (x + 1) (nxt_snoc p x)
theorem inc_pre (n : Nat) : ∀ s : Nat, incL n s = preL n s [] 0
  | 0 => rfl
  | s + 1 => by rw [incL, inc_pre n s, pre_ext n s [] 0 rfl]
theorem pre_comb (n : Nat) : ∀ (s m a : Nat) (p : List Nat), n - a = m → preL n s p a = (combL (List.range' a m) s).map (p ++ ·)
  | 0, m, a, p, h => by
    show [p] = _
    cases (List.range' a m) <;> simp [combL]
  | s + 1, 0, a, p, h => by
    show (List.range' a (n - a)).flatMap _ = _
    rw [h]
    rfl
  | s + 1, m + 1, a, p, h => by
    show (List.range' a (n - a)).flatMap _ = _
    rw [h, List.range'_succ, List.flatMap_cons, combL, List.map_append, List.map_map]
    have e1 := pre_comb n s m (a + 1) (p ++ [a]) (by omega)
    have e2 : (List.range' (a + 1) m).flatMap (fun x => preL n s (p ++ [x]) (x + 1)) = (combL (List.range' (a + 1) m) (s + 1)).map (p ++ ·) := by
      have := pre_comb n (s + 1) m (a + 1) p (by omega)
      rw [← this]
      show _ = (List.range' (a + 1) (n - (a + 1))).flatMap _
      rw [show n - (a + 1) = m by omega]
    rw [e1, e2]
    congr 1
    refine List.map_congr_left fun q _ => ?_
    show (p ++ [a]) ++ q = p ++ (a :: q)
    rw [List.append_assoc]
    rfl
theorem inc_comb (n s : Nat) : incL n s = combL (List.range n) s := by
  rw [inc_pre, pre_comb n s n 0 [] (by omega), List.range_eq_range']
  simp
/-- of the tuples those that ascend are the sets -/
def ascB (one : List Nat) : Bool := decide (one.Pairwise (· ≤ ·))
theorem inc_asc (n : Nat) : ∀ (s : Nat), ∀ q ∈ incL n s, q.Pairwise (· < ·) ∧ ∀ x ∈ q, x < nxt q
  | 0, q, h => by
    have : q = [] := by simpa [incL] using h
    subst this
    exact ⟨.nil, fun x h => by cases h⟩
  | s + 1, q, h => by
    obtain ⟨p, hp, h⟩ := List.mem_flatMap.mp h
    obtain ⟨x, hx, rfl⟩ := List.mem_map.mp h
    obtain ⟨h1, h2⟩ := inc_asc n s p hp
    have hx := (List.mem_range'_1.mp hx).1
    refine ⟨List.pairwise_append.mpr ⟨h1, List.pairwise_singleton _ _, fun a ha b hb => ?_⟩, fun y hy => ?_⟩
    · rw [List.mem_singleton.mp hb]
      have := h2 a ha
      omega
    · rw [nxt_snoc]
      rcases List.mem_append.mp hy with hy | hy
      · have := h2 y hy
        omega
      · rw [List.mem_singleton.mp hy]
        omega
theorem filter_range' (n b : Nat) : (List.range n).filter (fun x => decide (b ≤ x)) = List.range' b (n - b) := by
  induction n with
  | zero => simp
  | succ n ih =>
    rw [List.range_succ, List.filter_append, ih, List.filter_cons, List.filter_nil]
    by_cases h : b ≤ n
    · rw [if_pos (decide_eq_true h), show n + 1 - b = (n - b) + 1 by omega, List.range'_concat, show b + 1 * (n - b) = n by omega]
    · rw [if_neg (by simpa using h), show n + 1 - b = 0 by omega, show n - b = 0 by omega]
      rfl
theorem asc_tups (n : Nat) : ∀ s : Nat, (tupL (List.range n) false s).filter ascB = incL n s
  | 0 => rfl
  | s + 1 => by
    show ((tupL (List.range n) false s).flatMap (extN (List.range n) false)).filter ascB = _
    rw [List.filter_flatMap]
    have h : ∀ l : List (List Nat), (∀ q ∈ l.filter ascB, q.Pairwise (· < ·) ∧ ∀ x ∈ q, x < nxt q) → (l.flatMap fun a => (extN (List.range n) false a).filter ascB) = (l.filter ascB).flatMap (extI n) := by
      intro l
      induction l with
      | nil => intro _; rfl
      | cons q r ih =>
        intro hq
        rw [List.filter_cons] at hq
        rw [List.flatMap_cons, List.filter_cons]
        by_cases ha : ascB q = true
        · rw [if_pos ha] at hq ⊢
          rw [List.flatMap_cons, ih fun x hx => hq x (List.mem_cons_of_mem _ hx)]
          congr 1
          obtain ⟨h1, h2⟩ := hq q (List.mem_cons_self ..)
          unfold extN extI
          rw [List.filter_map, List.filter_filter, ← filter_range']
          congr 1
          refine List.filter_congr fun x _ => ?_
          show (ascB (q ++ [x]) && (false || !decide (x ∈ q))) = decide (nxt q ≤ x)
          rw [Bool.false_or]
          unfold ascB
          by_cases hx : nxt q ≤ x
          · rw [decide_eq_true hx, decide_eq_true (show (q ++ [x]).Pairwise (· ≤ ·) from List.pairwise_append.mpr ⟨h1.imp fun h => Nat.le_of_lt h, List.pairwise_singleton _ _, fun a ha b hb => by
              rw [List.mem_singleton.mp hb]
              have := h2 a ha
              omega⟩), decide_eq_false (fun z => by have := h2 x z; omega)]
            rfl
          · rw [decide_eq_false hx]
            by_cases hm : x ∈ q
            · rw [decide_eq_true hm]; simp
            · have : ¬ (q ++ [x]).Pairwise (· ≤ ·) := fun z => by
                rcases q.eq_nil_or_concat with e | ⟨p, y, e⟩
                · subst e
                  exact hx (Nat.zero_le _)
                · subst e
                  rw [List.concat_eq_append] at *
                  rw [nxt_snoc] at hx
                  have h3 := (List.pairwise_append.mp z).2.2 y (List.mem_append_right _ (List.mem_singleton.mpr rfl)) x (List.mem_singleton.mpr rfl)
                  have : x = y := by omega
                  exact hm (this ▸ List.mem_append_right _ (List.mem_singleton.mpr rfl))
              rw [decide_eq_false this]; rfl
        · rw [if_neg ha] at hq ⊢
          rw [ih hq]
          have : (extN (List.range n) false q).filter ascB = [] := by
            refine List.filter_eq_nil_iff.mpr fun y hy hz => ha ?_
            obtain ⟨x, _, rfl⟩ := List.mem_map.mp hy
            exact decide_eq_true (List.pairwise_append.mp (of_decide_eq_true hz)).1
          rw [this]
          rfl
    rw [h _ (by rw [asc_tups n s]; exact inc_asc n s), asc_tups n s]
    rfl
/-! both, among -/
section
variable {β : Type}
def bothL (ls : List (List β)) : List (List β) := ls.foldl (fun found outs => found.flatMap fun one => outs.map fun o => one ++ [o]) [[]]
theorem bothL_snoc (ls : List (List β)) (l : List β) : bothL (ls ++ [l]) = (bothL ls).flatMap fun one => l.map fun o => one ++ [o] := by
  unfold bothL
  rw [List.foldl_append]
  rfl
def prodN (ns : List Nat) : Nat := ns.foldl (· * ·) 1
theorem both_len : ∀ (n : Nat) (ls : List (List β)), ls.length = n → (bothL ls).length = prodN (ls.map (·.length))
  | 0, ls, h => by
    have : ls = [] := List.length_eq_zero_iff.mp h
    subst this
    rfl
  | n + 1, ls, h => by
    rcases ls.eq_nil_or_concat with e | ⟨r, l, e⟩
    · subst e; cases h
    · subst e
      rw [List.concat_eq_append] at *
      rw [bothL_snoc, flat_len (b := l.length) (fun x _ => List.length_map ..), both_len n r (by simpa using h), List.map_append]
      unfold prodN
      rw [List.foldl_append]
      rfl
theorem both_at : ∀ (n : Nat) (ls : List (List β)), ls.length = n → ∀ k one, (bothL ls)[k]? = some one → one.map some = (ls.zip (digs k (ls.map (·.length)))).map fun q => q.1[q.2]?
  | 0, ls, h, k, one, e => by
    have : ls = [] := List.length_eq_zero_iff.mp h
    subst this
    have : one = [] := by
      cases k with
      | zero => simpa [bothL] using e.symm
      | succ k => simp [bothL] at e
    subst this
    rfl
  | n + 1, ls, h, k, one, e => by
    rcases ls.eq_nil_or_concat with z | ⟨r, l, z⟩
    · subst z; cases h
    · subst z
      rw [List.concat_eq_append] at *
      rw [bothL_snoc] at e
      have hb : 0 < l.length := by
        obtain ⟨q, _, h⟩ := List.mem_flatMap.mp (List.mem_of_getElem? e)
        obtain ⟨o, ho, _⟩ := List.mem_map.mp h
        exact List.length_pos_of_mem ho
      rw [flat_get hb (fun x _ => List.length_map ..)] at e
      cases hq : (bothL r)[k / l.length]? with
      | none => rw [hq] at e; cases e
      | some q =>
        rw [hq] at e
        have e : (l.map fun o => q ++ [o])[k % l.length]? = some one := e
        rw [List.getElem?_map] at e
        cases ho : l[k % l.length]? with
        | none => rw [ho] at e; cases e
        | some o =>
          rw [ho] at e
          have : q ++ [o] = one := by simpa using e
          subst this
          have ih := both_at n r (by simpa using h) _ q hq
          have em : (r ++ [l]).map (fun x => x.length) = r.map (fun x => x.length) ++ [l.length] := by rw [List.map_append]; rfl
          rw [em, digs_snoc, List.map_append, List.map_cons, List.map_nil, List.zip_append (by rw [digs_len, List.length_map]), List.map_append, ih]
          show _ = _ ++ [l[k % l.length]?]
          rw [ho]
/-- each list again and again, by its weight -/
def cyc (c : Nat) (outs : List β) : List β := (List.range c).filterMap fun r => outs[r % outs.length]?
theorem cyc_get {c : Nat} {outs : List β} (h : 0 < outs.length) : cyc c outs = (List.range c).pmap (fun r hr => outs[r % outs.length]'(Nat.mod_lt _ h)) (fun _ _ => trivial) := by
  unfold cyc
  generalize List.range c = l
  induction l with
  | nil => rfl
  | cons a r ih => rw [List.filterMap_cons, List.getElem?_eq_getElem (Nat.mod_lt _ h), List.pmap_cons, ih]
theorem cyc_len {c : Nat} {outs : List β} (h : 0 < outs.length) : (cyc c outs).length = c := by
  rw [cyc_get h, List.length_pmap, List.length_range]
theorem cyc_at {c : Nat} {outs : List β} (h : 0 < outs.length) {k : Nat} (hk : k < c) : (cyc c outs)[k]? = outs[k % outs.length]? := by
  rw [cyc_get h, List.getElem?_pmap, List.getElem?_range hk]
  show some _ = _
  rw [List.getElem?_eq_getElem (Nat.mod_lt _ h)]
def selL (rows : List (Nat × List β)) : List (List β) := rows.flatMap fun r => List.replicate r.1 r.2
def mixL (c : Nat) (rows : List (Nat × List β)) : List β := (selL rows).flatMap (cyc c)
def chooseW : List Nat → Nat → Nat
  | [], _ => 0
  | w :: ws, l => if l < w then 0 else chooseW ws (l - w) + 1
theorem sel_len : ∀ rows : List (Nat × List β), (selL rows).length = (rows.map (·.1)).sum
  | [] => rfl
  | r :: rows => by
    have := sel_len rows
    unfold selL at *
    rw [List.flatMap_cons, List.length_append, this, List.length_replicate, List.map_cons, List.sum_cons]
theorem sel_at : ∀ (rows : List (Nat × List β)) (j : Nat) (outs : List β), (selL rows)[j]? = some outs → ∃ w, rows[chooseW (rows.map (·.1)) j]? = some (w, outs) ∧ 0 < w
  | [], j, outs, e => by simp [selL] at e
  | r :: rows, j, outs, e => by
    unfold selL at e
    rw [List.flatMap_cons] at e
    show ∃ w, (r :: rows)[if j < r.1 then 0 else chooseW (rows.map (·.1)) (j - r.1) + 1]? = _ ∧ _
    by_cases h : j < r.1
    · rw [if_pos h]
      rw [List.getElem?_append_left (by rw [List.length_replicate]; exact h), List.getElem?_replicate, if_pos h] at e
      have : r.2 = outs := by simpa using e
      exact ⟨r.1, by rw [← this]; rfl, by omega⟩
    · rw [if_neg h]
      rw [List.getElem?_append_right (by rw [List.length_replicate]; omega), List.length_replicate] at e
      rw [List.getElem?_cons_succ]
      exact sel_at rows _ outs e
theorem mix_len {c : Nat} {rows : List (Nat × List β)} (h : ∀ r ∈ rows, 0 < r.2.length) : (mixL c rows).length = (rows.map (·.1)).sum * c := by
  unfold mixL
  rw [flat_len (b := c), sel_len]
  intro x hx
  obtain ⟨r, hr, hx⟩ := List.mem_flatMap.mp hx
  rw [(List.mem_replicate.mp hx).2]
  exact cyc_len (h r hr)
theorem mix_at {c : Nat} {rows : List (Nat × List β)} (h : ∀ r ∈ rows, 0 < r.2.length) {k : Nat} {o : β} (e : (mixL c rows)[k]? = some o) :
    ∃ w outs, rows[chooseW (rows.map (·.1)) (k / c)]? = some (w, outs) ∧ 0 < w ∧ outs[k % c % outs.length]? = some o ∧ 0 < c := by
  unfold mixL at e
  have hl : ∀ x ∈ selL rows, (cyc c x).length = c := fun x hx => by
    obtain ⟨r, hr, hx⟩ := List.mem_flatMap.mp hx
    rw [(List.mem_replicate.mp hx).2]
    exact cyc_len (h r hr)
  have hc : 0 < c := by
    obtain ⟨q, hq, hm⟩ := List.mem_flatMap.mp (List.mem_of_getElem? e)
    rw [← hl q hq]
    exact List.length_pos_of_mem hm
  rw [flat_get hc hl] at e
  cases hq : (selL rows)[k / c]? with
  | none => rw [hq] at e; cases e
  | some outs =>
    rw [hq] at e
    have e : (cyc c outs)[k % c]? = some o := e
    obtain ⟨w, hw, hp⟩ := sel_at rows _ outs hq
    rw [cyc_at (h _ (List.mem_of_getElem? hw)) (Nat.mod_lt _ hc)] at e
    exact ⟨w, outs, hw, hp, e, hc⟩
end
end ML
end K1
/-! sorted of a tuple of numbers -/
namespace SoT
open PySem PySem.Spec PyProof.Rows SrtO
section
variable {prog : Program} {w : World} {A : Around} {E : Value → Shared → Prop} {s : Shared}
/-- what is behind the gathering of a tuple's items -/
abbrev hpG (h : Heap) (ws : List Value) : Heap := (h.push (seqObj "list" #[] 0)).update h.objs.size (Obj.mapSeq (· ++ ws.toArray))
theorem gatherT {T : Addr} {ws : List Value} {R : List Value → Shared → Prop} (hT : s.heap.IsTuple T ws.toArray) (hz : ws.length ≤ sizeLine) (k : R ws { s with heap := hpG s.heap ws }) : wpAny (model prog w) A (collect (.ref T)) R E s := by
  obtain ⟨ob, g1, g2, num, g3⟩ := id hT
  unfold collect; refine wpAny_bind (wpAny_runValue (codeAny_builtin entry_proto_collect' (?_ : wpAny _ _ (do again (.builtin "list.__iadd__" ⟨[← newList [], .ref T], []⟩)) _ _ s)))
  refine wpAny_bind (wpAny_newList (wpAny_pure ⟨Code.quiet_builtin _ (by decide +kernel), codeAny_builtin entry_list_iadd' (?_ : wpAny _ _ (Builtin.List.listExtendWith (.ref s.heap.objs.size) (.ref T) (.ref s.heap.objs.size)) _ _ { s with heap := s.heap.push (seqObj "list" #[] 0) })⟩))
  have g1' : (s.heap.push (seqObj "list" #[] 0)).get? T = some ob := Heap.get?_push_of_some _ g1
  have gN : (s.heap.push (seqObj "list" #[] 0)).get? s.heap.objs.size = some (seqObj "list" #[] 0) := Heap.get?_push_size _ rfl
  unfold Builtin.List.listExtendWith; refine wpAny_bind (wpAny_typeOf (T := "tuple") ⟨ob, g1', g2⟩ ?_)
  have hb : (Value.type "tuple" == Value.type "tuple") = true := beq_self_eq_true _
  rw [if_pos (show (_ || _ || (Value.type "tuple" == Value.type "tuple")) = true by rw [hb, Bool.or_true])]
  refine wpAny_bind (listItems_at g1' g3 (wpAny_bind (listItems_at (xs := #[]) (n := 0) gN rfl ?_)))
  rw [if_neg (show ¬ _ by simp)]
  refine wpAny_bind (listUpdate_at (xs := #[]) (n := 0) gN rfl (wpAny_pure (?_ : wpAny (model prog w) A (do
      let o ← load s.heap.objs.size
      match o.data with
      | .seq xs _ => pure xs.toList
      | _ => unsupported "internal:collect") R E { s with heap := hpG s.heap ws })) (Nat.zero_le _) (show (#[] ++ ws.toArray).size ≤ sizeLine + 1 by simp only [Array.size_append, List.size_toArray, List.length_nil]; omega))
  refine wpAny_bind (wpAny_load (get?_update_seq gN _) (?_ : wpAny _ _ (pure ((#[] : Array Value) ++ ws.toArray).toList) R E _))
  rw [show ((#[] : Array Value) ++ ws.toArray).toList = ws by simp]; exact wpAny_pure k
theorem sortT {T : Addr} {ws : List Value} {lt : Value → Value → Bool} {R : Value → Shared → Prop} (O : Swo lt) (hT : s.heap.IsTuple T ws.toArray) (hz : ws.length ≤ sizeLine)
    (hS : 2 ≤ ws.length → ∀ (g : Heap) (a : Addr), SortableO prog w A.in1.in1 { s with heap := g } a ws lt)
    (k : ∀ out : List Value, Srtd lt out → Stb lt out ws → R (.ref (s.heap.objs.size + 1)) { s with heap := sortedAll s.heap ws out.toArray }) : wpAny (model prog w) A (call (.builtin "sorted") [.ref T]) R E s := by
  refine Calls.call_function_entry kind_sorted plain_sorted entry_sorted (args_sorted1 _) (?_ : wpAny _ _ (Builtin.«sorted» _) _ _ s)
  unfold Builtin.«sorted»; refine wpAny_bind (m := checkCount "sorted" 1 1 _) (wpAny_pure (wpAny_bind (gatherT hT hz (wpAny_bind (wpAny_newList ?_ hz)))))
  have e1 : (hpG s.heap ws).objs.size = s.heap.objs.size + 1 := by rw [Heap.size_update, size_push']
  have e2 : ((hpG s.heap ws).push (seqObj "list" ws.toArray 0)).get? (s.heap.objs.size + 1) = some (seqObj "list" ws.toArray 0) := by
    rw [← e1]; exact Heap.get?_push_size _ rfl
  show wpAny _ _ _ _ _ { s with heap := (hpG s.heap ws).push (seqObj "list" ws.toArray 0) }
  rw [e1]
  exact wpAny_bind (wpAny_holding (wpAny_call_entry slot_list_sort ⟨_, e2, rfl⟩ entry_list_sort (list_sort_ord O e2 hz (fun h2 => hS h2 _ _) fun out o1 o2 => ⟨_, rfl, wpAny_pure ⟨_, rfl, k out o1 o2⟩⟩) (args_list_sort _)))
end
end SoT
namespace Z
open PySem PySem.Spec PyProof.Rows L2
def rSortedT (K : PySem.W.Frag) : List V → Hp → VK → Prop := fun vs H Q => ∃ (a : Addr) (ns : List Int), vs = [V.ref a] ∧ SqT K H a (ns.map V.int) ∧ ∀ (ys : List Int) (p : Addr), ys.Perm ns → ys.Pairwise (· ≤ ·) → H p = none → Q (.ref p) (upd H p (.lst (ys.map V.int)))
theorem cr_sortedT {X : Cx} : CallR X (.builtin "sorted") (rSortedT X.K) := by
  intro pins s σ H vs us Q J r h
  obtain ⟨a, ns, rfl, hT, q⟩ := h
  obtain ⟨its, rv, hl, hz⟩ := J.tuple hT
  rw [Vals.ref1 r]
  have hi := rv.ints
  refine SoT.sortT SrtO.swo_int (show s.heap.IsTuple a its.toArray from hl) (by rw [← rv.length]; exact hz) (fun h2 g a' => SrtO.ints_sortable hi h2) fun out o1 o2 => ?_
  obtain ⟨k1, k2, k3⟩ := SrtO.ints_out hi o1 o2
  obtain ⟨pp, hpp⟩ := PyProof.Rows.sortedAll_at s.heap its out.toArray
  have lz : ((out.map SrtO.iv).map V.int).length ≤ sizeLine := by
    rw [List.length_map] at hz ⊢
    rw [k2.length_eq]; exact hz
  exact ⟨.ref _, upd H (s.heap.objs.size + 1) (.lst ((out.map SrtO.iv).map V.int)), J.laid (t' := s.toks) (fun _ _ => PyProof.Rows.sortedAll_old) (Nat.le_succ _) ⟨lz, out, pp, vals_of_ints k1, hpp⟩, rfl, q _ _ k2 k3 (J.hok.fresh (Nat.le_succ _))⟩
theorem cr_sortedTK {X : Cx} (K : PySem.W.Frag) (e : X.K = K := by rfl) : CallR X (.builtin "sorted") (rSortedT K) := by subst e; exact cr_sortedT
theorem s_sortedT {K : PySem.W.Frag} {H : Hp} {Q : VK} {p : Addr} {ns : List Int} (hx : SqT K H p (ns.map V.int)) (h : ∀ (ys : List Int) (q : Addr) (H' : Hp), ys.Perm ns → ys.Pairwise (· ≤ ·) → H q = none → Same H H' → H' q = some (.lst (ys.map V.int)) → Q (.ref q) H') : rSortedT K [.ref p] H Q := ⟨p, ns, rfl, hx, fun ys q hp hw nq => h ys q _ hp hw nq (Same.new nq) upd_same⟩
/-- != of data, one side at most 64 deep -/
def rNeM (K : PySem.W.Frag) : R2 := fun x y H Q => ∃ d e, Dp K H x d ∧ Dp K H y e ∧ d.canLay0 = true ∧ e.canLay0 = true ∧ min d.depth e.depth ≤ 64 ∧ Q (.bl (!PyData.eqv d e)) H
theorem op_neM {X : Cx} (hu : X.A.units + 64 < cLine) : OpR X (compareOp .NotEq) (rNeM X.K) := by
  intro pins s σ H x y v u Q J rx ry h
  obtain ⟨d, e, hd, he, ld, le, hm, q⟩ := h
  obtain ⟨as, r1⟩ := Dp.reads J d x v hd rx
  obtain ⟨bs, r2⟩ := Dp.reads J e y u he ry
  exact SeqAt.compareNe_reads r1 r2 ld le (by omega) ⟨.bl _, H, J, rfl, q⟩
theorem op_neMK {X : Cx} (K : PySem.W.Frag) (hu : X.A.units + 64 < cLine) (e : X.K = K := by rfl) : OpR X (compareOp .NotEq) (rNeM K) := by subst e; exact op_neM hu
end Z
namespace Z
open PySem PySem.Spec PyProof.Rows L2
/-- an object of a class of the program's own: what stands in its fields -/
def OAt (K : PySem.W.Frag) (H : Hp) (p : Addr) (F : List (Str × V)) : Prop := ∃ C dx, Cls K C ∧ (∀ f v, F.lookup f = some v → NoAttr K C f) ∧ H p = some (.ins C dx F)
theorem OAt.same {K : PySem.W.Frag} {H H' : Hp} {p : Addr} {F : List (Str × V)} (h : OAt K H p F) (s : Same H H') : OAt K H' p F := by
  obtain ⟨C, dx, c, n, e⟩ := h
  exact ⟨C, dx, c, n, s _ _ e⟩
theorem OAt.but {K : PySem.W.Frag} {H H' : Hp} {c p : Addr} {F : List (Str × V)} (h : OAt K H p F) (b : But c H H') (ne : p ≠ c) : OAt K H' p F := by
  obtain ⟨C, dx, c, n, e⟩ := h
  exact ⟨C, dx, c, n, b _ _ ne e⟩
theorem pe_fldK {X : Cx} (K : PySem.W.Frag) {e : Expr} {f : Str} {pos : Pos} {ta : TE} (h : PE X e ta) (hb : attributeBase e f X.env (eval e X.env) = eval e X.env) (ek : X.K = K := by rfl) : PE X (.Attribute e f pos) (tFld K ta f) := by subst ek; exact pe_fld h hb
theorem ps_fldK {X : Cx} (K : PySem.W.Frag) {o value : Expr} {f : Str} {pos pos' : Pos} {ta tv : TE} (h : PE X o ta) (hv : PE X value tv) (hs : swapsWith value (some (.Attribute o f pos')) pos.line X.env = pure false) (ek : X.K = K := by rfl) : PS X (.Assign [.Attribute o f pos'] value pos) (sFld K ta tv f) := by subst ek; exact ps_fld h hv hs
def FldR (K : PySem.W.Frag) (f : Str) (x : V) (H : Hp) (Q : VK) : Prop := ∃ a C dx fs v, x = .ref a ∧ H a = some (.ins C dx fs) ∧ Cls K C ∧ NoAttr K C f ∧ fs.lookup f = some v ∧ Q v H
theorem s_fld {K : PySem.W.Frag} {σ : L2.St} {H : Hp} {Q : VK} {ta : TE} {f : Str} (h : ta σ H fun x H1 => FldR K f x H1 Q) : tFld K ta f σ H Q := h
theorem s_fldO {K : PySem.W.Frag} {H : Hp} {Q : VK} {f : Str} {p : Addr} {F : List (Str × V)} {v : V} (o : OAt K H p F) (e : F.lookup f = some v) (h : Q v H) : FldR K f (.ref p) H Q := by
  obtain ⟨C, dx, c, n, ep⟩ := o
  exact ⟨p, C, dx, F, v, rfl, ep, c, n _ _ e, e, h⟩
/-- a class whose __init__ keeps its promise -/
structure GoodM (P : Program) (w : World) (K : PySem.W.Frag) (mg : Str → Option Value) (base : Heap) (k : Nat) (x : Str) (ps : List Str) (as : List Str) (sp : Addr → Sp) : Prop where
  ex : ∃ (C f : Addr) (fd : FuncData), mg x = some (.ref C) ∧ Mk K C f ∧ Cls K C ∧ (∀ a ∈ as, NoAttr K C a) ∧ L2.Binds K fd ps [] ∧ FnOk P w K mg base CX0 k f fd ps (sp C)
def tMakeG (K : PySem.W.Frag) (as : List Str) (sp : Addr → Sp) (t : TA) : TE := fun σ H Q => ∀ C, Cls K C → (∀ a ∈ as, NoAttr K C a) → tMake C (sp C) [] E0 t σ H Q
theorem pe_mkG {X : Cx} {k : Nat} {x : Str} {ps as : List Str} {sp : Addr → Sp} {p pos : Pos} {e : Expr} {es : List Expr} {t : TA} (G : GoodM X.prog X.w X.K X.mg X.base k x ps as sp) (hr : Room (k + 1) X.A) (hg : Gl X x) (ha : PA X (e :: es) t)
    (hdb : (x == ("__debug__" : Str)) = false := by decide) (he : starEach (e :: es) X.env = (false, eval e X.env) :: starEach es X.env := by rfl) (hpl : (backTo pos (starEach es X.env)).any (·.1) = false := by rfl) :
    PE X (.Call (.Name x p) (e :: es) [] pos) (tMakeG X.K as sp t) := ⟨fun pins s σ H Q J h => by
  obtain ⟨C, f, fd, hm, mk, cl, na, hb, F⟩ := G.ex
  exact (pe_make mk F hr hg hm hb .nil pass0 ha hdb he hpl).run pins s σ H Q J (h C cl na)⟩
end Z
namespace Z
open PySem PySem.Spec PyProof.Rows L2
/-- a built-in that the head has brought -/
theorem pe_callBfun {X : Cx} {x : Str} {p pos : Pos} {e : Expr} {es : List Expr} {t : TA} {id : String} {r : List V → Hp → VK → Prop} (cr : CallR X (.builtin id) r) (hg : Gl X x) (hm : X.mg x = some (.builtin id)) (ha : PA X (e :: es) t)
    (hdb : (x == ("__debug__" : Str)) = false := by decide) (hs : starEach (e :: es) X.env = (false, eval e X.env) :: starEach es X.env := by rfl) (hpl : (backTo pos (starEach es X.env)).any (·.1) = false := by rfl) :
    PE X (.Call (.Name x p) (e :: es) [] pos) (tCB r t) := ⟨fun pins s σ H Q I h => by
  refine Call_ (ld_glob I hg hm (PyProof.Rows.callWith_builtin1 (thn (ha.run pos pins s σ H _ I h) fun us s1 ⟨vs, H1, I1, r1, q1⟩ => ?_) hs hpl) hdb)
  exact cr pins s1 σ H1 vs us Q I1 r1 q1⟩
def rComb : List V → Hp → VK → Prop := fun xs H Q => ∃ a b : Int, xs = [.int a, .int b] ∧ 0 ≤ a ∧ 0 ≤ b ∧ a < 2 ^ 64 ∧ b ≤ 9000 ∧ Q (.int (PySem.W.mcComb a b)) H
def rLcm : List V → Hp → VK → Prop := fun xs H Q => ∃ a b : Int, xs = [.int a, .int b] ∧ a.natAbs < 2 ^ 64 ∧ b.natAbs < 2 ^ 64 ∧ Q (.int (a.natAbs.lcm b.natAbs : Nat)) H
theorem Inv.tok {X : Cx} {pins : List (Addr × Obj)} {σ : L2.St} {H : Hp} {s : Shared} (J : L2.Inv X pins σ H s) (n : Nat) : L2.Inv X pins σ H { heap := s.heap, gens := s.gens, drawn := s.drawn, toks := n, os := s.os } :=
  ⟨J.ok, J.os, J.bare, J.base, J.loc, J.cell, J.free, J.freeC, J.pin, J.hok, J.len⟩
theorem vals_int2 {a b : Int} {us : List Value} (h : Vals [.int a, .int b] us) : ∃ t u, us = [.int a t, .int b u] := by
  cases us with
  | nil => exact absurd h (by intro h; cases h)
  | cons x us =>
    cases us with
    | nil => cases h with | cons _ h => cases h
    | cons y us =>
      cases h with
      | cons h1 h => cases h with
        | cons h2 h =>
          cases h
          obtain ⟨t, rfl⟩ := h1
          obtain ⟨u, rfl⟩ := h2
          exact ⟨t, u, rfl⟩
theorem cr_comb {X : Cx} : CallR X (.builtin "math.comb") rComb := by
  intro pins s σ H xs us Q J hv h
  obtain ⟨a, b, rfl, h0, h1, h2, h3, q⟩ := h
  obtain ⟨t, u, rfl⟩ := vals_int2 hv
  exact PySem.W.mc_comb h0 h1 h2 (.inl h3) fun _ => ⟨.int _, H, Inv.tok J _, ⟨_, rfl⟩, q⟩
theorem cr_lcm {X : Cx} : CallR X (.builtin "math.lcm") rLcm := by
  intro pins s σ H xs us Q J hv h
  obtain ⟨a, b, rfl, h0, h1, q⟩ := h
  obtain ⟨t, u, rfl⟩ := vals_int2 hv
  exact PySem.W.mc_lcm h0 h1 fun _ => ⟨.int _, H, Inv.tok J _, ⟨_, rfl⟩, q⟩
section
variable {H : Hp} {Q : VK}
theorem s_comb {a b : Int} (h0 : 0 ≤ a) (h1 : 0 ≤ b) (h2 : a < 2 ^ 64) (h3 : b ≤ 9000) (h : Q (.int (PySem.W.mcComb a b)) H) : rComb [.int a, .int b] H Q := ⟨a, b, rfl, h0, h1, h2, h3, h⟩
theorem s_lcm {a b : Int} (h0 : a.natAbs < 2 ^ 64) (h1 : b.natAbs < 2 ^ 64) (h : Q (.int (a.natAbs.lcm b.natAbs : Nat)) H) : rLcm [.int a, .int b] H Q := ⟨a, b, rfl, h0, h1, h⟩
end
end Z
namespace Z
open PySem PySem.Spec PyProof.Rows L2
/-! dicts whose keys are nested tuples: data that do not change -/
mutual
def keyOf : PyData → NestedKey
  | .none => .none
  | .bool b => .num (if b = true then 1 else 0)
  | .int i => .num i
  | .str x => .text x
  | .tuple ds => .tup (keysOf ds)
  | .list _ => .none
  | .dict _ => .none
def keysOf : List PyData → List NestedKey
  | [] => []
  | d :: ds => keyOf d :: keysOf ds
end
mutual
theorem keyOf_inj : ∀ d e : PyData, pl d = true → pl e = true → keyOf d = keyOf e → d = e
  | .none, e, _, he, h => by
    cases e with
    | none => rfl
    | int i => exact absurd h (by intro h; rw [keyOf, keyOf] at h; cases h)
    | str i => exact absurd h (by intro h; rw [keyOf, keyOf] at h; cases h)
    | tuple i => exact absurd h (by intro h; rw [keyOf, keyOf] at h; cases h)
    | _ => cases he
  | .int i, e, _, he, h => by
    cases e with
    | int j => rw [keyOf, keyOf] at h; injection h with h; rw [h]
    | none => exact absurd h (by intro h; rw [keyOf, keyOf] at h; cases h)
    | str i => exact absurd h (by intro h; rw [keyOf, keyOf] at h; cases h)
    | tuple i => exact absurd h (by intro h; rw [keyOf, keyOf] at h; cases h)
    | _ => cases he
  | .str x, e, _, he, h => by
    cases e with
    | str j => rw [keyOf, keyOf] at h; injection h with h; rw [h]
    | none => exact absurd h (by intro h; rw [keyOf, keyOf] at h; cases h)
    | int i => exact absurd h (by intro h; rw [keyOf, keyOf] at h; cases h)
    | tuple i => exact absurd h (by intro h; rw [keyOf, keyOf] at h; cases h)
    | _ => cases he
  | .tuple ds, e, hd, he, h => by
    cases e with
    | tuple es =>
      rw [keyOf, keyOf] at h
      injection h with h
      rw [keysOf_inj ds es hd he h]
    | none => exact absurd h (by intro h; rw [keyOf, keyOf] at h; cases h)
    | int i => exact absurd h (by intro h; rw [keyOf, keyOf] at h; cases h)
    | str i => exact absurd h (by intro h; rw [keyOf, keyOf] at h; cases h)
    | _ => cases he
  | .bool _, _, hd, _, _ => by cases hd
  | .list _, _, hd, _, _ => by cases hd
  | .dict _, _, hd, _, _ => by cases hd
theorem keysOf_inj : ∀ ds es : List PyData, pls ds = true → pls es = true → keysOf ds = keysOf es → ds = es
  | [], [], _, _, _ => rfl
  | [], _ :: _, _, _, h => by cases h
  | _ :: _, [], _, _, h => by cases h
  | d :: ds, e :: es, hd, he, h => by
    have hd' : (pl d && pls ds) = true := hd
    have he' : (pl e && pls es) = true := he
    rw [Bool.and_eq_true] at hd' he'
    injection h with h1 h2
    rw [keyOf_inj d e hd'.1 he'.1 h1, keysOf_inj ds es hd'.2 he'.2 h2]
end
section
variable {X : Cx} {pins : List (Addr × Obj)} {σ : L2.St} {H : Hp} {s : Shared}
mutual
theorem key_im (I : L2.Inv X pins σ H s) : ∀ (d : PyData) (v : V) (u : Value), Im X.K H d v → RelV v u → NestedIs s.heap (keyOf d) u
  | .none, v, u, h, r => by
    cases (show v = _ from h)
    cases (show u = _ from r)
    exact .none
  | .bool b, v, u, h, r => by
    cases (show v = _ from h)
    cases (show u = _ from r)
    exact .bool rfl
  | .int i, v, u, h, r => by
    cases (show v = _ from h)
    obtain ⟨t, rfl⟩ := r
    exact .int _ _
  | .str x, v, u, h, r => by
    cases (show v = _ from h)
    obtain ⟨t, rfl⟩ := r
    exact .text _ _
  | .tuple ds, v, u, h, r => by
    obtain ⟨a, vs, rfl, q, is⟩ := h
    cases (show u = Value.ref a from r)
    obtain ⟨its, rv, ⟨o, h1, h2, n, h3⟩, _⟩ := I.tuple q
    exact .tup h1 h2 h3 (by simpa using keys_im I ds vs its is rv)
  | .list _, _, _, h, _ => h.elim
  | .dict _, _, _, h, _ => h.elim
theorem keys_im (I : L2.Inv X pins σ H s) : ∀ (ds : List PyData) (vs : List V) (us : List Value), Ims X.K H ds vs → Vals vs us → NestedAll s.heap (keysOf ds) us
  | [], vs, us, h, r => by
    cases (show vs = _ from h)
    cases r
    exact .nil
  | d :: ds, vs, us, h, r => by
    obtain ⟨v, q, rfl, i, is⟩ := h
    cases r with
    | cons r1 r2 => exact .cons (key_im I d v _ i r1) (keys_im I ds q _ is r2)
end
end
abbrev NEnt := PyData × Addr × V
abbrev NRel (kvs : List NEnt) (xs : List (NestedKey × Addr × Value)) : Prop := Paired (fun (p : NEnt) (q : NestedKey × Addr × Value) => q.1 = keyOf p.1 ∧ q.2.1 = p.2.1 ∧ RelV p.2.2 q.2.2) kvs xs
def NPhi (w : World) (a : Addr) (kvs : List NEnt) (h : Heap) : Prop := ∃ xs o es ep, NRel kvs xs ∧ h.get? a = some o ∧ o.ExactDict ∧ o.data = .dict es ep ∧ es.toList = xs.map (fun x => (⟨x.1.hash w, .ref x.2.1, x.2.2⟩ : DictEntry)) ∧ (xs.map (·.1)).Nodup
/-- a dict with the keys and values kvs -/
def nO (w : World) (a : Addr) (kvs : List NEnt) : HO := .ext fun h => (a == sysModules) = false ∧ kvs.length ≤ sizeLine ∧ NPhi w a kvs h
/-- the keys stand where they stood -/
def NKeys (K : PySem.W.Frag) (H : Hp) (kvs : List NEnt) : Prop := ∀ p ∈ kvs, Im K H p.1 (.ref p.2.1) ∧ (keyOf p.1).depth ≤ 8
def atNd (kvs : List NEnt) (d : PyData) : Option V := (kvs.find? fun p => decide (keyOf p.1 = keyOf d)).map (·.2.2)
theorem NKeys.tk {K : PySem.W.Frag} {H H' : Hp} {kvs : List NEnt} (h : NKeys K H kvs) (k : K1.TK K H H') : NKeys K H' kvs := fun p m => ⟨(h p m).1.tk k, (h p m).2⟩
theorem nrel_at : ∀ {kvs : List NEnt} {xs : List (NestedKey × Addr × Value)}, NRel kvs xs → ∀ d, RelO (atNd kvs d) ((atKey xs (keyOf d)).map (·.2))
  | _, _, .nil, d => True.intro
  | p :: ps, q :: qs, .cons r t, d => by
    have ih := nrel_at t d
    unfold atNd atKey at *
    rw [List.find?_cons, List.find?_cons]
    by_cases e : keyOf p.1 = keyOf d
    · rw [decide_eq_true e, decide_eq_true (r.1.trans e)]
      exact r.2.2
    · rw [decide_eq_false e, decide_eq_false (fun z => e (r.1.symm.trans z))]
      exact ih
section
variable {X : Cx} {pins : List (Addr × Obj)} {σ : L2.St} {H : Hp} {s : Shared} {a : Addr} {kvs : List NEnt}
theorem nd_of (I : L2.Inv X pins σ H s) (e : H a = some (nO X.w a kvs)) (hk : NKeys X.K H kvs) : (a == sysModules) = false ∧ kvs.length ≤ sizeLine ∧ ∃ xs, NRel kvs xs ∧ s.heap.DictOfH (nestedKind X.prog X.w) a xs := by
  obtain ⟨⟨h1, h2, xs, o, es, ep, r, ho, hx, hd, he, hn⟩, _⟩ := (show ObjOk X.prog X.w H s.heap a (nO X.w a kvs) from I.hok a _ e)
  refine ⟨h1, h2, xs, r, o, es, ep, ho, hx, hd, he, ?_, hn⟩
  have : ∀ {l : List NEnt} {m : List (NestedKey × Addr × Value)}, NRel l m → NKeys X.K H l → ∀ x ∈ m, (nestedKind X.prog X.w).is s.heap x.1 x.2.1 := by
    intro l m r
    induction r with
    | nil => intro _ x hx; cases hx
    | @cons p q ps qs hq t ih =>
      intro hk x hx
      rcases List.mem_cons.mp hx with hx | hx
      · subst hx
        have := hk p (List.mem_cons_self ..)
        rw [hq.1, hq.2.1]
        exact ⟨key_im I p.1 (.ref p.2.1) (.ref p.2.1) this.1 rfl, this.2⟩
      · exact ih (fun z m => hk z (List.mem_cons_of_mem _ m)) x hx
  exact this r hk
theorem units8 {A : Around} (h : A.units + 64 < cLine) : (nestedKind X.prog X.w).room A.in1 := by
  show A.in1.units + 8 < cLine
  rw [Around.in1_units]
  omega
end
/-- what is asked of a key -/
structure IsKey (K : PySem.W.Frag) (H : Hp) (d : PyData) (b : Addr) : Prop where
  im : Im K H d (.ref b)
  dp : (keyOf d).depth ≤ 8
def rNotN2 (K : PySem.W.Frag) (w : World) : R2 := fun x y H Q => ∃ b a kvs d, x = .ref b ∧ y = .ref a ∧ H a = some (nO w a kvs) ∧ NKeys K H kvs ∧ IsKey K H d b ∧ Q (.bl (!(atNd kvs d).isSome)) H
def rIxN2 (K : PySem.W.Frag) (w : World) : R2 := fun x y H Q => ∃ b a kvs d v, x = .ref a ∧ y = .ref b ∧ H a = some (nO w a kvs) ∧ NKeys K H kvs ∧ IsKey K H d b ∧ atNd kvs d = some v ∧ Q v H
def rSetN2 (K : PySem.W.Frag) (w : World) : TSet := fun o i v H Q => ∃ b a kvs d, o = .ref a ∧ i = .ref b ∧ H a = some (nO w a kvs) ∧ NKeys K H kvs ∧ IsKey K H d b ∧ atNd kvs d = none ∧ kvs.length < sizeLine ∧ Q (upd H a (nO w a (kvs ++ [(d, b, v)])))
def tNewN (w : World) : TE := fun _ H Q => ∀ p, H p = none → Q (.ref p) (upd H p (nO w p []))
section
variable {X : Cx}
theorem op_notN2 (hu : X.A.units + 64 < cLine) : OpR X (compareOp .NotIn) (rNotN2 X.K X.w) := by
  intro pins s σ H x y v u Q I rx ry h
  obtain ⟨b, a, kvs, d, rfl, rfl, e, hk, key, q⟩ := h
  cases (show v = Value.ref b from rx)
  cases (show u = Value.ref a from ry)
  obtain ⟨hd, hz, xs, r, dd⟩ := nd_of I e hk
  refine wpAny_notIn_heap (units8 hu) (k := keyOf d) ⟨key_im I d (.ref b) (.ref b) key.im rfl, key.dp⟩ hd dd ?_
  have z := (nrel_at r d).isSome_eq
  rw [Option.isSome_map] at z
  rw [← z]
  exact ⟨.bl _, H, I.tok _, rfl, q⟩
theorem ix_N2 (hu : X.A.units + 64 < cLine) : IxR X (rIxN2 X.K X.w) := by
  intro value slice pins s σ H x y v u Q I rx ry h hs
  obtain ⟨b, a, kvs, d, v', rfl, rfl, e, hk, key, hv, q⟩ := h
  obtain rfl : v = Value.ref a := rx
  cases (show u = Value.ref b from ry)
  obtain ⟨hd, hz, xs, r, dd⟩ := nd_of I e hk
  obtain ⟨w', hw, rw'⟩ := RelO.some_of (v := v') (o := (atKey xs (keyOf d)).map (·.2)) (by rw [← hv]; exact nrel_at r d)
  obtain ⟨p, hp, hp2⟩ := Option.map_eq_some_iff.mp hw
  refine tail_any dd.typeIs slot_dict_getitem.lookup (wpAny_getItem_heap (units8 hu) (k := keyOf d) ⟨key_im I d (.ref b) (.ref b) key.im rfl, key.dp⟩ dd hp ?_) hs
  rw [hp2]
  exact ⟨v', H, I.tok _, rw', q⟩
theorem set_N2 (hu : X.A.units + 64 < cLine) : PSet X (rSetN2 X.K X.w) := by
  intro pins s σ H o i v ov iv u Q I ro ri rv h
  obtain ⟨b, a, kvs, d, rfl, rfl, e, hk, key, hn, hz, q⟩ := h
  cases (show ov = Value.ref a from ro)
  cases (show iv = Value.ref b from ri)
  obtain ⟨hd, _, xs, r, dd⟩ := nd_of I e hk
  have hl : kvs.length = xs.length := Paired.length r
  have hnone : atKey xs (keyOf d) = none := by
    have z := (nrel_at r d).isSome_eq
    rw [hn, Option.isSome_map] at z
    cases h : atKey xs (keyOf d) with
    | none => rfl
    | some _ => rw [h] at z; cases z
  refine wpAny_setItem_heap (hsz := by omega) (units8 hu) (k := keyOf d) ⟨key_im I d (.ref b) (.ref b) key.im rfl, key.dp⟩ dd fun h' dd' hs => ?_
  rw [storedH_new hnone] at dd'
  obtain ⟨ob, es, ep, ho, hx, hdat, he, _, hnd⟩ := dd'
  refine ⟨_, d_write (ob := nO X.w a (kvs ++ [(d, b, v)])) I (by rw [e]; exact True.intro) hs ⟨ob, ho⟩ ⟨⟨hd, by rw [List.length_append]; exact hz, _, ob, es, ep, ?_, ho, hx, hdat, he, hnd⟩, ⟨ob, ho⟩, ?_⟩, q⟩
  · exact Paired.snoc r ⟨rfl, rfl, rv⟩
  · rintro h1 h2 ⟨g1, g2, xs', o', es', ep', g3, g4, g5⟩ k
    exact ⟨g1, g2, xs', o', es', ep', g3, k _ g4, g5⟩
theorem pe_newN {pos : Pos} : PE X (.Dict [] [] pos) (tNewN X.w) := ⟨fun pins s σ H Q I h => by
  refine wpAny_Dict_empty ⟨.ref s.heap.objs.size, _, I.laid (a := s.heap.objs.size) (o := nO X.w s.heap.objs.size []) (t' := s.toks) (fun _ _ q => Heap.get?_push_of_some _ q) (Nat.le_refl _) ?_, rfl, h _ (I.hok.fresh (Nat.le_refl _))⟩
  refine ⟨⟨beq_eq_false_iff_ne.mpr (Ne.symm (Nat.ne_of_lt I.big)), Nat.zero_le _, [], _, #[], 0, .nil, Heap.get?_push_size _ rfl, ⟨rfl, rfl, rfl⟩, rfl, rfl, List.nodup_nil⟩, ⟨_, Heap.get?_push_size _ rfl⟩, ?_⟩
  rintro h1 h2 ⟨g1, g2, xs', o', es', ep', g3, g4, g5⟩ k
  exact ⟨g1, g2, xs', o', es', ep', g3, k _ g4, g5⟩⟩
end
section
variable {X : Cx} (K : PySem.W.Frag) (w : World)
theorem op_notN2K (hu : X.A.units + 64 < cLine) (e : X.K = K := by rfl) (ew : X.w = w := by rfl) : OpR X (compareOp .NotIn) (rNotN2 K w) := by subst e; subst ew; exact op_notN2 hu
theorem ix_N2K (hu : X.A.units + 64 < cLine) (e : X.K = K := by rfl) (ew : X.w = w := by rfl) : IxR X (rIxN2 K w) := by subst e; subst ew; exact ix_N2 hu
theorem set_N2K (hu : X.A.units + 64 < cLine) (e : X.K = K := by rfl) (ew : X.w = w := by rfl) : PSet X (rSetN2 K w) := by subst e; subst ew; exact set_N2 hu
theorem pe_newNK {pos : Pos} (ew : X.w = w := by rfl) : PE X (.Dict [] [] pos) (tNewN w) := by subst ew; exact pe_newN
end
section
variable {K : PySem.W.Frag} {w : World} {H : Hp} {Q : VK} {σ : L2.St} {a b : Addr} {kvs : List NEnt} {d : PyData}
theorem s_newN (h : ∀ p H', H p = none → Same H H' → H' p = some (nO w p []) → Q (.ref p) H') : tNewN w σ H Q := fun p np => h p _ np (Same.new np) upd_same
theorem s_notN2 (e : H a = some (nO w a kvs)) (hk : NKeys K H kvs) (key : IsKey K H d b) (h : Q (.bl (!(atNd kvs d).isSome)) H) : rNotN2 K w (.ref b) (.ref a) H Q := ⟨b, a, kvs, d, rfl, rfl, e, hk, key, h⟩
theorem s_ixN2 {v : V} (e : H a = some (nO w a kvs)) (hk : NKeys K H kvs) (key : IsKey K H d b) (hv : atNd kvs d = some v) (h : Q v H) : rIxN2 K w (.ref a) (.ref b) H Q := ⟨b, a, kvs, d, v, rfl, rfl, e, hk, key, hv, h⟩
theorem s_setN2 {v : V} {F : Hp → Prop} (e : H a = some (nO w a kvs)) (hk : NKeys K H kvs) (key : IsKey K H d b) (hn : atNd kvs d = none) (hz : kvs.length < sizeLine) (h : ∀ H', But a H H' → H' a = some (nO w a (kvs ++ [(d, b, v)])) → F H') : rSetN2 K w (.ref a) (.ref b) v H F := ⟨b, a, kvs, d, rfl, rfl, e, hk, key, hn, hz, h _ But.upd upd_same⟩
end
end Z
namespace Z
open PySem PySem.Spec PyProof.Rows L2
/-! zip of two lists: a for, a comprehension -/
section
variable {K : PySem.W.Frag} {H : Hp} {Q : VK} {σ : L2.St} {r : VK} {n : L2.St → Hp → Prop}
theorem w_zipLL {g : TG} {tb : TS} {a b : Addr} {xs ys : List V} (Pv : Nat → L2.St → Hp → Prop) (hlen : xs.length = ys.length) (h0 : Pv 0 σ H) (hl : ∀ i σ H, Pv i σ H → SqL K H a xs ∧ SqL K H b ys)
    (hs : ∀ i x y σ H T H', xs[i]? = some x → ys[i]? = some y → Pv i σ H → H T = none → Same H H' → H' T = some (.tup [x, y]) → g (.ref T) σ H' fun σ2 H2 => tb ⟨Pv (i + 1), r, n, Pv (i + 1)⟩ σ2 H2) (hd : ∀ σ H, Pv xs.length σ H → n σ H) : ForW g tb r n (Itz K a b) σ H := by
  refine ⟨fun i m σ H => m = xs.length - i ∧ i ≤ xs.length ∧ Pv i σ H, ⟨xs.length, by simp, Nat.zero_le _, h0⟩, ?_⟩
  rintro i m σ H ⟨rfl, hi, p⟩
  obtain ⟨qx, qy⟩ := hl i σ H p
  by_cases hlt : i < xs.length
  · have e1 : xs[i]? = some xs[i] := List.getElem?_eq_getElem hlt
    have hlt2 : i < ys.length := by omega
    have e2 : ys[i]? = some ys[i] := List.getElem?_eq_getElem hlt2
    refine .inr ⟨⟨xs, ys, _, _, qx, qy, e1, e2⟩, Pv (i + 1), fun σ' H' p' => ⟨xs.length - (i + 1), by omega, rfl, hlt, p'⟩, fun v H' y => ?_⟩
    obtain ⟨T, x', y', rfl, hT, rfl, f1, f2⟩ := y
    exact hs i x' y' σ H T _ (f1 xs qx) (f2 ys qy) p hT (Same.new hT) upd_same
  · have e : i = xs.length := by omega
    subst e
    exact .inl ⟨⟨xs, ys, qx, qy, Or.inl (Nat.le_refl _)⟩, hd σ H p⟩
theorem l_zipLL {g : TG} {tt : TT} {te : TE} {vs : List Nat} {a b : Addr} {xs ys : List V} (Pv : Addr → Nat → Hp → Prop) (hlen : xs.length = ys.length) (h0 : ∀ D H', H D = none → Same H H' → H' D = some (.lst []) → Pv D 0 H') (hl : ∀ D i H, Pv D i H → SqL K H a xs ∧ SqL K H b ys)
    (hs : ∀ D i x y H T H', xs[i]? = some x → ys[i]? = some y → Pv D i H → H T = none → Same H H' → H' T = some (.tup [x, y]) → g (.ref T) (wipe σ vs) H' fun σ2 H2 => wipe σ2 vs = wipe σ vs ∧ tt σ2 H2 fun b H3 => if b = true then te σ2 H3 fun y H4 => LcEnd D (Pv D (i + 1)) y H4 else Pv D (i + 1) H3)
    (hd : ∀ D H, Pv D xs.length H → Q (.ref D) H) : LcW g tt te vs Q σ (Itz K a b) H := by
  intro D nD
  refine ⟨fun i m H' => m = xs.length - i ∧ i ≤ xs.length ∧ Pv D i H', ⟨_, rfl, Nat.zero_le _, h0 D _ nD (Same.new nD) upd_same⟩, ?_⟩
  rintro i m H' ⟨rfl, hi, p⟩
  obtain ⟨qx, qy⟩ := hl D i H' p
  by_cases hlt : i < xs.length
  · have e1 : xs[i]? = some xs[i] := List.getElem?_eq_getElem hlt
    have hlt2 : i < ys.length := by omega
    have e2 : ys[i]? = some ys[i] := List.getElem?_eq_getElem hlt2
    refine .inr ⟨⟨xs, ys, _, _, qx, qy, e1, e2⟩, Pv D (i + 1), fun H'' p' => ⟨xs.length - (i + 1), by omega, rfl, hlt, p'⟩, fun v H'' y => ?_⟩
    obtain ⟨T, x', y', rfl, hT, rfl, f1, f2⟩ := y
    exact hs D i x' y' H' T _ (f1 xs qx) (f2 ys qy) p hT (Same.new hT) upd_same
  · have e : i = xs.length := by omega
    subst e
    exact .inl ⟨⟨xs, ys, qx, qy, Or.inl (Nat.le_refl _)⟩, hd D H' p⟩
end
end Z
section
open PySem PySem.Spec PyProof.Rows L2 Z
local macro_rules | `(tactic| ktr_room) => `(tactic| first
  | assumption
  | (apply SqT.of; assumption)
  | (apply SqL.of; assumption)
  | (apply sqt_same; assumption; ktr_room)
  | (apply sql_same; assumption; ktr_room)
  | (apply sqt_but; assumption; assumption; ktr_room)
  | (apply sql_but; assumption; assumption; ktr_room)
  | (apply Same.of_; assumption; ktr_room)
  | (apply But.of_; assumption; assumption; ktr_room)
  | exact same_refl
  | exact but_refl
  | (apply same_tr; assumption; ktr_room)
  | (apply same_but; assumption; ktr_room; assumption)
  | (apply but_tr; assumption; ktr_room)
  | (apply but_trB; assumption; ktr_room))
local macro_rules | `(tactic| ktr_units) => `(tactic| first | with_reducible assumption | omega | rfl | exact ⟨by omega, by omega⟩ | exact .inl ⟨by omega, by omega⟩ | exact .inr ⟨by omega, by omega⟩ | exact ⟨by decide, by decide, by decide⟩ | exact Nat.le_of_ble_eq_true rfl | decide)
local macro_rules | `(tactic| kc_close) => `(tactic| repeat (with_reducible first
  | refine s_var (by with_unfolding_all rfl) ?_
  | refine s_c ?_
  | refine s_op ?_
  | refine s_rI0 ?_
  | refine s_asg ?_
  | refine s_gname ?_
  | refine s_seq ?_
  | refine s_cons ?_
  | refine s_nil ?_
  | refine s_call ?_
  | refine s_ret ?_
  | o_fieldsN
  | refine s_test ?_
  | refine s_bl ?_
  | refine s_rI (by with_unfolding_all (ktr_units)) ?_
  | refine s_rEq rfl ?_
  | refine s_rNe rfl ?_
  | refine s_cb ?_
  | refine s_int1 ?_
  | refine s_intB ?_
  | refine s_max2 ?_
  | refine s_min2 ?_
  | refine s_tup ?_
  | refine s_lst ?_
  | refine s_newT (by with_unfolding_all first | decide | exact Nat.le_of_ble_eq_true rfl) ?_
  | refine s_newL (by with_unfolding_all first | decide | exact Nat.le_of_ble_eq_true rfl) ?_
  | refine s_ixT (by ktr_room) (by with_unfolding_all rfl) ?_
  | refine s_ixL (by ktr_room) (by with_unfolding_all rfl) ?_
  | refine s_lenT (by ktr_room) ?_
  | refine s_lenL (by ktr_room) ?_
  | refine s_un ?_
  | refine s_rU ?_
  | refine s_and ?_
  | refine s_or ?_
  | refine s_not ?_
  | refine s_tB ?_
  | refine s_tru ?_
  | refine s_drop ?_
  | refine s_next ?_
  | refine s_for ?_
  | refine s_rng1 ?_
  | refine s_rng2 ?_
  | refine s_rng3 ?_
  | refine s_ilist ?_
  | refine s_itup ?_
  | refine s_iany ?_
  | refine s_ienum ?_
  | refine s_irev ?_
  | refine s_gcons ?_
  | refine s_gnil ?_
  | refine s_gtup (by ktr_room) (by with_unfolding_all rfl) ?_
  | refine s_gsub ?_
  | refine s_augS ?_
  | refine s_aug (by with_unfolding_all rfl) ?_
  | refine s_ipI ?_
  | refine s_bm ?_
  | refine s_bm0 ?_
  | refine s_tyL (by ktr_room) ?_
  | refine s_tyL0 (by ktr_room) ?_
  | refine s_sl ?_
  | refine s_part ?_
  | refine s_partv ?_
  | refine s_noPart ?_
  | refine s_lc ?_
  | refine s_yes ?_
  | refine s_wipe (by with_unfolding_all rfl) ?_
  | refine iteT ?_
  | refine s_retN ?_
  | refine s_isN ?_
  | refine s_truB ?_
  | refine s_isB2 ?_
  | refine s_notB2 ?_
  | refine s_revT ?_
  | refine s_andV ?_
  | refine s_orV ?_
  | refine s_ifE ?_
  | refine s_notK ?_
  | refine s_notN ?_
  | refine s_truL (by ktr_room) ?_
  | refine s_truT (by ktr_room) ?_))
namespace K1
def topS (i : Nat) : Stmt := PySem.Challenge.pw_sortes_k31_sizes_and_outcomes.main.body.getD i (.Pass ⟨0, 0, 0, 0⟩)
structure NoB (mg : Str → Option Value) : Prop where
  n_all : mg "all" = none
  n_any : mg "any" = none
  n_bool : mg "bool" = none
  n_enumerate : mg "enumerate" = none
  n_int : mg "int" = none
  n_isinstance : mg "isinstance" = none
  n_len : mg "len" = none
  n_list : mg "list" = none
  n_max : mg "max" = none
  n_min : mg "min" = none
  n_range : mg "range" = none
  n_reversed : mg "reversed" = none
  n_sorted : mg "sorted" = none
  n_str : mg "str" = none
  n_sum : mg "sum" = none
  n_tuple : mg "tuple" = none
  n_zip : mg "zip" = none
  c_comb : mg "comb" = some (.builtin "math.comb")
  c_lcm : mg "lcm" = some (.builtin "math.lcm")
structure Gs (K : PySem.W.Frag) (mg : Str → Option Value) : Prop where
  g_GREATEST_SIZE : ∃ u, mg "GREATEST_SIZE" = some u ∧ RelV (.int 1000000000000) u
end K1
end
section
open PySem PySem.Spec PyProof.Rows L2 Z
local macro_rules | `(tactic| ktr_room) => `(tactic| first
  | assumption
  | (apply SqT.of; assumption)
  | (apply SqL.of; assumption)
  | (apply sqt_same; assumption; ktr_room)
  | (apply sql_same; assumption; ktr_room)
  | (apply sqt_but; assumption; assumption; ktr_room)
  | (apply sql_but; assumption; assumption; ktr_room)
  | (apply Same.of_; assumption; ktr_room)
  | (apply But.of_; assumption; assumption; ktr_room)
  | exact same_refl
  | exact but_refl
  | (apply same_tr; assumption; ktr_room)
  | (apply same_but; assumption; ktr_room; assumption)
  | (apply but_tr; assumption; ktr_room)
  | (apply but_trB; assumption; ktr_room))
local macro_rules | `(tactic| ktr_units) => `(tactic| first | with_reducible assumption | omega | rfl | exact ⟨by omega, by omega⟩ | exact .inl ⟨by omega, by omega⟩ | exact .inr ⟨by omega, by omega⟩ | exact ⟨by decide, by decide, by decide⟩ | exact Nat.le_of_ble_eq_true rfl | decide)
local macro_rules | `(tactic| kc_close) => `(tactic| repeat (with_reducible first
  | refine s_var (by with_unfolding_all rfl) ?_
  | refine s_c ?_
  | refine s_op ?_
  | refine s_rI0 ?_
  | refine s_asg ?_
  | refine s_gname ?_
  | refine s_seq ?_
  | refine s_cons ?_
  | refine s_nil ?_
  | refine s_call ?_
  | refine s_ret ?_
  | o_fieldsN
  | refine s_test ?_
  | refine s_bl ?_
  | refine s_rI (by with_unfolding_all (ktr_units)) ?_
  | refine s_rEq rfl ?_
  | refine s_rNe rfl ?_
  | refine s_cb ?_
  | refine s_int1 ?_
  | refine s_intB ?_
  | refine s_max2 ?_
  | refine s_min2 ?_
  | refine s_tup ?_
  | refine s_lst ?_
  | refine s_newT (by with_unfolding_all first | decide | exact Nat.le_of_ble_eq_true rfl) ?_
  | refine s_newL (by with_unfolding_all first | decide | exact Nat.le_of_ble_eq_true rfl) ?_
  | refine s_ixT (by ktr_room) (by with_unfolding_all rfl) ?_
  | refine s_ixL (by ktr_room) (by with_unfolding_all rfl) ?_
  | refine s_lenT (by ktr_room) ?_
  | refine s_lenL (by ktr_room) ?_
  | refine s_un ?_
  | refine s_rU ?_
  | refine s_and ?_
  | refine s_or ?_
  | refine s_not ?_
  | refine s_tB ?_
  | refine s_tru ?_
  | refine s_drop ?_
  | refine s_next ?_
  | refine s_for ?_
  | refine s_rng1 ?_
  | refine s_rng2 ?_
  | refine s_rng3 ?_
  | refine s_ilist ?_
  | refine s_itup ?_
  | refine s_iany ?_
  | refine s_ienum ?_
  | refine s_irev ?_
  | refine s_gcons ?_
  | refine s_gnil ?_
  | refine s_gtup (by ktr_room) (by with_unfolding_all rfl) ?_
  | refine s_gsub ?_
  | refine s_augS ?_
  | refine s_aug (by with_unfolding_all rfl) ?_
  | refine s_ipI ?_
  | refine s_bm ?_
  | refine s_bm0 ?_
  | refine s_tyL (by ktr_room) ?_
  | refine s_tyL0 (by ktr_room) ?_
  | refine s_sl ?_
  | refine s_part ?_
  | refine s_partv ?_
  | refine s_noPart ?_
  | refine s_lc ?_
  | refine s_yes ?_
  | refine s_wipe (by with_unfolding_all rfl) ?_
  | refine iteT ?_
  | refine s_retN ?_
  | refine s_isN ?_
  | refine s_truB ?_
  | refine s_isB2 ?_
  | refine s_notB2 ?_
  | refine s_revT ?_
  | refine s_andV ?_
  | refine s_orV ?_
  | refine s_ifE ?_
  | refine s_notK ?_
  | refine s_notN ?_
  | refine s_truL (by ktr_room) ?_
  | refine s_truT (by ktr_room) ?_))
open K1
local macro_rules | `(tactic| ktr_room) => `(tactic| first
  | (apply DR.same; assumption; ktr_room)
  | (apply sqt_butD; assumption; ktr_room; ktr_room))
namespace K1
section
variable {P : Program} {w : World} {K : PySem.W.Frag} {mg : Str → Option Value} {base : Heap}
/-- the store of draws at c: the script's numbers at L, the next one's place, what is left of the last, how many there were, one more -/
def DRX (H : Hp) (c L : Addr) (x : Int) : Prop := ∃ (ns : List Int) (i r n : Int), H c = some (.lst [.ref L, .int i, .int r, .int n, .int x]) ∧ H L = some (.lst (ns.map V.int)) ∧ L ≠ c ∧ 0 ≤ i
theorem DRX.same {H H' : Hp} {c L : Addr} {x : Int} (s : Same H H') (h : DRX H c L x) : DRX H' c L x := by
  obtain ⟨ns, i, r, n, e, hL, ne, h0⟩ := h
  exact ⟨ns, i, r, n, s _ _ e, s _ _ hL, ne, h0⟩
theorem DRX.but {H H' : Hp} {c L D : Addr} {x : Int} (b : But D H H') (h : DRX H c L x) (n1 : D ≠ c) (n2 : D ≠ L) : DRX H' c L x := by
  obtain ⟨ns, i, r, n, e, hL, ne, h0⟩ := h
  exact ⟨ns, i, r, n, b _ _ (Ne.symm n1) e, b _ _ (Ne.symm n2) hL, ne, h0⟩
theorem DRX.ne {H : Hp} {c L D : Addr} {x : Int} (d : DRX H c L x) (n : H D = none) : D ≠ c := by
  obtain ⟨ns, i, r, m, e, _⟩ := d
  intro z
  subst z
  rw [e] at n
  cases n
theorem DRX.neL {H : Hp} {c L D : Addr} {x : Int} (d : DRX H c L x) (n : H D = none) : D ≠ L := by
  obtain ⟨ns, i, r, m, _, e, _⟩ := d
  intro z
  subst z
  rw [e] at n
  cases n
/-- the same, whatever its last item is -/
def DR (H : Hp) (c L : Addr) : Prop := ∃ x, DRX H c L x
theorem DR.same {H H' : Hp} {c L : Addr} (s : Same H H') (h : DR H c L) : DR H' c L := h.elim fun x h => ⟨x, h.same s⟩
theorem DR.but {H H' : Hp} {c L D : Addr} (b : But D H H') (h : DR H c L) (n1 : D ≠ c) (n2 : D ≠ L) : DR H' c L := h.elim fun x h => ⟨x, h.but b n1 n2⟩
theorem DR.ne {H : Hp} {c L D : Addr} (d : DR H c L) (n : H D = none) : D ≠ c := d.elim fun _ d => d.ne n
theorem DR.neL {H : Hp} {c L D : Addr} (d : DR H c L) (n : H D = none) : D ≠ L := d.elim fun _ d => d.neL n
def spFill : Sp := fun vs H Q _ => ∃ c : Addr, vs = [.ref c] ∧ ∃ L x, DRX H c L x ∧ ∀ H' v, But c H H' → DRX H' c L x → Q (.int v) H'
def spTake : Sp := fun vs H Q _ => ∃ (c : Addr) (m : Int), vs = [.ref c, .int m] ∧ ∃ L x, DRX H c L x ∧ 0 < m ∧ m < 1073741824 ∧ ∀ H' d, But c H H' → DRX H' c L x → 0 ≤ d → d < m → Q (.int d) H'
theorem ok__law_fill (T : NoB mg) (h : Has K mg "_law_fill" (topS 27) ["c"]) : Good P w K mg base 1 "_law_fill" ["c"] (spFill) := by
  have sc : FnScope ["c", "number"] ["c"] (defScope (topS 27)) := ⟨rfl, rfl, rfl, by decide +kernel, rfl, by decide +kernel, by decide +kernel⟩
  have nd := sc.nd
  refine h.good sc (fun vs H Q E h => by obtain ⟨c, rfl, _⟩ := h; rfl) (fun f cdv A outer s H vs Q E hr h => ?_)
  obtain ⟨c, rfl, hyp⟩ := h
  refine ⟨_, (pss_cons (ps_asg (pe_op op_add (pe_ix (ix_listK K) (pv 0) pe_int (fun _ _ => rfl)) pe_int) (pg_sub (pv 0) pe_int set_list))
  (pss_cons (ps_set (i := 1) nd rfl (by first | exact .inl rfl | exact .inr rfl) (pe_op op_add (pe_op op_mul (pe_ix (ix_listK K) (pv 0) pe_int (fun _ _ => rfl)) pe_int) pe_int))
  (pss_cons (ps_if (pt_cmpR op_lt (pe_ix (ix_listK K) (pv 0) pe_int (fun _ _ => rfl)) (pe_callB (c_lenK K) (by rfl) T.n_len (by decide +kernel) (pa_cons (pe_ix (ix_listK K) (pv 0) pe_int (fun _ _ => rfl)) pa_nil)) (nomark _))
  (pss_cons (ps_set (i := 1) nd rfl (by first | exact .inl rfl | exact .inr rfl) (pe_ix (ix_listK K) (pe_ix (ix_listK K) (pv 0) pe_int (fun _ _ => rfl)) (pe_ix (ix_listK K) (pv 0) pe_int (fun _ _ => rfl)) (fun _ _ => rfl)))
  (pss_cons (ps_asg (pe_op op_add (pe_ix (ix_listK K) (pv 0) pe_int (fun _ _ => rfl)) pe_int) (pg_sub (pv 0) pe_int set_list))
  (pss_cons (ps_if (pt_cmpR op_lt (pv 1) pe_int (nomark _))
  (pss_one (ps_set (i := 1) nd rfl (by first | exact .inl rfl | exact .inr rfl) (pe_op op_sub (pe_op op_sub pe_int pe_int) (pv 1)))) pss_nil)
  (pss_one (ps_if (pt_cmpR op_ge (pv 1) (pe_op op_pow pe_int pe_int) (nomark _))
  (pss_one (ps_ret (pv 1))) pss_nil))))) pss_nil)
  (pss_cons (ps_if (PW.pt (pw_and (pt_truK K (pe_ix (ix_listK K) (pv 0) pe_int (fun _ _ => rfl)) (by intro _; rfl)) (pw_and1 (pt_cmpR op_ge (pe_ix (ix_listK K) (pv 0) pe_int (fun _ _ => rfl)) (pe_callB (c_lenK K) (by rfl) T.n_len (by decide +kernel) (pa_cons (pe_ix (ix_listK K) (pv 0) pe_int (fun _ _ => rfl)) pa_nil)) (nomark _)))))
  (pss_one (ps_set (i := 1) nd rfl (by first | exact .inl rfl | exact .inr rfl) (pe_op op_add (pv 1) (pe_op op_mod (pe_callTy c_int1 (by rfl) T.n_int (by decide +kernel) (pa_cons (pe_ix (ix_listK K) (pe_ix (ix_listK K) (pv 0) pe_int (fun _ _ => rfl)) (pe_un un_neg pe_int) (fun _ _ => rfl)) pa_nil)) pe_int)))) pss_nil)
  (pss_cons (ps_set (i := 1) nd rfl (by first | exact .inl rfl | exact .inr rfl) (pe_op op_mod (pe_callTy c_int1 (by rfl) T.n_int (by decide +kernel) (pa_cons (pe_op op_add (pe_op op_mul (pv 1) pe_int) (pe_op op_mul (pe_ix (ix_listK K) (pv 0) pe_int (fun _ _ => rfl)) pe_int)) pa_nil)) pe_int))
  (pss_one (ps_ret (pe_op op_add (pe_op op_mod (pe_callTy c_int1 (by rfl) T.n_int (by decide +kernel) (pa_cons (pe_op op_add (pe_op op_add (pe_op op_mul (pv 1) (pv 1)) (pe_op op_mul (pe_ix (ix_listK K) (pv 0) pe_int (fun _ _ => rfl)) pe_int)) pe_int) pa_nil)) pe_int) pe_int)))))))), ?_⟩
  try dsimp only [cxOf, Cx.wish]
  obtain ⟨L, x, ⟨ns, i, r, n, ec, hL, nL, h0⟩, q⟩ := hyp
  kc_close
  refine s_setL ec rfl fun H1 b1 e1 => ?_
  have hL1 : H1 L = some (.lst (ns.map V.int)) := b1 _ _ nL hL
  have kL : IsL K H L ns := SqL.of hL
  have kL1 : IsL K H1 L ns := SqL.of hL1
  kc_close
  refine s_cut (fun σ' H' => ∃ (v i' r' n' : Int), σ' = [some (.ref c), some (.int v)] ∧ But c H H' ∧ H' c = some (.lst [.ref L, .int i', .int r', .int n', .int x]) ∧ H' L = some (.lst (ns.map V.int)) ∧ 0 ≤ i') (fun N hN => ?_) ?_
  · refine s_if ?_
    kc_close
    refine ifP (fun hi => ?_) (fun hi => ?_)
    · rw [List.length_map] at hi
      kc_close
      refine s_ixL kL1 (at_nat h0 hi) ?_
      kc_close
      refine s_setL e1 rfl fun H2 b2 e2 => ?_
      have hL2 : H2 L = some (.lst (ns.map V.int)) := b2 _ _ nL hL1
      have kL2 : IsL K H2 L ns := SqL.of hL2
      have fin : ∀ v : Int, N [some (.ref c), some (.int v)] H2 := fun v => hN _ _ ⟨v, _, _, _, rfl, b1.trans b2, e2, hL2, by omega⟩
      kc_close
      refine s_cut (fun σ' H' => ∃ v : Int, σ' = [some (.ref c), some (.int v)] ∧ H' = H2) (fun N' hN' => ?_) ?_
      · refine s_if ?_
        kc_close
        refine ifP (fun _ => ?_) (fun _ => ?_)
        · kc_close
          exact hN' _ _ ⟨_, rfl, rfl⟩
        · kc_close
          exact hN' _ _ ⟨_, rfl, rfl⟩
      · rintro _ _ ⟨v, rfl, rfl⟩
        kc_close
        refine s_if ?_
        kc_close
        refine ifP (fun _ => ?_) (fun _ => ?_)
        · kc_close
          exact q _ _ (b1.trans b2) ⟨ns, _, _, _, e2, hL2, nL, by omega⟩
        · kc_close
          exact fin v
    · kc_close
      exact hN _ _ ⟨_, _, _, _, rfl, b1, e1, hL1, h0⟩
  rintro _ H2 ⟨v, i', r', n', rfl, b2, e2, hL2, h2⟩
  have kL2 : IsL K H2 L ns := SqL.of hL2
  kc_close
  refine s_cut (fun σ' H' => ∃ v : Int, σ' = [some (.ref c), some (.int v)] ∧ H' = H2) (fun N' hN' => ?_) ?_
  · refine s_if ?_
    kc_close
    by_cases hn : ns = []
    · refine ifFalse (by rw [hn]; rfl) (iteF ?_)
      kc_close
      exact hN' _ _ ⟨_, rfl, rfl⟩
    · obtain ⟨z, ez⟩ := at_end hn
      refine ifTrue (by cases ns with | nil => exact absurd rfl hn | cons _ _ => rfl) ?_
      kc_close
      refine ifP (fun _ => ?_) (fun _ => ?_)
      · kc_close
        refine s_ixL kL2 ez ?_
        kc_close
        exact hN' _ _ ⟨_, rfl, rfl⟩
      · kc_close
        exact hN' _ _ ⟨_, rfl, rfl⟩
  rintro _ _ ⟨v2, rfl, rfl⟩
  kc_close
  exact q _ _ b2 ⟨ns, _, _, _, e2, hL2, nL, h2⟩
theorem ok__law_take (T : NoB mg) (h : Has K mg "_law_take" (topS 28) ["c", "many"]) (G__law_fill : Good P w K mg base 1 "_law_fill" ["c"] (spFill)) : Good P w K mg base 2 "_law_take" ["c", "many"] (spTake) := by
  have sc : FnScope ["c", "many", "digit"] ["c", "many"] (defScope (topS 28)) := ⟨rfl, rfl, rfl, by decide +kernel, rfl, by decide +kernel, by decide +kernel⟩
  have nd := sc.nd
  refine h.good sc (fun vs H Q E h => by obtain ⟨c, m, rfl, _⟩ := h; rfl) (fun f cdv A outer s H vs Q E hr h => ?_)
  obtain ⟨c, m, rfl, hyp⟩ := h
  refine ⟨_, (pss_cons (ps_if (pt_cmpR op_lt (pe_ix (ix_listK K) (pv 0) pe_int (fun _ _ => rfl)) (pv 1) (nomark _))
  (pss_one (ps_asg (pe_callG G__law_fill (hr.mono (by first | decide | omega)) (by rfl) (pa_cons (pv 0) pa_nil)) (pg_sub (pv 0) pe_int set_list))) pss_nil)
  (pss_cons (ps_set (i := 2) nd rfl (by first | exact .inl rfl | exact .inr rfl) (pe_op op_mod (pe_callTy c_int1 (by rfl) T.n_int (by decide +kernel) (pa_cons (pe_ix (ix_listK K) (pv 0) pe_int (fun _ _ => rfl)) pa_nil)) (pv 1)))
  (pss_cons (ps_asg (pe_op op_fdiv (pe_ix (ix_listK K) (pv 0) pe_int (fun _ _ => rfl)) (pv 1)) (pg_sub (pv 0) pe_int set_list))
  (pss_one (ps_ret (pv 2)))))), ?_⟩
  try dsimp only [cxOf, Cx.wish]
  obtain ⟨L, x, ⟨ns, i, r, n, ec, hL, nL, h0⟩, hm, hm2, q⟩ := hyp
  have hL' : IsL K H L ns := SqL.of hL
  kc_close
  refine s_cut (fun σ' H' => ∃ (i' r' n' : Int) (ns : List Int), σ' = [some (.ref c), some (.int m), none] ∧ But c H H' ∧ H' c = some (.lst [.ref L, .int i', .int r', .int n', .int x]) ∧ H' L = some (.lst (ns.map V.int)) ∧ 0 ≤ i') (fun N hN => ?_) ?_
  · refine s_if ?_
    kc_close
    refine ifP (fun _ => ?_) (fun _ => ?_)
    · kc_close
      refine ⟨c, rfl, L, x, ⟨ns, i, r, n, ec, hL, nL, h0⟩, fun H1 v b1 d1 => ?_⟩
      obtain ⟨ns1, i1, r1, n1, e1, hL1, nL1, h1⟩ := d1
      kc_close
      refine s_setL e1 rfl fun H2 b2 e2 => ?_
      exact hN _ _ ⟨_, _, _, ns1, rfl, b1.trans b2, e2, b2 _ _ nL1 hL1, h1⟩
    · kc_close
      exact hN _ _ ⟨_, _, _, ns, rfl, But.refl c H, ec, hL, h0⟩
  rintro _ H1 ⟨i1, r1, n1, ns1, rfl, b1, e1, hL1, h1⟩
  kc_close
  refine s_setL e1 rfl fun H2 b2 e2 => ?_
  kc_close
  exact q _ _ (b1.trans b2) ⟨ns1, _, _, _, e2, b2 _ _ nL hL1, nL, h1⟩ (Int.emod_nonneg _ (by omega)) (Int.emod_lt_of_pos _ hm)
def spStart (K : PySem.W.Frag) : Sp := fun vs H Q _ => ∃ s : Addr, vs = [.ref s] ∧ (∃ ns : List Int, IsL K H s ns ∧ ns.length ≤ 63) ∧ ∀ H' c L, Same H H' → DRX H' c L 20 → Q (.ref c) H'
theorem ok__law_start (T : NoB mg) (h : Has K mg "_law_start" (topS 26) ["script"]) : Good P w K mg base 1 "_law_start" ["script"] (spStart K) := by
  have sc : FnScope ["script", "cell"] ["script"] (defScope (topS 26)) := ⟨rfl, rfl, rfl, by decide +kernel, rfl, by decide +kernel, by decide +kernel⟩
  have nd := sc.nd
  refine h.good sc (fun vs H Q E h => by obtain ⟨s0, rfl, _⟩ := h; rfl) (fun f cdv A outer s H vs Q E hr h => ?_)
  obtain ⟨s0, rfl, hyp⟩ := h
  refine ⟨_, (pss_one (ps_ret (pe_lst (pa_cons (pe_lc (own := [("cell", 1)]) rfl nd (pi_listK K (pe_slice (sl_listK K) (pv 0) po_none (po_some pe_int))) (blkOk_by (own := [("cell", 1)]) (N := ["script", "cell"]) (by kernel_rfl)) (fun _ _ _ _ _ => (pg_name (i := 1) nd rfl (by first | exact .inl rfl | exact .inr rfl))) (fun _ _ _ _ _ => pts_nil) (fun _ _ _ _ _ => (pe_callTy c_int1 (by rfl) T.n_int (by decide +kernel) (pa_cons (pv 1) pa_nil)))) (pa_cons pe_int (pa_cons pe_int (pa_cons pe_int (pa_cons pe_int pa_nil)))))))), ?_⟩
  try dsimp only [cxOf, Cx.wish]
  obtain ⟨⟨ns, hs, hz⟩, q⟩ := hyp
  kc_close
  refine s_slL hs fun z H1 nz s1 e1 => ?_
  rw [show (some 63 : Option Int) = some ((63 : Nat) : Int) from rfl, cut_to, ← List.map_take] at e1
  refine s_ilistv (SqL.of e1) (l_mapL (fun i => V.int ((ns.take 63).getD i 0)) (SqL.of e1) (by rw [List.length_map, List.length_take]; omega) ?_ ?_)
  · intro D N i x H' e sm k
    obtain ⟨rfl, hi⟩ := item_int e
    kc_close
    exact k _ (Same.refl _)
  intro D H2 nD s2 eD
  rw [List.length_map, range_map (fun x => x)] at eD
  kc_close
  intro c H3 nc s3 ec
  have nD3 : D ≠ c := by
    intro z
    subst z
    rw [eD] at nc
    cases nc
  exact q H3 c D ((s1.trans s2).trans s3) ⟨_, 0, 0, 0, ec, s3 _ _ eD, nD3, Int.le_refl _⟩
end
end K1
end
section
open PySem PySem.Spec PyProof.Rows L2 Z
local macro_rules | `(tactic| ktr_room) => `(tactic| first
  | assumption
  | (apply SqT.of; assumption)
  | (apply SqL.of; assumption)
  | (apply sqt_same; assumption; ktr_room)
  | (apply sql_same; assumption; ktr_room)
  | (apply sqt_but; assumption; assumption; ktr_room)
  | (apply sql_but; assumption; assumption; ktr_room)
  | (apply Same.of_; assumption; ktr_room)
  | (apply But.of_; assumption; assumption; ktr_room)
  | exact same_refl
  | exact but_refl
  | (apply same_tr; assumption; ktr_room)
  | (apply same_but; assumption; ktr_room; assumption)
  | (apply but_tr; assumption; ktr_room)
  | (apply but_trB; assumption; ktr_room))
local macro_rules | `(tactic| ktr_units) => `(tactic| first | with_reducible assumption | omega | rfl | exact ⟨by omega, by omega⟩ | exact .inl ⟨by omega, by omega⟩ | exact .inr ⟨by omega, by omega⟩ | exact ⟨by decide, by decide, by decide⟩ | exact Nat.le_of_ble_eq_true rfl | decide)
local macro_rules | `(tactic| kc_close) => `(tactic| repeat (with_reducible first
  | refine s_var (by with_unfolding_all rfl) ?_
  | refine s_c ?_
  | refine s_op ?_
  | refine s_rI0 ?_
  | refine s_asg ?_
  | refine s_gname ?_
  | refine s_seq ?_
  | refine s_cons ?_
  | refine s_nil ?_
  | refine s_call ?_
  | refine s_ret ?_
  | o_fieldsN
  | refine s_test ?_
  | refine s_bl ?_
  | refine s_rI (by with_unfolding_all (ktr_units)) ?_
  | refine s_rEq rfl ?_
  | refine s_rNe rfl ?_
  | refine s_cb ?_
  | refine s_int1 ?_
  | refine s_intB ?_
  | refine s_max2 ?_
  | refine s_min2 ?_
  | refine s_tup ?_
  | refine s_lst ?_
  | refine s_newT (by with_unfolding_all first | decide | exact Nat.le_of_ble_eq_true rfl) ?_
  | refine s_newL (by with_unfolding_all first | decide | exact Nat.le_of_ble_eq_true rfl) ?_
  | refine s_ixT (by ktr_room) (by with_unfolding_all rfl) ?_
  | refine s_ixL (by ktr_room) (by with_unfolding_all rfl) ?_
  | refine s_lenT (by ktr_room) ?_
  | refine s_lenL (by ktr_room) ?_
  | refine s_un ?_
  | refine s_rU ?_
  | refine s_and ?_
  | refine s_or ?_
  | refine s_not ?_
  | refine s_tB ?_
  | refine s_tru ?_
  | refine s_drop ?_
  | refine s_next ?_
  | refine s_for ?_
  | refine s_rng1 ?_
  | refine s_rng2 ?_
  | refine s_rng3 ?_
  | refine s_ilist ?_
  | refine s_itup ?_
  | refine s_iany ?_
  | refine s_ienum ?_
  | refine s_irev ?_
  | refine s_gcons ?_
  | refine s_gnil ?_
  | refine s_gtup (by ktr_room) (by with_unfolding_all rfl) ?_
  | refine s_gsub ?_
  | refine s_augS ?_
  | refine s_aug (by with_unfolding_all rfl) ?_
  | refine s_ipI ?_
  | refine s_bm ?_
  | refine s_bm0 ?_
  | refine s_tyL (by ktr_room) ?_
  | refine s_tyL0 (by ktr_room) ?_
  | refine s_sl ?_
  | refine s_part ?_
  | refine s_partv ?_
  | refine s_noPart ?_
  | refine s_lc ?_
  | refine s_yes ?_
  | refine s_wipe (by with_unfolding_all rfl) ?_
  | refine iteT ?_
  | refine s_retN ?_
  | refine s_isN ?_
  | refine s_truB ?_
  | refine s_isB2 ?_
  | refine s_notB2 ?_
  | refine s_revT ?_
  | refine s_andV ?_
  | refine s_orV ?_
  | refine s_ifE ?_
  | refine s_notK ?_
  | refine s_notN ?_
  | refine s_truL (by ktr_room) ?_
  | refine s_truT (by ktr_room) ?_))
open K1
local macro_rules | `(tactic| ktr_room) => `(tactic| first
  | (apply DR.same; assumption; ktr_room)
  | (apply sqt_butD; assumption; ktr_room; ktr_room))
namespace K1
theorem sqt_butD {K : PySem.W.Frag} {c L : Addr} {H H' : Hp} {a : Addr} {xs : List V} (e : But c H H') (d : DR H c L) (h : SqT K H a xs) : SqT K H' a xs := by
  obtain ⟨x, ns, i, r, m, ec, _⟩ := d
  exact sqt_but e ec h
theorem sqt_butX {K : PySem.W.Frag} {c L : Addr} {x : Int} {H H' : Hp} {a : Addr} {xs : List V} (e : But c H H') (d : DRX H c L x) (h : SqT K H a xs) : SqT K H' a xs := sqt_butD e ⟨x, d⟩ h
/-- a list of draws, made by a comprehension over a range -/
theorem l_draws {g : TG} {tt : TT} {te : TE} {vs : List Nat} {σ : L2.St} {Q : VK} {H : Hp} {C L : Addr} {m : Nat} {lo : Int} (Pr : Int → Prop) (d0 : DR H C L) (hz : m ≤ 1000)
    (hs : ∀ (D : Addr) (N : Hp → Prop) (i : Nat) (H' : Hp), i < m → But C H H' → DR H' C L → (∀ H4 v, But C H' H4 → DR H4 C L → Pr v → LcEnd D N (.int v) H4) → g (.int (lo + i)) (wipe σ vs) H' fun σ2 H2 => wipe σ2 vs = wipe σ vs ∧ tt σ2 H2 fun b H3 => if b = true then te σ2 H3 fun y H4 => LcEnd D N y H4 else N H3)
    (hd : ∀ (D : Addr) (H' : Hp) (ls : List Int), H D = none → D ≠ C → D ≠ L → But C H H' → DR H' C L → ls.length = m → (∀ v ∈ ls, Pr v) → H' D = some (.lst (ls.map V.int)) → Q (.ref D) H') : LcW g tt te vs Q σ (Itr lo m) H := by
  have line : (1000 : Nat) < sizeLine := by decide
  refine l_range (fun D i H' => H D = none ∧ But C H H' ∧ DR H' C L ∧ ∃ ls : List Int, ls.length = i ∧ (∀ v ∈ ls, Pr v) ∧ H' D = some (.lst (ls.map V.int)))
    (fun D H' n sm e => ⟨n, But.of sm, d0.same sm, [], rfl, fun v h => (by cases h), e⟩) ?_ ?_
  · rintro D i H' hi ⟨n, b, d, ls, hl, hp, eD⟩
    refine hs D _ i H' hi b d fun H4 v b4 d4 pv => ?_
    have nC := d0.ne n
    have nL := d0.neL n
    refine s_lcEnd (b4 _ _ nC eD) (by rw [List.length_map, hl]; omega) fun H5 b5 e5 => ⟨n, But.sameN b5 (b.trans b4) n, d4.but b5 nC nL, ls ++ [v], by rw [List.length_append, hl]; rfl, fun x hx => ?_, ?_⟩
    · rcases List.mem_append.mp hx with hx | hx
      · exact hp x hx
      · rw [List.mem_singleton.mp hx]
        exact pv
    · rw [List.map_append]
      exact e5
  · rintro D H' ⟨n, b, d, ls, hl, hp, eD⟩
    exact hd D H' ls n (d0.ne n) (d0.neL n) b d hl hp eD
theorem ints5 {d : Int} (h0 : 0 ≤ d) (h1 : d < 5) : ∃ p : Int, M.PR p ∧ atI [V.int 11, .int 13, .int 17, .int 31, .int 101] d = some (.int p) := by
  rcases (show d = 0 ∨ d = 1 ∨ d = 2 ∨ d = 3 ∨ d = 4 by omega) with rfl | rfl | rfl | rfl | rfl
  · exact ⟨11, .inl rfl, rfl⟩
  · exact ⟨13, .inr (.inl rfl), rfl⟩
  · exact ⟨17, .inr (.inr (.inl rfl)), rfl⟩
  · exact ⟨31, .inr (.inr (.inr (.inl rfl))), rfl⟩
  · exact ⟨101, .inr (.inr (.inr (.inr rfl))), rfl⟩
theorem ints2 {d x y : Int} (h0 : 0 ≤ d) (h1 : d < 2) : ∃ k : Int, (k = x ∨ k = y) ∧ atI [V.int x, .int y] d = some (.int k) := by
  rcases (show d = 0 ∨ d = 1 by omega) with rfl | rfl
  · exact ⟨x, .inl rfl, rfl⟩
  · exact ⟨y, .inr rfl, rfl⟩
theorem ints3 {d x y z : Int} (h0 : 0 ≤ d) (h1 : d < 3) : ∃ k : Int, (k = x ∨ k = y ∨ k = z) ∧ atI [V.int x, .int y, .int z] d = some (.int k) := by
  rcases (show d = 0 ∨ d = 1 ∨ d = 2 by omega) with rfl | rfl | rfl
  · exact ⟨x, .inl rfl, rfl⟩
  · exact ⟨y, .inr (.inl rfl), rfl⟩
  · exact ⟨z, .inr (.inr rfl), rfl⟩
section
variable {P : Program} {w : World} {K : PySem.W.Frag} {mg : Str → Option Value} {base : Heap}
theorem u_start {s : Addr} {ns : List Int} {H : Hp} {Q : VK} {E : XK} (hs : IsL K H s ns) (hz : ns.length ≤ 63) (q : ∀ H' c L, Same H H' → DR H' c L → Q (.ref c) H') : spStart K [.ref s] H Q E := ⟨s, rfl, ⟨ns, hs, hz⟩, fun H' c L sm d => q H' c L sm ⟨_, d⟩⟩
theorem u_take {c L : Addr} {m : Int} {H : Hp} {Q : VK} {E : XK} (d : DR H c L) (h0 : 0 < m) (h1 : m < 1073741824) (q : ∀ H' d, But c H H' → DR H' c L → 0 ≤ d → d < m → Q (.int d) H') : spTake [.ref c, .int m] H Q E := by
  obtain ⟨x, dx⟩ := d
  exact ⟨c, m, rfl, L, x, dx, h0, h1, fun H' d b dd g0 g1 => q H' d b ⟨x, dd⟩ g0 g1⟩
theorem u_takeX {c L : Addr} {x m : Int} {H : Hp} {Q : VK} {E : XK} (d : DRX H c L x) (h0 : 0 < m) (h1 : m < 1073741824) (q : ∀ H' d, But c H H' → DRX H' c L x → 0 ≤ d → d < m → Q (.int d) H') : spTake [.ref c, .int m] H Q E := ⟨c, m, rfl, L, x, d, h0, h1, q⟩
def spLaw (K : PySem.W.Frag) : Sp := fun vs H Q _ => ∃ s : Addr, vs = [.ref s] ∧ (∃ ns : List Int, IsL K H s ns ∧ ns.length ≤ 63) ∧ ∀ H', Q (.bl true) H'
end
end K1
end
section
open PySem PySem.Spec PyProof.Rows L2 Z
local macro_rules | `(tactic| ktr_room) => `(tactic| first
  | assumption
  | (apply SqT.of; assumption)
  | (apply SqL.of; assumption)
  | (apply sqt_same; assumption; ktr_room)
  | (apply sql_same; assumption; ktr_room)
  | (apply sqt_but; assumption; assumption; ktr_room)
  | (apply sql_but; assumption; assumption; ktr_room)
  | (apply Same.of_; assumption; ktr_room)
  | (apply But.of_; assumption; assumption; ktr_room)
  | exact same_refl
  | exact but_refl
  | (apply same_tr; assumption; ktr_room)
  | (apply same_but; assumption; ktr_room; assumption)
  | (apply but_tr; assumption; ktr_room)
  | (apply but_trB; assumption; ktr_room))
local macro_rules | `(tactic| ktr_units) => `(tactic| first | with_reducible assumption | omega | rfl | exact ⟨by omega, by omega⟩ | exact .inl ⟨by omega, by omega⟩ | exact .inr ⟨by omega, by omega⟩ | exact ⟨by decide, by decide, by decide⟩ | exact Nat.le_of_ble_eq_true rfl | decide)
local macro_rules | `(tactic| kc_close) => `(tactic| repeat (with_reducible first
  | refine s_var (by with_unfolding_all rfl) ?_
  | refine s_c ?_
  | refine s_op ?_
  | refine s_rI0 ?_
  | refine s_asg ?_
  | refine s_gname ?_
  | refine s_seq ?_
  | refine s_cons ?_
  | refine s_nil ?_
  | refine s_call ?_
  | refine s_ret ?_
  | o_fieldsN
  | refine s_test ?_
  | refine s_bl ?_
  | refine s_rI (by with_unfolding_all (ktr_units)) ?_
  | refine s_rEq rfl ?_
  | refine s_rNe rfl ?_
  | refine s_cb ?_
  | refine s_int1 ?_
  | refine s_intB ?_
  | refine s_max2 ?_
  | refine s_min2 ?_
  | refine s_tup ?_
  | refine s_lst ?_
  | refine s_newT (by with_unfolding_all first | decide | exact Nat.le_of_ble_eq_true rfl) ?_
  | refine s_newL (by with_unfolding_all first | decide | exact Nat.le_of_ble_eq_true rfl) ?_
  | refine s_ixT (by ktr_room) (by with_unfolding_all rfl) ?_
  | refine s_ixL (by ktr_room) (by with_unfolding_all rfl) ?_
  | refine s_lenT (by ktr_room) ?_
  | refine s_lenL (by ktr_room) ?_
  | refine s_un ?_
  | refine s_rU ?_
  | refine s_and ?_
  | refine s_or ?_
  | refine s_not ?_
  | refine s_tB ?_
  | refine s_tru ?_
  | refine s_drop ?_
  | refine s_next ?_
  | refine s_for ?_
  | refine s_rng1 ?_
  | refine s_rng2 ?_
  | refine s_rng3 ?_
  | refine s_ilist ?_
  | refine s_itup ?_
  | refine s_iany ?_
  | refine s_ienum ?_
  | refine s_irev ?_
  | refine s_gcons ?_
  | refine s_gnil ?_
  | refine s_gtup (by ktr_room) (by with_unfolding_all rfl) ?_
  | refine s_gsub ?_
  | refine s_augS ?_
  | refine s_aug (by with_unfolding_all rfl) ?_
  | refine s_ipI ?_
  | refine s_bm ?_
  | refine s_bm0 ?_
  | refine s_tyL (by ktr_room) ?_
  | refine s_tyL0 (by ktr_room) ?_
  | refine s_sl ?_
  | refine s_part ?_
  | refine s_partv ?_
  | refine s_noPart ?_
  | refine s_lc ?_
  | refine s_yes ?_
  | refine s_wipe (by with_unfolding_all rfl) ?_
  | refine iteT ?_
  | refine s_retN ?_
  | refine s_isN ?_
  | refine s_truB ?_
  | refine s_isB2 ?_
  | refine s_notB2 ?_
  | refine s_revT ?_
  | refine s_andV ?_
  | refine s_orV ?_
  | refine s_ifE ?_
  | refine s_notK ?_
  | refine s_notN ?_
  | refine s_truL (by ktr_room) ?_
  | refine s_truT (by ktr_room) ?_))
open K1
local macro_rules | `(tactic| ktr_room) => `(tactic| first
  | (apply DR.same; assumption; ktr_room)
  | (apply sqt_butD; assumption; ktr_room; ktr_room))
open K1
local macro_rules | `(tactic| o_fieldsN) => `(tactic| with_reducible first
  | refine s_tyS ?_)
namespace K1
open TL
def sgn (s k : Nat) : Nat := SG.getD ((s + 5 * k) % 62) 0
theorem sgn_inj {s k j : Nat} (hk : k < 12) (hj : j < 12) (h : sgn s k = sgn s j) : k = j := by
  have h1 : (s + 5 * k) % 62 < 62 := Nat.mod_lt _ (by omega)
  have h2 : (s + 5 * j) % 62 < 62 := Nat.mod_lt _ (by omega)
  have e1 := sg_at h1
  have e2 := sg_at h2
  unfold sgn at h
  rw [h] at e1
  have := (List.getElem?_inj (by rw [sg_len]; exact h1) sg_nd).mp (e1.trans e2.symm)
  omega
/-- the k-th word -/
def wd (u : Bool) (stem : Str) (s cut : Nat) (k : Nat) : Str :=
  if u then ⟨#[sgn s k]⟩ ++ cutS stem none (some (((k + cut) % ((tl stem).length + 1) : Nat) : Int))
  else cutS stem none (some (cut : Int)) ++ ⟨#[sgn s k]⟩ ++ cutS stem (some (cut : Int)) none
theorem wd_tl (u : Bool) (stem : Str) (s cut k : Nat) : tl (wd u stem s cut k) = if u then sgn s k :: (tl stem).take ((k + cut) % ((tl stem).length + 1)) else (tl stem).take cut ++ sgn s k :: (tl stem).drop cut := by
  unfold wd
  cases u with
  | true =>
    rw [if_pos rfl, if_pos rfl, tl_append, tl_to, tl_one]
    rfl
  | false =>
    rw [if_neg (by decide), if_neg (by decide), tl_append, tl_append, tl_to, tl_from, tl_one, List.append_assoc]
    rfl
theorem wd_ok {u : Bool} {stem : Str} {s cut : Nat} (hl : (tl stem).length ≤ 7) (hs : ∀ c ∈ tl stem, c ∈ SG) (hc : cut ≤ (tl stem).length) : WordsOk ((List.range 12).map (wd u stem s cut)) where
  len := by rw [List.length_map, List.length_range]
  nm := fun z hz => by
    obtain ⟨k, hk, rfl⟩ := List.mem_map.mp hz
    have m1 : sgn s k ∈ SG := sg_mem (Nat.mod_lt _ (by omega))
    have e := wd_tl u stem s cut k
    cases u with
    | true =>
      rw [if_pos rfl] at e
      refine ⟨by rw [e]; simp, ?_, fun c hm => ?_⟩
      · rw [e, List.length_cons, List.length_take]
        omega
      · rw [e] at hm
        rcases List.mem_cons.mp hm with h | h
        · rw [h]; exact m1
        · exact hs c (List.mem_of_mem_take h)
    | false =>
      rw [if_neg (by decide)] at e
      refine ⟨by rw [e, List.length_append, List.length_cons]; omega, ?_, fun c hm => ?_⟩
      · rw [e, List.length_append, List.length_cons, List.length_take, List.length_drop]
        omega
      · rw [e] at hm
        rcases List.mem_append.mp hm with h | h
        · exact hs c (List.mem_of_mem_take h)
        · rcases List.mem_cons.mp h with h | h
          · rw [h]; exact m1
          · exact hs c (List.mem_of_mem_drop h)
  nd := by
    rw [List.nodup_iff_pairwise_ne, List.pairwise_map]
    refine List.Pairwise.imp_of_mem (fun {a b} ha hb hab => ?_) List.pairwise_lt_range
    intro e
    have ha' := List.mem_range.mp ha
    have hb' := List.mem_range.mp hb
    have e2 := congrArg tl e
    rw [wd_tl, wd_tl] at e2
    have : sgn s a = sgn s b := by
      cases u with
      | true =>
        rw [if_pos rfl, if_pos rfl] at e2
        exact (List.cons.inj e2).1
      | false =>
        rw [if_neg (by decide), if_neg (by decide)] at e2
        have e3 := List.append_cancel_left e2
        exact (List.cons.inj e3).1
    have := sgn_inj ha' hb' this
    omega
/-- a list of draws, of any values -/
theorem l_drawsV {g : TG} {tt : TT} {te : TE} {vs : List Nat} {σ : L2.St} {Q : VK} {H : Hp} {C L : Addr} {x : Int} {m : Nat} {lo : Int} (Pr : V → Prop) (d0 : DRX H C L x) (hz : m ≤ 1000)
    (hs : ∀ (D : Addr) (N : Hp → Prop) (i : Nat) (H' : Hp), i < m → But C H H' → DRX H' C L x → (∀ H4 v, But C H' H4 → DRX H4 C L x → Pr v → LcEnd D N v H4) → g (.int (lo + i)) (wipe σ vs) H' fun σ2 H2 => wipe σ2 vs = wipe σ vs ∧ tt σ2 H2 fun b H3 => if b = true then te σ2 H3 fun y H4 => LcEnd D N y H4 else N H3)
    (hd : ∀ (D : Addr) (H' : Hp) (ls : List V), H D = none → D ≠ C → D ≠ L → But C H H' → DRX H' C L x → ls.length = m → (∀ v ∈ ls, Pr v) → H' D = some (.lst ls) → Q (.ref D) H') : LcW g tt te vs Q σ (Itr lo m) H := by
  have line : (1000 : Nat) < sizeLine := by decide
  refine l_range (fun D i H' => H D = none ∧ But C H H' ∧ DRX H' C L x ∧ ∃ ls : List V, ls.length = i ∧ (∀ v ∈ ls, Pr v) ∧ H' D = some (.lst ls))
    (fun D H' n sm e => ⟨n, But.of sm, d0.same sm, [], rfl, fun v h => (by cases h), e⟩) ?_ ?_
  · rintro D i H' hi ⟨n, b, d, ls, hl, hp, eD⟩
    refine hs D _ i H' hi b d fun H4 v b4 d4 pv => ?_
    have nC := d0.ne n
    have nL := d0.neL n
    refine s_lcEnd (b4 _ _ nC eD) (by rw [hl]; omega) fun H5 b5 e5 => ⟨n, But.sameN b5 (b.trans b4) n, d4.but b5 nC nL, ls ++ [v], by rw [List.length_append, hl]; rfl, fun x hx => ?_, e5⟩
    rcases List.mem_append.mp hx with hx | hx
    · exact hp x hx
    · rw [List.mem_singleton.mp hx]
      exact pv
  · rintro D H' ⟨n, b, d, ls, hl, hp, eD⟩
    exact hd D H' ls n (d0.ne n) (d0.neL n) b d hl hp eD
theorem signs_of : ∀ {ls : List V}, (∀ v ∈ ls, ∃ c ∈ SG, v = .str ⟨#[c]⟩) → ∃ ys : List Str, ls = ys.map V.str ∧ ys.length = ls.length ∧ (ys.map (·.length)).sum = ls.length ∧ ((ys.map tl).flatten).length = ls.length ∧ ∀ c ∈ (ys.map tl).flatten, c ∈ SG
  | [], _ => ⟨[], rfl, rfl, rfl, rfl, fun c h => by cases h⟩
  | v :: ls, h => by
    obtain ⟨c, hc, rfl⟩ := h v (List.mem_cons_self ..)
    obtain ⟨ys, e1, e2, e3, e4, e5⟩ := signs_of (ls := ls) fun v m => h v (List.mem_cons_of_mem _ m)
    refine ⟨⟨#[c]⟩ :: ys, by rw [List.map_cons, e1], by rw [List.length_cons, List.length_cons, e2], ?_, ?_, fun d hd => ?_⟩
    · rw [List.map_cons, List.sum_cons, e3, List.length_cons]
      show 1 + ls.length = _
      omega
    · rw [List.map_cons, List.flatten_cons, List.length_append, e4, tl_one]
      show 1 + ls.length = ls.length + 1
      omega
    · rw [List.map_cons, List.flatten_cons, tl_one] at hd
      rcases List.mem_append.mp hd with hd | hd
      · rw [List.mem_singleton.mp hd]; exact hc
      · exact e5 d hd
section
variable {P : Program} {w : World} {K : PySem.W.Frag} {mg : Str → Option Value} {base : Heap}
def spWords (K : PySem.W.Frag) : Sp := fun vs H Q _ => ∃ c : Addr, vs = [.ref c] ∧ ∃ L x, DRX H c L x ∧ ∀ H' q ws, But c H H' → DRX H' c L x → H q = none → H' q = some (.lst (ws.map V.str)) → WordsOk ws → Q (.ref q) H'
/-- the slots -/
abbrev stW (c signs stem start cut unlike found k sign : Option V := none) : L2.St := [c, signs, stem, start, cut, unlike, found, k, sign]
theorem ok__law_words (T : NoB mg) (h : Has K mg "_law_words" (topS 29) ["c"]) (G__law_take : Good P w K mg base 2 "_law_take" ["c", "many"] (spTake)) : Good P w K mg base 3 "_law_words" ["c"] (spWords K) := by
  have sc : FnScope ["c", "signs", "stem", "start", "cut", "unlike", "found", "k", "sign"] ["c"] (defScope (topS 29)) := ⟨rfl, rfl, rfl, by decide +kernel, rfl, by decide +kernel, by decide +kernel⟩
  have nd := sc.nd
  refine h.good sc (fun vs H Q E h => by obtain ⟨c, rfl, _⟩ := h; rfl) (fun f cdv A outer s H vs Q E hr h => ?_)
  obtain ⟨c, rfl, hyp⟩ := h
  refine ⟨_, (pss_cons (ps_set (i := 1) nd rfl (by first | exact .inl rfl | exact .inr rfl) pe_str)
  (pss_cons (ps_set (i := 2) nd rfl (by first | exact .inl rfl | exact .inr rfl) (pe_bmK K PySem.F.plainAttrs_str PySem.F.slot_str_join PySem.F.type_str_join (mt_joinK K) pe_str (pa_cons (pe_lc (own := [("k", 7)]) rfl nd (pi_range1 rfl T.n_range (pa_cons (pe_ix (ix_listK K) (pe_lst (pa_cons pe_int (pa_cons pe_int (pa_cons pe_int (pa_cons pe_int (pa_cons pe_int pa_nil)))))) (pe_callG G__law_take (hr.mono (by first | decide | omega)) (by rfl) (pa_cons (pv 0) (pa_cons pe_int pa_nil))) (fun _ _ => rfl)) pa_nil)) (blkOk_by (own := [("k", 7)]) (N := ["c", "signs", "stem", "start", "cut", "unlike", "found", "k", "sign"]) (by kernel_rfl)) (fun _ _ _ _ _ => (pg_name (i := 7) nd rfl (by first | exact .inl rfl | exact .inr rfl))) (fun _ _ _ _ _ => pts_nil) (fun _ _ _ _ _ => (pe_ix ix_str (pv 1) (pe_callG G__law_take (hr.mono (by first | decide | omega)) (by rfl) (pa_cons (pv 0) (pa_cons pe_int pa_nil))) (fun _ _ => rfl)))) pa_nil)))
  (pss_cons (ps_set (i := 3) nd rfl (by first | exact .inl rfl | exact .inr rfl) (pe_callG G__law_take (hr.mono (by first | decide | omega)) (by rfl) (pa_cons (pv 0) (pa_cons pe_int pa_nil))))
  (pss_cons (ps_set (i := 4) nd rfl (by first | exact .inl rfl | exact .inr rfl) (pe_callG G__law_take (hr.mono (by first | decide | omega)) (by rfl) (pa_cons (pv 0) (pa_cons (pe_op op_add (pe_callB c_lenS (by rfl) T.n_len (by decide +kernel) (pa_cons (pv 2) pa_nil)) pe_int) pa_nil))))
  (pss_cons (ps_set (i := 5) nd rfl (by first | exact .inl rfl | exact .inr rfl) (pe_cmpR op_eq (pe_callG G__law_take (hr.mono (by first | decide | omega)) (by rfl) (pa_cons (pv 0) (pa_cons pe_int pa_nil))) pe_int (nomark _)))
  (pss_cons (ps_set (i := 6) nd rfl (by first | exact .inl rfl | exact .inr rfl) (pe_lst pa_nil))
  (pss_cons (ps_for PassesOwn.never rfl (pi_range1 rfl T.n_range (pa_cons pe_int pa_nil)) (pg_name (i := 7) nd rfl (by first | exact .inl rfl | exact .inr rfl))
  (pss_cons (ps_set (i := 8) nd rfl (by first | exact .inl rfl | exact .inr rfl) (pe_ix ix_str (pv 1) (pe_op op_mod (pe_callTy c_int1 (by rfl) T.n_int (by decide +kernel) (pa_cons (pe_op op_add (pv 3) (pe_op op_mul pe_int (pv 7))) pa_nil)) pe_int) (fun _ _ => rfl)))
  (pss_one (ps_if (pt_val (pv 5))
  (pss_one (ps_expr (pe_bmK K PySem.F.plainAttrs_list PySem.F.slot_list_append PySem.F.type_list_append mt_append (pv 6) (pa_cons (pe_op op_addT (pv 8) (pe_slice sl_str (pv 2) po_none (po_some (pe_op op_mod (pe_callTy c_int1 (by rfl) T.n_int (by decide +kernel) (pa_cons (pe_op op_add (pv 7) (pv 4)) pa_nil)) (pe_op op_add (pe_callB c_lenS (by rfl) T.n_len (by decide +kernel) (pa_cons (pv 2) pa_nil)) pe_int))))) pa_nil)))) (pss_one (ps_expr (pe_bmK K PySem.F.plainAttrs_list PySem.F.slot_list_append PySem.F.type_list_append mt_append (pv 6) (pa_cons (pe_op op_addT (pe_op op_addT (pe_slice sl_str (pv 2) po_none (po_some (pv 4))) (pv 8)) (pe_slice sl_str (pv 2) (po_some (pv 4)) po_none)) pa_nil))))))))
  (pss_one (ps_ret (pv 6)))))))))), ?_⟩
  try dsimp only [cxOf, Cx.wish]
  obtain ⟨L, x, d0, q⟩ := hyp
  have line : (100000 : Nat) < sizeLine := by decide
  refine s_seq ?_
  refine s_cut (fun σ' H' => σ' = stW (some (.ref c)) (some (.str sgS)) ∧ H' = H) (fun N hN => ?_) ?_
  · kc_close
    exact hN _ _ ⟨rfl, rfl⟩
  rintro _ H ⟨rfl, rfl⟩
  refine s_seq ?_
  refine s_cut (fun σ' H' => ∃ stem : Str, σ' = stW (some (.ref c)) (some (.str sgS)) (some (.str stem)) ∧ But c H H' ∧ DRX H' c L x ∧ (tl stem).length ≤ 7 ∧ ∀ a ∈ tl stem, a ∈ SG) (fun N hN => ?_) ?_
  · kc_close
    intro l1 H1 n1 s1 e1
    kc_close
    refine u_takeX (d0.same s1) (by omega) (by omega) fun H2 t2 b2 d2 g0 g1 => ?_
    obtain ⟨m, hm, em⟩ : ∃ m : Nat, m ≤ 7 ∧ atI [V.int 0, .int 0, .int 1, .int 3, .int 7] t2 = some (.int m) := by
      rcases (show t2 = 0 ∨ t2 = 1 ∨ t2 = 2 ∨ t2 = 3 ∨ t2 = 4 by omega) with rfl | rfl | rfl | rfl | rfl
      · exact ⟨0, by omega, rfl⟩
      · exact ⟨0, by omega, rfl⟩
      · exact ⟨1, by omega, rfl⟩
      · exact ⟨3, by omega, rfl⟩
      · exact ⟨7, by omega, rfl⟩
    have n1c : l1 ≠ c := d0.ne n1
    have e2 := b2 _ _ n1c e1
    kc_close
    refine s_ixL (SqL.of e2) em ?_
    kc_close
    refine s_rng1v (by omega) (by omega) ?_
    rw [Int.toNat_natCast]
    refine l_drawsV (fun v => ∃ a ∈ SG, v = .str ⟨#[a]⟩) d2 (by omega) ?_ ?_
    · intro D N' i H' hi bi di k
      kc_close
      refine u_takeX di (by omega) (by omega) fun H3 t3 b3 d3 g2 g3 => ?_
      obtain ⟨j, rfl⟩ : ∃ j : Nat, t3 = (j : Int) := ⟨t3.toNat, by omega⟩
      have hj : j < 62 := by omega
      refine s_ixS (show sgS.length ≤ 100000 by decide +kernel) (at_gen rfl (sg_at hj)) ?_
      exact k H3 _ b3 d3 ⟨_, sg_mem hj, rfl⟩
    · intro D H' ls nD nDc nDL bi di hl hp eD
      obtain ⟨ys, ey, y2, y3, y4, y5⟩ := signs_of hp
      rw [ey] at eD
      kc_close
      refine s_joinL (SqL.of eD) (by rw [y3, y2, hl]; show m + m * 0 ≤ 16777216; omega) ?_
      kc_close
      refine hN _ _ ⟨_, rfl, (But.of s1).trans (b2.trans bi), di, ?_, ?_⟩
      · rw [tl_join0, y4, hl]; exact hm
      · rw [tl_join0]; exact y5
  rintro _ H1 ⟨stem, rfl, b1, d1, hl, hs⟩
  have hl2 : stem.length ≤ 7 := by rw [← tl_len]; exact hl
  refine s_seq ?_
  refine s_cut (fun σ' H' => ∃ s : Nat, σ' = stW (some (.ref c)) (some (.str sgS)) (some (.str stem)) (some (.int s)) ∧ But c H H' ∧ DRX H' c L x ∧ s < 62) (fun N hN => ?_) ?_
  · kc_close
    refine u_takeX d1 (by omega) (by omega) fun H2 t b2 d2 g0 g1 => ?_
    obtain ⟨j, rfl⟩ : ∃ j : Nat, t = (j : Int) := ⟨t.toNat, by omega⟩
    kc_close
    exact hN _ _ ⟨j, rfl, b1.trans b2, d2, by omega⟩
  rintro _ H2 ⟨s, rfl, b2, d2, hs62⟩
  refine s_seq ?_
  refine s_cut (fun σ' H' => ∃ cut : Nat, σ' = stW (some (.ref c)) (some (.str sgS)) (some (.str stem)) (some (.int s)) (some (.int cut)) ∧ But c H H' ∧ DRX H' c L x ∧ cut ≤ (tl stem).length) (fun N hN => ?_) ?_
  · kc_close
    refine s_lenS (by omega) ?_
    kc_close
    refine u_takeX d2 (by omega) (by omega) fun H3 t b3 d3 g0 g1 => ?_
    obtain ⟨j, rfl⟩ : ∃ j : Nat, t = (j : Int) := ⟨t.toNat, by omega⟩
    kc_close
    exact hN _ _ ⟨j, rfl, b2.trans b3, d3, by rw [tl_len]; omega⟩
  rintro _ H3 ⟨cut, rfl, b3, d3, hcut⟩
  refine s_seq ?_
  refine s_cut (fun σ' H' => ∃ u : Bool, σ' = stW (some (.ref c)) (some (.str sgS)) (some (.str stem)) (some (.int s)) (some (.int cut)) (some (.bl u)) ∧ But c H H' ∧ DRX H' c L x) (fun N hN => ?_) ?_
  · kc_close
    refine u_takeX d3 (by omega) (by omega) fun H4 t b4 d4 g0 g1 => ?_
    kc_close
    exact hN _ _ ⟨_, rfl, b3.trans b4, d4⟩
  rintro _ H4 ⟨u, rfl, b4, d4⟩
  kc_close
  intro F H5 nF s5 e5
  have nFc : F ≠ c := d4.ne nF
  have nFL : F ≠ L := d4.neL nF
  kc_close
  refine s_rng1v (by omega) (by omega) ?_
  refine w_range (fun i σ H' => ∃ y7 y8, σ = stW (some (.ref c)) (some (.str sgS)) (some (.str stem)) (some (.int s)) (some (.int cut)) (some (.bl u)) (some (.ref F)) y7 y8 ∧ But F H5 H' ∧ H' F = some (.lst (((List.range i).map (wd u stem s cut)).map V.str))) ⟨none, none, rfl, But.refl F H5, e5⟩ ?_ ?_
  · rintro i _ H6 hi ⟨y7, y8, rfl, b6, e6⟩
    have hi' : i < 12 := hi
    have hm := Nat.mod_lt (s + 5 * i) (show 0 < 62 by omega)
    have hw : (((List.range i).map (wd u stem s cut)).map V.str).length < sizeLine := by
      rw [List.length_map, List.length_map, List.length_range]
      omega
    have fin : ∀ N' : Hp → Prop, (∀ H7, But F H6 H7 → H7 F = some (.lst ((((List.range i).map (wd u stem s cut)).map V.str) ++ [.str (wd u stem s cut i)])) → N' H7) → True := fun _ _ => trivial
    have en : ((((List.range i).map (wd u stem s cut)).map V.str) ++ [V.str (wd u stem s cut i)]) = (((List.range (i + 1)).map (wd u stem s cut)).map V.str) := by
      rw [List.range_succ, List.map_append, List.map_append]
      rfl
    kc_close
    refine s_ixS (show sgS.length ≤ 100000 by decide +kernel) (at_gen (k := (s + 5 * i) % 62) (by omega) (sg_at hm)) ?_
    kc_close
    have eS : sgn s i = SG.getD ((s + 5 * i) % 62) 0 := rfl
    have l1 : (⟨#[SG.getD ((s + 5 * i) % 62) 0]⟩ : Str).length = 1 := rfl
    refine s_if ?_
    cases u with
    | true =>
      kc_close
      refine s_lenS (by omega) ?_
      kc_close
      refine s_slS (by omega) ?_
      have ep : ((0 : Int) + (i : Nat) + (cut : Nat)) % ((stem.length : Int) + 1) = (((i + cut) % ((tl stem).length + 1) : Nat) : Int) := by
        rw [tl_len, Int.natCast_emod]
        congr 1
        omega
      rw [ep]
      have lc := cutS_length stem none (some (((i + cut) % ((tl stem).length + 1) : Nat) : Int))
      refine s_addT (by omega) ?_
      kc_close
      refine s_append e6 hw fun H7 b7 e7 => ?_
      kc_close
      refine ⟨_, _, rfl, b6.trans b7, ?_⟩
      rw [← en]
      exact e7
    | false =>
      kc_close
      refine ifFalse rfl ?_
      kc_close
      refine s_slS (by omega) ?_
      have lc := cutS_length stem none (some (cut : Int))
      have lc2 := cutS_length stem (some (cut : Int)) none
      kc_close
      refine s_addT (by omega) ?_
      kc_close
      refine s_slS (by omega) ?_
      kc_close
      refine s_addT ?_ ?_
      · rw [← tl_len, tl_append, List.length_append, tl_len, tl_len]
        omega
      kc_close
      refine s_append e6 hw fun H7 b7 e7 => ?_
      kc_close
      refine ⟨_, _, rfl, b6.trans b7, ?_⟩
      rw [← en]
      exact e7
  · rintro _ H6 ⟨y7, y8, rfl, b6, e6⟩
    kc_close
    have nF0 : H F = none := by
      cases e : H F with
      | none => rfl
      | some o =>
        rw [b4 _ _ nFc e] at nF
        cases nF
    exact q H6 F _ (But.sameN b6 (b4.trans (But.of s5)) nF0) ((d4.same s5).but b6 nFc nFL) nF0 e6 (wd_ok hl hs hcut)
theorem u_words {c L : Addr} {x : Int} {H : Hp} {Q : VK} {E : XK} (d : DRX H c L x) (q : ∀ H' q ws, But c H H' → DRX H' c L x → H q = none → H' q = some (.lst (ws.map V.str)) → WordsOk ws → Q (.ref q) H') : spWords K [.ref c] H Q E := ⟨c, rfl, L, x, d, q⟩
end
end K1
end
section
open PySem PySem.Spec PyProof.Rows L2 Z
local macro_rules | `(tactic| ktr_room) => `(tactic| first
  | assumption
  | (apply SqT.of; assumption)
  | (apply SqL.of; assumption)
  | (apply sqt_same; assumption; ktr_room)
  | (apply sql_same; assumption; ktr_room)
  | (apply sqt_but; assumption; assumption; ktr_room)
  | (apply sql_but; assumption; assumption; ktr_room)
  | (apply Same.of_; assumption; ktr_room)
  | (apply But.of_; assumption; assumption; ktr_room)
  | exact same_refl
  | exact but_refl
  | (apply same_tr; assumption; ktr_room)
  | (apply same_but; assumption; ktr_room; assumption)
  | (apply but_tr; assumption; ktr_room)
  | (apply but_trB; assumption; ktr_room))
local macro_rules | `(tactic| ktr_units) => `(tactic| first | with_reducible assumption | omega | rfl | exact ⟨by omega, by omega⟩ | exact .inl ⟨by omega, by omega⟩ | exact .inr ⟨by omega, by omega⟩ | exact ⟨by decide, by decide, by decide⟩ | exact Nat.le_of_ble_eq_true rfl | decide)
local macro_rules | `(tactic| kc_close) => `(tactic| repeat (with_reducible first
  | refine s_var (by with_unfolding_all rfl) ?_
  | refine s_c ?_
  | refine s_op ?_
  | refine s_rI0 ?_
  | refine s_asg ?_
  | refine s_gname ?_
  | refine s_seq ?_
  | refine s_cons ?_
  | refine s_nil ?_
  | refine s_call ?_
  | refine s_ret ?_
  | o_fieldsN
  | refine s_test ?_
  | refine s_bl ?_
  | refine s_rI (by with_unfolding_all (ktr_units)) ?_
  | refine s_rEq rfl ?_
  | refine s_rNe rfl ?_
  | refine s_cb ?_
  | refine s_int1 ?_
  | refine s_intB ?_
  | refine s_max2 ?_
  | refine s_min2 ?_
  | refine s_tup ?_
  | refine s_lst ?_
  | refine s_newT (by with_unfolding_all first | decide | exact Nat.le_of_ble_eq_true rfl) ?_
  | refine s_newL (by with_unfolding_all first | decide | exact Nat.le_of_ble_eq_true rfl) ?_
  | refine s_ixT (by ktr_room) (by with_unfolding_all rfl) ?_
  | refine s_ixL (by ktr_room) (by with_unfolding_all rfl) ?_
  | refine s_lenT (by ktr_room) ?_
  | refine s_lenL (by ktr_room) ?_
  | refine s_un ?_
  | refine s_rU ?_
  | refine s_and ?_
  | refine s_or ?_
  | refine s_not ?_
  | refine s_tB ?_
  | refine s_tru ?_
  | refine s_drop ?_
  | refine s_next ?_
  | refine s_for ?_
  | refine s_rng1 ?_
  | refine s_rng2 ?_
  | refine s_rng3 ?_
  | refine s_ilist ?_
  | refine s_itup ?_
  | refine s_iany ?_
  | refine s_ienum ?_
  | refine s_irev ?_
  | refine s_gcons ?_
  | refine s_gnil ?_
  | refine s_gtup (by ktr_room) (by with_unfolding_all rfl) ?_
  | refine s_gsub ?_
  | refine s_augS ?_
  | refine s_aug (by with_unfolding_all rfl) ?_
  | refine s_ipI ?_
  | refine s_bm ?_
  | refine s_bm0 ?_
  | refine s_tyL (by ktr_room) ?_
  | refine s_tyL0 (by ktr_room) ?_
  | refine s_sl ?_
  | refine s_part ?_
  | refine s_partv ?_
  | refine s_noPart ?_
  | refine s_lc ?_
  | refine s_yes ?_
  | refine s_wipe (by with_unfolding_all rfl) ?_
  | refine iteT ?_
  | refine s_retN ?_
  | refine s_isN ?_
  | refine s_truB ?_
  | refine s_isB2 ?_
  | refine s_notB2 ?_
  | refine s_revT ?_
  | refine s_andV ?_
  | refine s_orV ?_
  | refine s_ifE ?_
  | refine s_notK ?_
  | refine s_notN ?_
  | refine s_truL (by ktr_room) ?_
  | refine s_truT (by ktr_room) ?_))
open K1
local macro_rules | `(tactic| ktr_room) => `(tactic| first
  | (apply DR.same; assumption; ktr_room)
  | (apply sqt_butD; assumption; ktr_room; ktr_room))
open K1
local macro_rules | `(tactic| o_fieldsN) => `(tactic| with_reducible first
  | refine s_tyS ?_)
namespace K1
open TL
abbrev IsRow (K : PySem.W.Frag) (H : Hp) (a : Addr) (r : Str × Int) : Prop := SqT K H a [.str r.1, .int r.2]
theorem row_im {K : PySem.W.Frag} {H : Hp} {a : Addr} {r : Str × Int} (h : IsRow K H a r) : Im K H (rowD r) (.ref a) := ⟨a, _, rfl, h, _, _, rfl, rfl, _, _, rfl, rfl, rfl⟩
theorem im_rows {K : PySem.W.Frag} {H : Hp} {T : Addr} {as : List Addr} {rows : List (Str × Int)} (h : SqT K H T (as.map V.ref)) (p : Paired (IsRow K H) as rows) : Im K H (rowsD rows) (.ref T) := by
  refine ⟨T, _, rfl, h, ?_⟩
  clear h
  induction p with
  | nil => rfl
  | cons a _ ih => exact ⟨_, _, rfl, row_im a, ih⟩
/-- a list of pairs of a name and a number, made by a comprehension over a range -/
theorem l_rows {K : PySem.W.Frag} {g : TG} {tt : TT} {te : TE} {vs : List Nat} {σ : L2.St} {Q : VK} {H : Hp} {C L : Addr} {x : Int} {m : Nat} {lo : Int} (nm : Nat → Str) (Pr : Int → Prop) (d0 : DRX H C L x) (hz : m ≤ 1000)
    (hs : ∀ (D : Addr) (N : Hp → Prop) (i : Nat) (H' : Hp), i < m → But C H H' → DRX H' C L x → (∀ H4 a v, But C H' H4 → DRX H4 C L x → SqT K H4 a [.str (nm i), .int v] → Pr v → LcEnd D N (.ref a) H4) → g (.int (lo + i)) (wipe σ vs) H' fun σ2 H2 => wipe σ2 vs = wipe σ vs ∧ tt σ2 H2 fun b H3 => if b = true then te σ2 H3 fun y H4 => LcEnd D N y H4 else N H3)
    (hd : ∀ (D : Addr) (H' : Hp) (as : List Addr) (rows : List (Str × Int)), H D = none → D ≠ C → D ≠ L → But C H H' → DRX H' C L x → Paired (IsRow K H') as rows → rows.map (·.1) = (List.range m).map nm → (∀ r ∈ rows, Pr r.2) → H' D = some (.lst (as.map V.ref)) → Q (.ref D) H') : LcW g tt te vs Q σ (Itr lo m) H := by
  have line : (1000 : Nat) < sizeLine := by decide
  refine l_range (fun D i H' => H D = none ∧ But C H H' ∧ DRX H' C L x ∧ ∃ (as : List Addr) (rows : List (Str × Int)), Paired (IsRow K H') as rows ∧ rows.map (·.1) = (List.range i).map nm ∧ (∀ r ∈ rows, Pr r.2) ∧ H' D = some (.lst (as.map V.ref)))
    (fun D H' n sm e => ⟨n, But.of sm, d0.same sm, [], [], .nil, rfl, fun v h => (by cases h), e⟩) ?_ ?_
  · rintro D i H' hi ⟨n, b, d, as, rows, hps, hn, hp, eD⟩
    have hl := Paired.length hps
    have hl2 := congrArg List.length hn
    rw [List.length_map, List.length_map, List.length_range] at hl2
    refine hs D _ i H' hi b d fun H4 a v b4 d4 ha pv => ?_
    have nC := d0.ne n
    have nL := d0.neL n
    have e4 := b4 _ _ nC eD
    refine s_lcEnd e4 (by rw [List.length_map]; omega) fun H5 b5 e5 => ⟨n, But.sameN b5 (b.trans b4) n, d4.but b5 nC nL, as ++ [a], rows ++ [(nm i, v)], ?_, ?_, fun r hr => ?_, ?_⟩
    · exact paired_app (L2.Paired.mapP hps fun a r h => sqt_but b5 e4 (sqt_butX b4 d h)) (.cons (sqt_but b5 e4 ha) .nil)
    · rw [List.map_append, hn, List.range_succ, List.map_append]
      rfl
    · rcases List.mem_append.mp hr with hr | hr
      · exact hp r hr
      · rw [List.mem_singleton.mp hr]
        exact pv
    · rw [List.map_append]
      exact e5
  · rintro D H' ⟨n, b, d, as, rows, hps, hn, hp, eD⟩
    exact hd D H' as rows n (d0.ne n) (d0.neL n) b d hps hn hp eD
theorem words_ne {H : Hp} {c L a : Addr} {x : Int} {ws : List Str} (d : DRX H c L x) (e : H a = some (.lst (ws.map V.str))) (h : WordsOk ws) : a ≠ c := by
  intro z
  obtain ⟨ns, i, r, n, ec, _⟩ := d
  rw [z, ec] at e
  have := congrArg List.length (HO.lst.inj (Option.some.inj e))
  rw [List.length_map, h.len] at this
  cases this
theorem word_at {ws : List Str} (h : WordsOk ws) {i : Int} {k : Nat} (e : i = k) (hk : k < 12) : atI (ws.map V.str) i = some (.str (ws.getD k (Str.ofString ""))) := by
  refine at_gen e ?_
  rw [List.getElem?_map, List.getD_eq_getElem?_getD, List.getElem?_eq_getElem (by rw [h.len]; exact hk)]
  rfl
theorem word_nm {ws : List Str} (h : WordsOk ws) {k : Nat} (hk : k < 12) : NmOk (ws.getD k (Str.ofString "")) := by
  rw [List.getD_eq_getElem?_getD, List.getElem?_eq_getElem (by rw [h.len]; exact hk)]
  exact h.nm _ (List.getElem_mem _)
theorem words_take {ws : List Str} (h : WordsOk ws) {m : Nat} (hm : m ≤ 12) : (List.range m).map (fun k => ws.getD k (Str.ofString "")) = ws.take m := by
  refine List.ext_getElem? fun i => ?_
  rw [List.getElem?_map]
  by_cases hi : i < m
  · rw [List.getElem?_range hi, List.getElem?_take_of_lt hi, List.getElem?_eq_getElem (by rw [h.len]; omega)]
    show some (ws.getD i _) = _
    rw [List.getD_eq_getElem?_getD, List.getElem?_eq_getElem (by rw [h.len]; omega)]
    rfl
  · rw [List.getElem?_eq_none (by simpa using Nat.le_of_not_lt hi), List.getElem?_eq_none (by rw [List.length_take]; omega)]
    rfl
section
variable {P : Program} {w : World} {K : PySem.W.Frag} {mg : Str → Option Value} {base : Heap}
def spPlain (K : PySem.W.Frag) : Sp := fun vs H Q _ => ∃ (c wa : Addr), vs = [.ref c, .ref wa] ∧ ∃ L x ws, DRX H c L x ∧ H wa = some (.lst (ws.map V.str)) ∧ WordsOk ws ∧ ∀ H' v e, But c H H' → DRX H' c L x → Im K H' (lotD e) v → PlainOk e → Q v H'
/-- the slots -/
abbrev stP (c words kind many names most rows k row : Option V := none) : L2.St := [c, words, kind, many, names, most, rows, k, row]
theorem ok__law_plain (T : NoB mg) (h : Has K mg "_law_plain" (topS 30) ["c", "words"]) (G__law_take : Good P w K mg base 2 "_law_take" ["c", "many"] (spTake)) : Good P w K mg base 3 "_law_plain" ["c", "words"] (spPlain K) := by
  have sc : FnScope ["c", "words", "kind", "many", "names", "most", "rows", "k", "row"] ["c", "words"] (defScope (topS 30)) := ⟨rfl, rfl, rfl, by decide +kernel, rfl, by decide +kernel, by decide +kernel⟩
  have nd := sc.nd
  refine h.good sc (fun vs H Q E h => by obtain ⟨c, wa, rfl, _⟩ := h; rfl) (fun f cdv A outer s H vs Q E hr h => ?_)
  obtain ⟨c, wa, rfl, hyp⟩ := h
  refine ⟨_, (pss_cons (ps_set (i := 2) nd rfl (by first | exact .inl rfl | exact .inr rfl) (pe_callG G__law_take (hr.mono (by first | decide | omega)) (by rfl) (pa_cons (pv 0) (pa_cons pe_int pa_nil))))
  (pss_cons (ps_set (i := 3) nd rfl (by first | exact .inl rfl | exact .inr rfl) (pe_op op_add pe_int (pe_callG G__law_take (hr.mono (by first | decide | omega)) (by rfl) (pa_cons (pv 0) (pa_cons (pe_ix (ix_listK K) (pe_lst (pa_cons pe_int (pa_cons pe_int (pa_cons pe_int pa_nil)))) (pe_callG G__law_take (hr.mono (by first | decide | omega)) (by rfl) (pa_cons (pv 0) (pa_cons pe_int pa_nil))) (fun _ _ => rfl)) pa_nil)))))
  (pss_cons (ps_set (i := 4) nd rfl (by first | exact .inl rfl | exact .inr rfl) (pe_callTy (c_tupK K) (by rfl) T.n_tuple (by decide +kernel) (pa_cons (pe_slice (sl_listK K) (pv 1) po_none (po_some (pv 3))) pa_nil)))
  (pss_cons (ps_if (pt_cmpR op_eq (pv 2) pe_int (nomark _))
  (pss_one (ps_ret (pe_tup (pa_cons pe_str (pa_cons (pe_ix (ix_listK K) (pv 1) (pe_callG G__law_take (hr.mono (by first | decide | omega)) (by rfl) (pa_cons (pv 0) (pa_cons pe_int pa_nil))) (fun _ _ => rfl)) pa_nil))))) pss_nil)
  (pss_cons (ps_if (pt_cmpR op_eq (pv 2) pe_int (nomark _))
  (pss_one (ps_ret (pe_tup (pa_cons pe_str (pa_cons (pv 4) pa_nil))))) pss_nil)
  (pss_cons (ps_if (pt_cmpR op_lt (pv 2) pe_int (nomark _))
  (pss_one (ps_ret (pe_tup (pa_cons (pe_ix (ix_listK K) (pe_lst (pa_cons pe_str (pa_cons pe_str pa_nil))) (pe_op op_sub (pv 2) pe_int) (fun _ _ => rfl)) (pa_cons (pe_callG G__law_take (hr.mono (by first | decide | omega)) (by rfl) (pa_cons (pv 0) (pa_cons (pe_op op_add (pv 3) pe_int) pa_nil))) (pa_cons (pv 4) pa_nil)))))) pss_nil)
  (pss_cons (ps_if (pt_cmpR op_eq (pv 2) pe_int (nomark _))
  (pss_one (ps_ret (pe_tup (pa_cons pe_str (pa_cons (pe_callG G__law_take (hr.mono (by first | decide | omega)) (by rfl) (pa_cons (pv 0) (pa_cons pe_int pa_nil))) (pa_cons (pv 4) pa_nil)))))) pss_nil)
  (pss_cons (ps_if (pt_cmpR op_eq (pv 2) pe_int (nomark _))
  (pss_cons (ps_set (i := 3) nd rfl (by first | exact .inl rfl | exact .inr rfl) (pe_callB (c_min2 rfl) (by rfl) T.n_min (by decide +kernel) (pa_cons (pv 3) (pa_cons (pe_ix (ix_listK K) (pe_lst (pa_cons pe_int (pa_cons pe_int pa_nil))) (pe_callG G__law_take (hr.mono (by first | decide | omega)) (by rfl) (pa_cons (pv 0) (pa_cons pe_int pa_nil))) (fun _ _ => rfl)) pa_nil))))
  (pss_cons (ps_set (i := 5) nd rfl (by first | exact .inl rfl | exact .inr rfl) (pe_ix (ix_listK K) (pe_lst (pa_cons pe_int (pa_cons pe_int (pa_cons pe_int pa_nil)))) (pe_callG G__law_take (hr.mono (by first | decide | omega)) (by rfl) (pa_cons (pv 0) (pa_cons pe_int pa_nil))) (fun _ _ => rfl)))
  (pss_one (ps_ret (pe_tup (pa_cons pe_str (pa_cons (pe_callG G__law_take (hr.mono (by first | decide | omega)) (by rfl) (pa_cons (pv 0) (pa_cons (pe_op op_add (pv 3) pe_int) pa_nil))) (pa_cons (pe_callTy (c_tupK K) (by rfl) T.n_tuple (by decide +kernel) (pa_cons (pe_lc (own := [("k", 7)]) rfl nd (pi_range1 rfl T.n_range (pa_cons (pv 3) pa_nil)) (blkOk_by (own := [("k", 7)]) (N := ["c", "words", "kind", "many", "names", "most", "rows", "k", "row"]) (by kernel_rfl)) (fun _ _ _ _ _ => (pg_name (i := 7) nd rfl (by first | exact .inl rfl | exact .inr rfl))) (fun _ _ _ _ _ => pts_nil) (fun _ _ _ _ _ => (pe_tup (pa_cons (pe_ix (ix_listK K) (pv 1) (pv 7) (fun _ _ => rfl)) (pa_cons (pe_op op_add pe_int (pe_callG G__law_take (hr.mono (by first | decide | omega)) (by rfl) (pa_cons (pv 0) (pa_cons (pv 5) pa_nil)))) pa_nil))))) pa_nil)) pa_nil)))))))) pss_nil)
  (pss_cons (ps_setLc (i := 6) (own := [("k", 7)]) rfl nd rfl rfl (sw_true rfl rfl rfl (by decide +kernel)) (pi_range1 rfl T.n_range (pa_cons (pv 3) pa_nil)) (blkOk_by (own := [("k", 7)]) (N := ["c", "words", "kind", "many", "names", "most", "rows", "k", "row"]) (by kernel_rfl)) (fun _ _ _ _ _ => (pg_name (i := 7) nd rfl (by first | exact .inl rfl | exact .inr rfl))) (fun _ _ _ _ _ => pts_nil) (fun _ _ _ _ _ => (pe_tup (pa_cons (pe_ix (ix_listK K) (pv 1) (pv 7) (fun _ _ => rfl)) (pa_cons (pe_ix (ix_listK K) (pe_lst (pa_cons (pe_callG G__law_take (hr.mono (by first | decide | omega)) (by rfl) (pa_cons (pv 0) (pa_cons pe_int pa_nil))) (pa_cons pe_int (pa_cons (pe_callG G__law_take (hr.mono (by first | decide | omega)) (by rfl) (pa_cons (pv 0) (pa_cons pe_int pa_nil))) pa_nil)))) (pe_callG G__law_take (hr.mono (by first | decide | omega)) (by rfl) (pa_cons (pv 0) (pa_cons pe_int pa_nil))) (fun _ _ => rfl)) pa_nil)))))
  (pss_cons (ps_if (pt_cmpR op_eq (pe_callB (cr_sumK K rfl) (by rfl) T.n_sum (by decide +kernel) (pa_cons (pe_lc (own := [("row", 8)]) rfl nd (pi_listK K (pv 6)) (blkOk_by (own := [("row", 8)]) (N := ["c", "words", "kind", "many", "names", "most", "rows", "k", "row"]) (by kernel_rfl)) (fun _ _ _ _ _ => (pg_name (i := 8) nd rfl (by first | exact .inl rfl | exact .inr rfl))) (fun _ _ _ _ _ => pts_nil) (fun _ _ _ _ _ => (pe_ix (ix_tupK K) (pv 8) pe_int (fun _ _ => rfl)))) pa_nil)) pe_int (nomark _))
  (pss_one (ps_asg (pe_tup (pa_cons (pe_ix (ix_listK K) (pv 1) pe_int (fun _ _ => rfl)) (pa_cons (pe_op op_add pe_int (pe_callG G__law_take (hr.mono (by first | decide | omega)) (by rfl) (pa_cons (pv 0) (pa_cons pe_int pa_nil)))) pa_nil))) (pg_sub (pv 6) pe_int set_list))) pss_nil)
  (pss_one (ps_ret (pe_tup (pa_cons pe_str (pa_cons (pe_callG G__law_take (hr.mono (by first | decide | omega)) (by rfl) (pa_cons (pv 0) (pa_cons pe_int pa_nil))) (pa_cons (pe_callTy (c_tupK K) (by rfl) T.n_tuple (by decide +kernel) (pa_cons (pv 6) pa_nil)) pa_nil)))))))))))))))), ?_⟩
  try dsimp only [cxOf, Cx.wish]
  obtain ⟨L, x, ws, d0, hw0, wok, q⟩ := hyp
  have line : (100000 : Nat) < sizeLine := by decide
  -- kind
  refine s_seq ?_
  refine s_cut (fun σ' H' => ∃ kd : Int, σ' = stP (some (.ref c)) (some (.ref wa)) (some (.int kd)) ∧ But c H H' ∧ DRX H' c L x ∧ H' wa = some (.lst (ws.map V.str)) ∧ 0 ≤ kd ∧ kd < 7) (fun N hN => ?_) ?_
  · kc_close
    refine u_takeX d0 (by omega) (by omega) fun H1 t b1 d1 g0 g1 => ?_
    kc_close
    exact hN _ _ ⟨t, rfl, b1, d1, b1 _ _ (words_ne d0 hw0 wok) hw0, g0, g1⟩
  rintro _ H1 ⟨kd, rfl, b1, d1, hw1, k0, k7⟩
  -- many
  refine s_seq ?_
  refine s_cut (fun σ' H' => ∃ m : Nat, σ' = stP (some (.ref c)) (some (.ref wa)) (some (.int kd)) (some (.int m)) ∧ But c H H' ∧ DRX H' c L x ∧ H' wa = some (.lst (ws.map V.str)) ∧ 0 < m ∧ m ≤ 6) (fun N hN => ?_) ?_
  · kc_close
    intro l1 H2 n2 s2 e2
    have d2 := d1.same s2
    kc_close
    refine u_takeX d2 (by omega) (by omega) fun H3 t3 b3 d3 g0 g1 => ?_
    obtain ⟨mm, hmm, emm⟩ := ints3 (x := 4) (y := 4) (z := 6) g0 g1
    kc_close
    refine s_ixL (SqL.of (b3 _ _ (d1.ne n2) e2)) emm ?_
    kc_close
    refine u_takeX d3 (by omega) (by omega) fun H4 t4 b4 d4 g2 g3 => ?_
    obtain ⟨j, rfl⟩ : ∃ j : Nat, t4 = (j : Int) := ⟨t4.toNat, by omega⟩
    kc_close
    refine hN _ _ ⟨1 + j, ?_, b1.trans ((But.of s2).trans (b3.trans b4)), d4, b4 _ _ (words_ne d3 (b3 _ _ (words_ne d2 (s2 _ _ hw1) wok) (s2 _ _ hw1)) wok) (b3 _ _ (words_ne d2 (s2 _ _ hw1) wok) (s2 _ _ hw1)), by omega, by omega⟩
    rw [Int.natCast_add]
    rfl
  rintro _ H2 ⟨m, rfl, b2, d2, hw2, m0, m6⟩
  -- names
  refine s_seq ?_
  refine s_cut (fun σ' H' => ∃ nt : Addr, σ' = stP (some (.ref c)) (some (.ref wa)) (some (.int kd)) (some (.int m)) (some (.ref nt)) ∧ But c H H' ∧ DRX H' c L x ∧ H' wa = some (.lst (ws.map V.str)) ∧ SqT K H' nt ((ws.take m).map V.str)) (fun N hN => ?_) ?_
  · kc_close
    refine s_slL (SqL.of hw2) fun q1 H3 n3 s3 e3 => ?_
    rw [cut_to, ← List.map_take] at e3
    kc_close
    refine s_tupL (SqL.of e3) fun q2 H4 n4 s4 e4 => ?_
    have s24 := s3.trans s4
    kc_close
    exact hN _ _ ⟨q2, rfl, b2.trans (But.of s24), d2.same s24, s24 _ _ hw2, SqT.of e4⟩
  rintro _ H3 ⟨nt, rfl, b3, d3, hw3, hnt⟩
  have nok := wok.take m0 (show m ≤ 12 by omega)
  have ln : (ws.take m).length = m := by rw [List.length_take, wok.len]; omega
  -- sure
  refine s_seq ?_
  refine s_if ?_
  kc_close
  refine ifI (fun e0 => ?_) (fun e0 => ?_)
  · kc_close
    refine u_takeX d3 (by omega) (by omega) fun H4 t4 b4 d4 g0 g1 => ?_
    obtain ⟨j, rfl⟩ : ∃ j : Nat, t4 = (j : Int) := ⟨t4.toNat, by omega⟩
    kc_close
    refine s_ixL (SqL.of (b4 _ _ (words_ne d3 hw3 wok) hw3)) (word_at wok rfl (by omega)) ?_
    kc_close
    intro T H5 n5 s5 e5
    kc_close
    exact q H5 _ (.sure (ws.getD j (Str.ofString ""))) (b3.trans (b4.trans (But.of s5))) (d4.same s5) ⟨T, _, rfl, SqT.of e5, _, _, rfl, rfl, _, _, rfl, rfl, rfl⟩ (word_nm wok (by omega))
  -- order
  kc_close
  refine s_if ?_
  kc_close
  refine ifI (fun e1 => ?_) (fun e1 => ?_)
  · kc_close
    intro T H5 n5 s5 e5
    kc_close
    exact q H5 _ (.order (ws.take m)) (b3.trans (But.of s5)) (d3.same s5) ⟨T, _, rfl, SqT.of e5, _, _, rfl, rfl, _, _, rfl, im_names (sqt_same s5 hnt), rfl⟩ ⟨nok, by omega⟩
  -- draw, set
  kc_close
  refine s_if ?_
  kc_close
  refine ifP (fun e2 => ?_) (fun e2 => ?_)
  · kc_close
    intro l1 H4 n4 s4 e4
    obtain ⟨kk, hk, ek⟩ : ∃ kk : Nat, kk < 2 ∧ atI [V.str (Str.ofString "draw"), .str (Str.ofString "set")] (kd - 2) = some (.str (kindS kk)) := by
      rcases (show kd = 2 ∨ kd = 3 by omega) with rfl | rfl
      · exact ⟨0, by omega, rfl⟩
      · exact ⟨1, by omega, rfl⟩
    kc_close
    refine s_ixL (SqL.of e4) ek ?_
    kc_close
    refine u_takeX (d3.same s4) (by omega) (by omega) fun H5 t5 b5 d5 g0 g1 => ?_
    kc_close
    intro T H6 n6 s6 e6
    kc_close
    exact q H6 _ (.pick kk t5 (ws.take m)) (b3.trans ((But.of s4).trans (b5.trans (But.of s6)))) (d5.same s6) ⟨T, _, rfl, SqT.of e6, _, _, rfl, rfl, _, _, rfl, rfl, _, _, rfl, im_names (sqt_same s6 (sqt_butX b5 (d3.same s4) (sqt_same s4 hnt))), rfl⟩ ⟨nok, by omega, g0, by omega, fun _ => by omega, by omega⟩
  -- again
  kc_close
  refine s_if ?_
  kc_close
  refine ifI (fun e3 => ?_) (fun e3 => ?_)
  · kc_close
    refine u_takeX d3 (by omega) (by omega) fun H5 t5 b5 d5 g0 g1 => ?_
    kc_close
    intro T H6 n6 s6 e6
    kc_close
    exact q H6 _ (.pick 2 t5 (ws.take m)) (b3.trans (b5.trans (But.of s6))) (d5.same s6) ⟨T, _, rfl, SqT.of e6, _, _, rfl, rfl, _, _, rfl, rfl, _, _, rfl, im_names (sqt_same s6 (sqt_butX b5 d3 hnt)), rfl⟩ ⟨nok, by omega, g0, by omega, by omega, by omega⟩
  -- prizes
  kc_close
  refine s_if ?_
  kc_close
  refine ifI (fun e4 => ?_) (fun e4 => ?_)
  · refine s_seq ?_
    refine s_cut (fun σ' H' => ∃ m' : Nat, σ' = stP (some (.ref c)) (some (.ref wa)) (some (.int kd)) (some (.int m')) (some (.ref nt)) ∧ But c H H' ∧ DRX H' c L x ∧ H' wa = some (.lst (ws.map V.str)) ∧ 0 < m' ∧ m' ≤ 5) (fun N hN => ?_) ?_
    · kc_close
      intro l1 H4 n4 s4 e4'
      have d4 := d3.same s4
      kc_close
      refine u_takeX d4 (by omega) (by omega) fun H5 t5 b5 d5 g0 g1 => ?_
      obtain ⟨mm, hmm, emm⟩ := ints2 (x := 3) (y := 5) g0 g1
      kc_close
      refine s_ixL (SqL.of (b5 _ _ (d3.ne n4) e4')) emm ?_
      kc_close
      have b35 := b3.trans ((But.of s4).trans b5)
      have hw5 := b5 _ _ (words_ne d4 (s4 _ _ hw3) wok) (s4 _ _ hw3)
      by_cases hlt : mm < (m : Int)
      · rw [if_pos hlt]
        obtain ⟨j, rfl⟩ : ∃ j : Nat, mm = (j : Int) := ⟨mm.toNat, by omega⟩
        exact hN _ _ ⟨j, rfl, b35, d5, hw5, by omega, by omega⟩
      · rw [if_neg hlt]
        exact hN _ _ ⟨m, rfl, b35, d5, hw5, m0, by omega⟩
    rintro _ H4 ⟨m', rfl, b4, d4, hw4, m0', m5'⟩
    refine s_seq ?_
    refine s_cut (fun σ' H' => ∃ mo : Int, σ' = stP (some (.ref c)) (some (.ref wa)) (some (.int kd)) (some (.int m')) (some (.ref nt)) (some (.int mo)) ∧ But c H H' ∧ DRX H' c L x ∧ H' wa = some (.lst (ws.map V.str)) ∧ 1 ≤ mo ∧ mo ≤ 100) (fun N hN => ?_) ?_
    · kc_close
      intro l1 H5 n5 s5 e5
      kc_close
      refine u_takeX (d4.same s5) (by omega) (by omega) fun H6 t6 b6 d6 g0 g1 => ?_
      obtain ⟨mm, hmm, emm⟩ := ints3 (x := 1) (y := 3) (z := 100) g0 g1
      kc_close
      refine s_ixL (SqL.of (b6 _ _ (d4.ne n5) e5)) emm ?_
      kc_close
      exact hN _ _ ⟨mm, rfl, b4.trans ((But.of s5).trans b6), d6, b6 _ _ (words_ne (d4.same s5) (s5 _ _ hw4) wok) (s5 _ _ hw4), by omega, by omega⟩
    rintro _ H5 ⟨mo, rfl, b5, d5, hw5, mo1, mo2⟩
    kc_close
    refine u_takeX d5 (by omega) (by omega) fun H6 t6 b6 d6 g0 g1 => ?_
    have hw6 := b6 _ _ (words_ne d5 hw5 wok) hw5
    kc_close
    refine s_rng1v (by omega) (by omega) ?_
    rw [Int.toNat_natCast]
    refine l_rows (K := K) (fun k => ws.getD k (Str.ofString "")) (fun v => 1 ≤ v ∧ v ≤ 100) d6 (by omega) ?_ ?_
    · intro D N i H' hi bi di k
      have hwi := bi _ _ (words_ne d6 hw6 wok) hw6
      kc_close
      refine s_ixL (SqL.of hwi) (word_at wok (k := i) (by omega) (by omega)) ?_
      kc_close
      refine u_takeX di (by omega) (by omega) fun H7 t7 b7 d7 g2 g3 => ?_
      kc_close
      intro T H8 n8 s8 e8
      kc_close
      exact k H8 T (1 + t7) (b7.trans (But.of s8)) (d7.same s8) (SqT.of e8) ⟨by omega, by omega⟩
    · intro D H' as rows nD nDc nDL bi di hps hn hp eD
      rw [words_take wok (by omega)] at hn
      have hlr := congrArg List.length hn
      rw [List.length_map, List.length_take, wok.len] at hlr
      kc_close
      refine s_tupL (SqL.of eD) fun T2 H8 n8 s8 e8 => ?_
      kc_close
      intro T H9 n9 s9 e9
      kc_close
      refine q H9 _ (.prizes t6 rows) (b5.trans (b6.trans (bi.trans ((But.of s8).trans (But.of s9))))) ((di.same s8).same s9) ⟨T, _, rfl, SqT.of e9, _, _, rfl, rfl, _, _, rfl, rfl, _, _, rfl, im_rows (SqT.of (s9 _ _ e8)) (L2.Paired.mapP hps fun a r h => sqt_same (s8.trans s9) h), rfl⟩ ⟨?_, by omega, g0, by omega, hp⟩
      rw [hn]
      exact wok.take m0' (by omega)
  -- seats
  refine s_next ?_
  refine s_seq ?_
  refine s_cut (fun σ' H' => ∃ (D : Addr) (as : List Addr) (rows : List (Str × Int)) (y : Option V), σ' = stP (some (.ref c)) (some (.ref wa)) (some (.int kd)) (some (.int m)) (some (.ref nt)) none (some (.ref D)) y ∧ But c H H' ∧ DRX H' c L x ∧ H' wa = some (.lst (ws.map V.str)) ∧ D ≠ c ∧ D ≠ L ∧ H D = none ∧ D ≠ wa ∧ Paired (IsRow K H') as rows ∧ rows.map (·.1) = ws.take m ∧ (∀ r ∈ rows, 0 ≤ r.2 ∧ r.2 ≤ 40) ∧ H' D = some (.lst (as.map V.ref))) (fun N hN => ?_) ?_
  · kc_close
    refine s_rng1v (by omega) (by omega) ?_
    rw [Int.toNat_natCast]
    refine l_rows (K := K) (fun k => ws.getD k (Str.ofString "")) (fun v => 0 ≤ v ∧ v ≤ 40) d3 (by omega) ?_ ?_
    · intro D N i H' hi bi di k
      have hwi := bi _ _ (words_ne d3 hw3 wok) hw3
      kc_close
      refine s_ixL (SqL.of hwi) (word_at wok (k := i) (by omega) (by omega)) ?_
      kc_close
      refine u_takeX di (by omega) (by omega) fun H7 t7 b7 d7 g2 g3 => ?_
      kc_close
      refine u_takeX d7 (by omega) (by omega) fun H8 t8 b8 d8 g4 g5 => ?_
      kc_close
      intro l1 H9 n9 s9 e9
      kc_close
      refine u_takeX (d8.same s9) (by omega) (by omega) fun H10 t10 b10 d10 g6 g7 => ?_
      obtain ⟨mm, hmm, emm⟩ := ints3 (x := t7) (y := 0) (z := t8) g6 g7
      kc_close
      refine s_ixL (SqL.of (b10 _ _ (d8.ne n9) e9)) emm ?_
      kc_close
      intro T H11 n11 s11 e11
      kc_close
      exact k H11 T mm (b7.trans (b8.trans ((But.of s9).trans (b10.trans (But.of s11))))) (d10.same s11) (SqT.of e11) ⟨by omega, by omega⟩
    · intro D H' as rows nD nDc nDL bi di hps hn hp eD
      rw [words_take wok (by omega)] at hn
      have hw' := bi _ _ (words_ne d3 hw3 wok) hw3
      kc_close
      refine hN _ _ ⟨D, as, rows, _, rfl, b3.trans bi, di, hw', nDc, nDL, ?_, ?_, hps, hn, hp, eD⟩
      · cases e : H D with
        | none => rfl
        | some o =>
          rw [b3 _ _ nDc e] at nD
          cases nD
      · intro z
        rw [z, hw3] at nD
        cases nD
  rintro _ H4 ⟨D, as, rows, y, rfl, b4, d4, hw4, nDc, nDL, nD, nDw, hps, hn, hp, eD⟩
  have hlr := congrArg List.length hn
  rw [List.length_map, List.length_take, wok.len] at hlr
  have hl := Paired.length hps
  refine s_seq ?_
  refine s_cut (fun σ' H' => ∃ (as : List Addr) (rows : List (Str × Int)) (y : Option V), σ' = stP (some (.ref c)) (some (.ref wa)) (some (.int kd)) (some (.int m)) (some (.ref nt)) none (some (.ref D)) y ∧ But c H H' ∧ DRX H' c L x ∧ Paired (IsRow K H') as rows ∧ rows.map (·.1) = ws.take m ∧ (∀ r ∈ rows, 0 ≤ r.2 ∧ r.2 ≤ 40) ∧ 0 < (rows.map (·.2)).sum ∧ H' D = some (.lst (as.map V.ref))) (fun N hN => ?_) ?_
  · refine s_if ?_
    kc_close
    refine s_ilistv (SqL.of eD) ?_
    refine l_mapL (fun i => V.int (rows.getD i (Str.ofString "", 0)).2) (SqL.of eD) (by rw [List.length_map]; omega) ?_ ?_
    · intro D2 N2 i x2 H' e sm k
      obtain ⟨a, r, rfl, ea, er, hr⟩ := pr_item2 hps e
      have hr' := sqt_same sm hr
      kc_close
      have er2 : rows.getD i (Str.ofString "", 0) = r := by rw [List.getD_eq_getElem?_getD, er]; rfl
      rw [er2] at k
      exact k _ (Same.refl _)
    intro D2 H5 n5 s5 e5
    have e5' : H5 D2 = some (.lst ((rows.map (·.2)).map V.int)) := by
      rw [e5, List.length_map, hl]
      refine congrArg (fun z => some (HO.lst z)) (List.ext_getElem? fun i => ?_)
      rw [List.getElem?_map, List.getElem?_map, List.getElem?_map]
      by_cases hi : i < rows.length
      · rw [List.getElem?_range hi, List.getElem?_eq_getElem hi]
        show some (V.int (rows.getD i _).2) = _
        rw [List.getD_eq_getElem?_getD, List.getElem?_eq_getElem hi]
        rfl
      · rw [List.getElem?_eq_none (by simpa using Nat.le_of_not_lt hi), List.getElem?_eq_none (by omega)]
        rfl
    kc_close
    refine s_sum (SqL.of e5') ?_
    kc_close
    have d5 := d4.same s5
    have hw5 := s5 _ _ hw4
    refine ifI (fun hz => ?_) (fun hz => ?_)
    · kc_close
      refine s_ixL (SqL.of hw5) (word_at wok (k := 0) (by omega) (by omega)) ?_
      kc_close
      refine u_takeX d5 (by omega) (by omega) fun H6 t6 b6 d6 g0 g1 => ?_
      kc_close
      intro T H7 n7 s7 e7
      kc_close
      cases rows with
      | nil => simp at hlr; omega
      | cons r0 rr =>
      cases as with
      | nil => cases hps
      | cons a0 ar =>
      cases hps with
      | cons hr0 hps =>
      have eD7 := s7 _ _ (b6 _ _ nDc (s5 _ _ eD))
      refine s_setL eD7 (j := 0) (ixN_nat (i := 0) (by simp)) fun H8 b8 e8 => ?_
      have nd8 := (d6.same s7).but b8 nDc nDL
      have k8 : ∀ a xs, SqT K H5 a xs → SqT K H8 a xs := fun a xs h => sqt_but b8 eD7 (sqt_same s7 (sqt_butX b6 d5 h))
      refine hN _ _ ⟨T :: ar, (ws.getD 0 (Str.ofString ""), 1 + t6) :: rr, _, rfl, ?_, nd8, .cons (sqt_but b8 eD7 (SqT.of e7)) (L2.Paired.mapP hps fun a r h => k8 _ _ (sqt_same s5 h)), ?_, fun r hr => ?_, ?_, e8⟩
      · exact But.sameN b8 (b4.trans ((But.of s5).trans (b6.trans (But.of s7)))) nD
      · have e0 : ws.take m = (ws.getD 0 (Str.ofString "")) :: rr.map (·.1) := by
          have h1 := congrArg List.head? hn
          rw [List.map_cons, List.head?_cons] at h1
          rw [← hn, List.map_cons]
          congr 1
          have h2 : (ws.take m)[0]? = ws[0]? := List.getElem?_take_of_lt m0
          rw [List.head?_eq_getElem?, h2, List.getElem?_eq_getElem (by rw [wok.len]; omega)] at h1
          rw [List.getD_eq_getElem?_getD, List.getElem?_eq_getElem (by rw [wok.len]; omega)]
          exact Option.some.inj h1
        rw [e0]
        rfl
      · rcases List.mem_cons.mp hr with h | h
        · rw [h]
          exact ⟨by show 0 ≤ 1 + t6; omega, by show 1 + t6 ≤ 40; omega⟩
        · exact hp r (List.mem_cons_of_mem _ h)
      · have nn : ∀ l : List (Str × Int), (∀ r ∈ l, 0 ≤ r.2 ∧ r.2 ≤ 40) → 0 ≤ (l.map (·.2)).sum := by
          intro l
          induction l with
          | nil => intro _; exact Int.le_refl _
          | cons r l ih =>
            intro h
            have h1 := ih fun r m => h r (List.mem_cons_of_mem _ m)
            have h2 := h r (List.mem_cons_self ..)
            rw [List.map_cons, List.sum_cons]
            omega
        have := nn rr fun r m => hp r (List.mem_cons_of_mem _ m)
        rw [List.map_cons, List.sum_cons]
        show 0 < 1 + t6 + _
        omega
    · kc_close
      refine hN _ _ ⟨as, rows, _, rfl, b4.trans (But.of s5), d5, L2.Paired.mapP hps fun a r h => sqt_same s5 h, hn, hp, ?_, s5 _ _ eD⟩
      have nn : ∀ l : List (Str × Int), (∀ r ∈ l, 0 ≤ r.2 ∧ r.2 ≤ 40) → 0 ≤ (l.map (·.2)).sum := by
        intro l
        induction l with
        | nil => intro _; exact Int.le_refl _
        | cons r l ih =>
          intro h
          have h1 := ih fun r m => h r (List.mem_cons_of_mem _ m)
          have h2 := h r (List.mem_cons_self ..)
          rw [List.map_cons, List.sum_cons]
          omega
      have := nn rows hp
      omega
  rintro _ H5 ⟨as2, rows2, y2, rfl, b5, d5, hps2, hn2, hp2, hsum, eD2⟩
  have hlr2 := congrArg List.length hn2
  rw [List.length_map, List.length_take, wok.len] at hlr2
  kc_close
  refine u_takeX d5 (by omega) (by omega) fun H6 t6 b6 d6 g0 g1 => ?_
  kc_close
  refine s_tupL (SqL.of (b6 _ _ nDc eD2)) fun T2 H7 n7 s7 e7 => ?_
  kc_close
  intro T H8 n8 s8 e8
  kc_close
  refine q H8 _ (.seats t6 rows2) (b5.trans (b6.trans ((But.of s7).trans (But.of s8)))) ((d6.same s7).same s8) ⟨T, _, rfl, SqT.of e8, _, _, rfl, rfl, _, _, rfl, rfl, _, _, rfl, im_rows (SqT.of (s8 _ _ e7)) (L2.Paired.mapP hps2 fun a r h => sqt_same (s7.trans s8) (sqt_butX b6 d5 h)), rfl⟩ ⟨?_, by omega, g0, by omega, hp2, hsum⟩
  rw [hn2]
  exact nok
theorem u_plain {c wa L : Addr} {x : Int} {ws : List Str} {H : Hp} {Q : VK} {E : XK} (d : DRX H c L x) (hw : H wa = some (.lst (ws.map V.str))) (wok : WordsOk ws) (q : ∀ H' v e, But c H H' → DRX H' c L x → Im K H' (lotD e) v → PlainOk e → Q v H') : spPlain K [.ref c, .ref wa] H Q E := ⟨c, wa, rfl, L, x, ws, d, hw, wok, q⟩
end
end K1
end
section
open PySem PySem.Spec PyProof.Rows L2 Z
local macro_rules | `(tactic| ktr_room) => `(tactic| first
  | assumption
  | (apply SqT.of; assumption)
  | (apply SqL.of; assumption)
  | (apply sqt_same; assumption; ktr_room)
  | (apply sql_same; assumption; ktr_room)
  | (apply sqt_but; assumption; assumption; ktr_room)
  | (apply sql_but; assumption; assumption; ktr_room)
  | (apply Same.of_; assumption; ktr_room)
  | (apply But.of_; assumption; assumption; ktr_room)
  | exact same_refl
  | exact but_refl
  | (apply same_tr; assumption; ktr_room)
  | (apply same_but; assumption; ktr_room; assumption)
  | (apply but_tr; assumption; ktr_room)
  | (apply but_trB; assumption; ktr_room))
local macro_rules | `(tactic| ktr_units) => `(tactic| first | with_reducible assumption | omega | rfl | exact ⟨by omega, by omega⟩ | exact .inl ⟨by omega, by omega⟩ | exact .inr ⟨by omega, by omega⟩ | exact ⟨by decide, by decide, by decide⟩ | exact Nat.le_of_ble_eq_true rfl | decide)
local macro_rules | `(tactic| kc_close) => `(tactic| repeat (with_reducible first
  | refine s_var (by with_unfolding_all rfl) ?_
  | refine s_c ?_
  | refine s_op ?_
  | refine s_rI0 ?_
  | refine s_asg ?_
  | refine s_gname ?_
  | refine s_seq ?_
  | refine s_cons ?_
  | refine s_nil ?_
  | refine s_call ?_
  | refine s_ret ?_
  | o_fieldsN
  | refine s_test ?_
  | refine s_bl ?_
  | refine s_rI (by with_unfolding_all (ktr_units)) ?_
  | refine s_rEq rfl ?_
  | refine s_rNe rfl ?_
  | refine s_cb ?_
  | refine s_int1 ?_
  | refine s_intB ?_
  | refine s_max2 ?_
  | refine s_min2 ?_
  | refine s_tup ?_
  | refine s_lst ?_
  | refine s_newT (by with_unfolding_all first | decide | exact Nat.le_of_ble_eq_true rfl) ?_
  | refine s_newL (by with_unfolding_all first | decide | exact Nat.le_of_ble_eq_true rfl) ?_
  | refine s_ixT (by ktr_room) (by with_unfolding_all rfl) ?_
  | refine s_ixL (by ktr_room) (by with_unfolding_all rfl) ?_
  | refine s_lenT (by ktr_room) ?_
  | refine s_lenL (by ktr_room) ?_
  | refine s_un ?_
  | refine s_rU ?_
  | refine s_and ?_
  | refine s_or ?_
  | refine s_not ?_
  | refine s_tB ?_
  | refine s_tru ?_
  | refine s_drop ?_
  | refine s_next ?_
  | refine s_for ?_
  | refine s_rng1 ?_
  | refine s_rng2 ?_
  | refine s_rng3 ?_
  | refine s_ilist ?_
  | refine s_itup ?_
  | refine s_iany ?_
  | refine s_ienum ?_
  | refine s_irev ?_
  | refine s_gcons ?_
  | refine s_gnil ?_
  | refine s_gtup (by ktr_room) (by with_unfolding_all rfl) ?_
  | refine s_gsub ?_
  | refine s_augS ?_
  | refine s_aug (by with_unfolding_all rfl) ?_
  | refine s_ipI ?_
  | refine s_bm ?_
  | refine s_bm0 ?_
  | refine s_tyL (by ktr_room) ?_
  | refine s_tyL0 (by ktr_room) ?_
  | refine s_sl ?_
  | refine s_part ?_
  | refine s_partv ?_
  | refine s_noPart ?_
  | refine s_lc ?_
  | refine s_yes ?_
  | refine s_wipe (by with_unfolding_all rfl) ?_
  | refine iteT ?_
  | refine s_retN ?_
  | refine s_isN ?_
  | refine s_truB ?_
  | refine s_isB2 ?_
  | refine s_notB2 ?_
  | refine s_revT ?_
  | refine s_andV ?_
  | refine s_orV ?_
  | refine s_ifE ?_
  | refine s_notK ?_
  | refine s_notN ?_
  | refine s_truL (by ktr_room) ?_
  | refine s_truT (by ktr_room) ?_))
open K1
local macro_rules | `(tactic| ktr_room) => `(tactic| first
  | (apply DR.same; assumption; ktr_room)
  | (apply sqt_butD; assumption; ktr_room; ktr_room))
open K1
local macro_rules | `(tactic| o_fieldsN) => `(tactic| with_reducible first
  | refine s_tyS ?_)
namespace K1
open TL
theorem pairDs_zip : ∀ (ws : List Int) (ls : List Lot), pairDs ws ls = (ws.zip ls).map fun p => .tuple [.int p.1, lotD p.2]
  | [], _ => by simp [pairDs]
  | _ :: _, [] => by simp [pairDs]
  | w :: ws, l :: ls => by
    show _ :: pairDs ws ls = _
    rw [pairDs_zip ws ls]
    rfl
theorem at_c4 {α : Type} {a b c d e : α} : atI [a, b, c, d, e] 4 = some e := rfl
theorem ints_of' : ∀ {ls : List V} {a b : Int}, (∀ v ∈ ls, ∃ i : Int, v = .int i ∧ a ≤ i ∧ i ≤ b) → ∃ ns : List Int, ls = ns.map V.int ∧ ns.length = ls.length ∧ ∀ i ∈ ns, a ≤ i ∧ i ≤ b
  | [], _, _, _ => ⟨[], rfl, rfl, fun i h => by cases h⟩
  | v :: ls, a, b, h => by
    obtain ⟨i, rfl, h1⟩ := h v (List.mem_cons_self ..)
    obtain ⟨ns, e1, e2, e3⟩ := ints_of' (ls := ls) fun v m => h v (List.mem_cons_of_mem _ m)
    refine ⟨i :: ns, by rw [List.map_cons, e1], by rw [List.length_cons, List.length_cons, e2], fun j hj => ?_⟩
    rcases List.mem_cons.mp hj with h | h
    · rw [h]; exact h1
    · exact e3 j h
theorem lotOk_succ : ∀ (d : Nat) (e : Lot), LotOk d e → LotOk (d + 1) e
  | 0, e, h => .inl h
  | d + 1, e, h => by
    rcases h with h | ⟨ls, rfl, h1, h2, h3⟩ | ⟨ws, ls, rfl, h1, h2, h3, h4, h5, h6⟩
    · exact .inl h
    · exact .inr (.inl ⟨ls, rfl, h1, h2, fun l m => lotOk_succ d l (h3 l m)⟩)
    · exact .inr (.inr ⟨ws, ls, rfl, h1, h2, h3, h4, h5, fun l m => lotOk_succ d l (h6 l m)⟩)
theorem lotOk_add : ∀ (k d : Nat) (e : Lot), LotOk d e → LotOk (d + k) e
  | 0, _, _, h => h
  | k + 1, d, e, h => lotOk_succ _ _ (lotOk_add k d e h)
section
variable {P : Program} {w : World} {K : PySem.W.Frag} {mg : Str → Option Value} {base : Heap}
def spLot (K : PySem.W.Frag) (n : Nat) : Sp := fun vs H Q _ => ∃ (c wa : Addr) (dp : Int), vs = [.ref c, .ref wa, .int dp] ∧ ∃ (L : Addr) (x : Int) (ws : List Str) (d : Nat), dp = d ∧ d + 1 ≤ n ∧ DRX H c L x ∧ H wa = some (.lst (ws.map V.str)) ∧ WordsOk ws ∧
  ∀ H' v e x', But c H H' → DRX H' c L x' → Im K H' (lotD e) v → LotOk d e → (nodes e : Int) = x - x' → min x 1 - 1 - 6 * d ≤ x' → (x < 2 → x' = x - 1) → Q v H'
/-- the slots -/
abbrev stLt (c words depth kind many lots weights k : Option V := none) : L2.St := [c, words, depth, kind, many, lots, weights, k]
theorem rec__law_lot (T : NoB mg) (n : Nat) (h : Has K mg "_law_lot" (topS 31) ["c", "words", "depth"]) (G__law_take : Good P w K mg base 2 "_law_take" ["c", "many"] (spTake)) (G__law_plain : Good P w K mg base 3 "_law_plain" ["c", "words"] (spPlain K)) (G__law_lot : Good P w K mg base (n + 3) "_law_lot" ["c", "words", "depth"] (spLot K n)) : Good P w K mg base (n + 3 + 1) "_law_lot" ["c", "words", "depth"] (spLot K (n + 1)) := by
  have sc : FnScope ["c", "words", "depth", "kind", "many", "lots", "weights", "k"] ["c", "words", "depth"] (defScope (topS 31)) := ⟨rfl, rfl, rfl, by decide +kernel, rfl, by decide +kernel, by decide +kernel⟩
  have nd := sc.nd
  refine h.good sc (fun vs H Q E h => by obtain ⟨c, wa, dp, rfl, _⟩ := h; rfl) (fun f cdv A outer s H vs Q E hr h => ?_)
  obtain ⟨c, wa, dp, rfl, hyp⟩ := h
  refine ⟨_, (pss_cons (ps_asg (pe_op op_sub (pe_ix (ix_listK K) (pv 0) pe_int (fun _ _ => rfl)) pe_int) (pg_sub (pv 0) pe_int set_list))
  (pss_cons (ps_set (i := 3) nd rfl (by first | exact .inl rfl | exact .inr rfl) (pe_callG G__law_take (hr.mono (by first | decide | omega)) (by rfl) (pa_cons (pv 0) (pa_cons pe_int pa_nil))))
  (pss_cons (ps_if (PW.pt (pw_or (pt_cmpR op_lt (pv 2) pe_int (nomark _)) (pw_or (pt_cmpR op_lt (pe_ix (ix_listK K) (pv 0) pe_int (fun _ _ => rfl)) pe_int (nomark _)) (pw_or1 (pt_cmpR op_lt (pv 3) pe_int (nomark _))))))
  (pss_one (ps_ret (pe_callG G__law_plain (hr.mono (by first | decide | omega)) (by rfl) (pa_cons (pv 0) (pa_cons (pv 1) pa_nil))))) pss_nil)
  (pss_cons (ps_set (i := 4) nd rfl (by first | exact .inl rfl | exact .inr rfl) (pe_op op_add pe_int (pe_callG G__law_take (hr.mono (by first | decide | omega)) (by rfl) (pa_cons (pv 0) (pa_cons (pe_ix (ix_listK K) (pe_lst (pa_cons pe_int (pa_cons pe_int (pa_cons pe_int pa_nil)))) (pe_callG G__law_take (hr.mono (by first | decide | omega)) (by rfl) (pa_cons (pv 0) (pa_cons pe_int pa_nil))) (fun _ _ => rfl)) pa_nil)))))
  (pss_cons (ps_set (i := 5) nd rfl (by first | exact .inl rfl | exact .inr rfl) (pe_lc (own := [("k", 7)]) rfl nd (pi_range1 rfl T.n_range (pa_cons (pv 4) pa_nil)) (blkOk_by (own := [("k", 7)]) (N := ["c", "words", "depth", "kind", "many", "lots", "weights", "k"]) (by kernel_rfl)) (fun _ _ _ _ _ => (pg_name (i := 7) nd rfl (by first | exact .inl rfl | exact .inr rfl))) (fun _ _ _ _ _ => pts_nil) (fun _ _ _ _ _ => (pe_callG G__law_lot (hr.mono (by first | decide | omega)) (by rfl) (pa_cons (pv 0) (pa_cons (pv 1) (pa_cons (pe_op op_sub (pv 2) pe_int) pa_nil)))))))
  (pss_cons (ps_if (pt_cmpR op_eq (pv 3) pe_int (nomark _))
  (pss_one (ps_ret (pe_tup (pa_cons pe_str (pa_cons (pe_callTy (c_tupK K) (by rfl) T.n_tuple (by decide +kernel) (pa_cons (pv 5) pa_nil)) pa_nil))))) pss_nil)
  (pss_cons (ps_set (i := 6) nd rfl (by first | exact .inl rfl | exact .inr rfl) (pe_lc (own := [("k", 7)]) rfl nd (pi_range1 rfl T.n_range (pa_cons (pv 4) pa_nil)) (blkOk_by (own := [("k", 7)]) (N := ["c", "words", "depth", "kind", "many", "lots", "weights", "k"]) (by kernel_rfl)) (fun _ _ _ _ _ => (pg_name (i := 7) nd rfl (by first | exact .inl rfl | exact .inr rfl))) (fun _ _ _ _ _ => pts_nil) (fun _ _ _ _ _ => (pe_callG G__law_take (hr.mono (by first | decide | omega)) (by rfl) (pa_cons (pv 0) (pa_cons (pe_ix (ix_listK K) (pe_lst (pa_cons pe_int (pa_cons pe_int (pa_cons pe_int pa_nil)))) (pe_callG G__law_take (hr.mono (by first | decide | omega)) (by rfl) (pa_cons (pv 0) (pa_cons pe_int pa_nil))) (fun _ _ => rfl)) pa_nil))))))
  (pss_cons (ps_if (pt_cmpR op_eq (pe_callB (cr_sumK K rfl) (by rfl) T.n_sum (by decide +kernel) (pa_cons (pv 6) pa_nil)) pe_int (nomark _))
  (pss_one (ps_asg (pe_op op_add pe_int (pe_callG G__law_take (hr.mono (by first | decide | omega)) (by rfl) (pa_cons (pv 0) (pa_cons pe_int pa_nil)))) (pg_sub (pv 6) pe_int set_list))) pss_nil)
  (pss_one (ps_ret (pe_tup (pa_cons pe_str (pa_cons (pe_callTy (c_tupK K) (by rfl) T.n_tuple (by decide +kernel) (pa_cons (pe_lc (own := [("k", 7)]) rfl nd (pi_range1 rfl T.n_range (pa_cons (pv 4) pa_nil)) (blkOk_by (own := [("k", 7)]) (N := ["c", "words", "depth", "kind", "many", "lots", "weights", "k"]) (by kernel_rfl)) (fun _ _ _ _ _ => (pg_name (i := 7) nd rfl (by first | exact .inl rfl | exact .inr rfl))) (fun _ _ _ _ _ => pts_nil) (fun _ _ _ _ _ => (pe_tup (pa_cons (pe_ix (ix_listK K) (pv 6) (pv 7) (fun _ _ => rfl)) (pa_cons (pe_ix (ix_listK K) (pv 5) (pv 7) (fun _ _ => rfl)) pa_nil))))) pa_nil)) pa_nil))))))))))))), ?_⟩
  try dsimp only [cxOf, Cx.wish]
  obtain ⟨L, x, ws, d, rfl, hd, d0, hw0, wok, q⟩ := hyp
  have line : (100000 : Nat) < sizeLine := by decide
  have hwc := words_ne d0 hw0 wok
  -- one more
  refine s_seq ?_
  refine s_cut (fun σ' H' => σ' = stLt (some (.ref c)) (some (.ref wa)) (some (.int d)) ∧ But c H H' ∧ DRX H' c L (x - 1)) (fun N hN => ?_) ?_
  · obtain ⟨ns, i, r, m, ec, hL, nL, h0⟩ := d0
    kc_close
    refine s_setL ec (j := 4) rfl fun H1 b1 e1 => ?_
    exact hN _ _ ⟨rfl, b1, ns, i, r, m, e1, b1 _ _ nL hL, nL, h0⟩
  rintro _ H1 ⟨rfl, b1, d1⟩
  have hw1 := b1 _ _ hwc hw0
  -- kind
  refine s_seq ?_
  refine s_cut (fun σ' H' => ∃ kd : Int, σ' = stLt (some (.ref c)) (some (.ref wa)) (some (.int d)) (some (.int kd)) ∧ But c H H' ∧ DRX H' c L (x - 1)) (fun N hN => ?_) ?_
  · kc_close
    refine u_takeX d1 (by omega) (by omega) fun H2 t b2 d2 g0 g1 => ?_
    kc_close
    exact hN _ _ ⟨t, rfl, b1.trans b2, d2⟩
  rintro _ H2 ⟨kd, rfl, b2, d2⟩
  have hw2 := b2 _ _ hwc hw0
  -- plain
  refine s_seq ?_
  refine s_cut (fun σ' H' => σ' = stLt (some (.ref c)) (some (.ref wa)) (some (.int d)) (some (.int kd)) ∧ H' = H2 ∧ 1 ≤ d ∧ 2 ≤ x) (fun N hN => ?_) ?_
  · have plain : spPlain K [.ref c, .ref wa] H2 Q E0 := u_plain d2 hw2 wok fun H' v e b' d' im po => q H' v e (x - 1) (b2.trans b') d' im (LotOk.plain po) (by rw [plain_nodes po]; omega) (by omega) (fun _ => rfl)
    refine s_if ?_
    kc_close
    refine ifP (fun h1 => ?_) (fun h1 => ?_)
    · kc_close
      exact plain
    obtain ⟨ns, i, r, m, ec, hL, nL, h0⟩ := id d2
    kc_close
    refine ifP (fun h2 => ?_) (fun h2 => ?_)
    · kc_close
      exact plain
    kc_close
    refine ifP (fun h3 => ?_) (fun h3 => ?_)
    · kc_close
      exact plain
    · kc_close
      exact hN _ _ ⟨rfl, rfl, by omega, by omega⟩
  rintro _ H2 ⟨rfl, rfl, d1', x2⟩
  -- many
  refine s_seq ?_
  refine s_cut (fun σ' H' => ∃ m : Nat, σ' = stLt (some (.ref c)) (some (.ref wa)) (some (.int d)) (some (.int kd)) (some (.int m)) ∧ But c H H' ∧ DRX H' c L (x - 1) ∧ 0 < m ∧ m ≤ 6) (fun N hN => ?_) ?_
  · kc_close
    intro l1 H3 n3 s3 e3
    kc_close
    refine u_takeX (d2.same s3) (by omega) (by omega) fun H4 t4 b4 d4 g0 g1 => ?_
    obtain ⟨mm, hmm, emm⟩ := ints3 (x := 3) (y := 3) (z := 6) g0 g1
    kc_close
    refine s_ixL (SqL.of (b4 _ _ (d2.ne n3) e3)) emm ?_
    kc_close
    refine u_takeX d4 (by omega) (by omega) fun H5 t5 b5 d5 g2 g3 => ?_
    obtain ⟨j, rfl⟩ : ∃ j : Nat, t5 = (j : Int) := ⟨t5.toNat, by omega⟩
    kc_close
    refine hN _ _ ⟨1 + j, ?_, b2.trans ((But.of s3).trans (b4.trans b5)), d5, by omega, by omega⟩
    rw [Int.natCast_add]
    rfl
  rintro _ H3 ⟨m, rfl, b3, d3, m0, m6⟩
  have hw3 := b3 _ _ hwc hw0
  obtain ⟨dk, rfl⟩ : ∃ dk : Nat, d = dk + 1 := ⟨d - 1, by omega⟩
  -- lots
  refine s_seq ?_
  refine s_cut (fun σ' H' => ∃ (D : Addr) (vs : List V) (es : List Lot) (x' : Int), σ' = stLt (some (.ref c)) (some (.ref wa)) (some (.int ((dk + 1 : Nat) : Int))) (some (.int kd)) (some (.int m)) (some (.ref D)) ∧ But c H H' ∧ DRX H' c L x' ∧ H D = none ∧ D ≠ c ∧ D ≠ L ∧ H' D = some (.lst vs) ∧ Ims K H' (lotDs es) vs ∧ es.length = m ∧ (∀ e ∈ es, LotOk dk e) ∧ (nodess es : Int) = x - 1 - x' ∧ -6 * (dk : Int) - m + 1 ≤ x') (fun N hN => ?_) ?_
  · kc_close
    refine s_rng1v (by omega) (by omega) ?_
    rw [Int.toNat_natCast]
    refine l_range (fun D i H' => H3 D = none ∧ But c H3 H' ∧ ∃ (vs : List V) (es : List Lot) (x' : Int), DRX H' c L x' ∧ H' D = some (.lst vs) ∧ Ims K H' (lotDs es) vs ∧ es.length = i ∧ (∀ e ∈ es, LotOk dk e) ∧ (nodess es : Int) = x - 1 - x' ∧ -6 * (dk : Int) - i + 1 ≤ x') ?_ ?_ ?_
    · intro D H' nD sm eD
      exact ⟨nD, But.of sm, [], [], x - 1, d3.same sm, eD, rfl, rfl, fun e h => (by cases h), by show ((0 : Nat) : Int) = _; omega, by omega⟩
    · rintro D i H4 hi ⟨nD, b4, vs, es, x', d4, eD, is, hl, hok, hn, hx⟩
      have nDc := d3.ne nD
      have nDL := d3.neL nD
      have hlv := Ims.length is
      rw [lotDs_map, List.length_map] at hlv
      kc_close
      refine ⟨c, wa, _, rfl, L, x', ws, dk, by omega, by omega, d4, b4 _ _ hwc hw3, wok, fun H5 v e x'' b5 d5 im ok nd le lt => ?_⟩
      have e5 := b5 _ _ nDc eD
      refine s_lcEnd e5 (by omega) fun H6 b6 e6 => ⟨nD, But.sameN b6 (b4.trans b5) nD, vs ++ [v], es ++ [e], x'', d5.but b6 nDc nDL, e6, ?_, by rw [List.length_append, hl]; rfl, fun a ha => ?_, ?_, ?_⟩
      · have k6 : TK K H5 H6 := TK.but b6 e5
        rw [lotDs_map, List.map_append, ← lotDs_map]
        exact ((is.tk (fun a xs h => sqt_butX b5 d4 h)).tk k6).app (.one (im.tk k6))
      · rcases List.mem_append.mp ha with ha | ha
        · exact hok a ha
        · rw [List.mem_singleton.mp ha]
          exact ok
      · rw [nodess_sum, List.map_append, List.sum_append, ← nodess_sum]
        show ((nodess es + (nodes e + 0) : Nat) : Int) = _
        omega
      · by_cases h : x' < 2
        · have := lt h
          omega
        · omega
    · rintro D H4 ⟨nD, b4, vs, es, x', d4, eD, is, hl, hok, hn, hx⟩
      have nDc := d3.ne nD
      kc_close
      refine hN _ _ ⟨D, vs, es, x', rfl, b3.trans b4, d4, ?_, nDc, d3.neL nD, eD, is, hl, hok, hn, hx⟩
      cases e : H D with
      | none => rfl
      | some o =>
        rw [b3 _ _ nDc e] at nD
        cases nD
  rintro _ H4 ⟨D, vs, es, x', rfl, b4, d4, nD, nDc, nDL, eD, is, hl, hok, hn, hx⟩
  have hlv := Ims.length is
  rw [lotDs_map, List.length_map] at hlv
  -- both
  refine s_seq ?_
  refine s_if ?_
  kc_close
  refine ifI (fun e3 => ?_) (fun e3 => ?_)
  · kc_close
    refine s_tupL (SqL.of eD) fun T H5 n5 s5 e5 => ?_
    kc_close
    intro T2 H6 n6 s6 e6
    kc_close
    refine q H6 _ (.both es) x' (b4.trans ((But.of s5).trans (But.of s6))) ((d4.same s5).same s6) ⟨T2, _, rfl, SqT.of e6, _, _, rfl, rfl, _, _, rfl, ⟨T, _, rfl, SqT.of (s6 _ _ e5), is.tk (TK.same (s5.trans s6))⟩, rfl⟩ (.inr (.inl ⟨es, rfl, by omega, by omega, hok⟩)) ?_ (by omega) (by omega)
    show ((1 + nodess es : Nat) : Int) = _
    omega
  -- weights
  refine s_next ?_
  refine s_seq ?_
  refine s_cut (fun σ' H' => ∃ (W : Addr) (ns : List Int) (y : Option V), σ' = stLt (some (.ref c)) (some (.ref wa)) (some (.int ((dk + 1 : Nat) : Int))) (some (.int kd)) (some (.int m)) (some (.ref D)) (some (.ref W)) y ∧ But c H H' ∧ DRX H' c L x' ∧ H W = none ∧ W ≠ c ∧ W ≠ L ∧ H' W = some (.lst (ns.map V.int)) ∧ ns.length = m ∧ (∀ i ∈ ns, 0 ≤ i ∧ i ≤ 1000) ∧ H' D = some (.lst vs) ∧ Ims K H' (lotDs es) vs ∧ W ≠ D) (fun N hN => ?_) ?_
  · kc_close
    refine s_rng1v (by omega) (by omega) ?_
    rw [Int.toNat_natCast]
    refine l_drawsV (fun v => ∃ i : Int, v = .int i ∧ 0 ≤ i ∧ i ≤ 1000) d4 (by omega) ?_ ?_
    · intro D2 N2 i H' hi bi di k
      kc_close
      intro l1 H5 n5 s5 e5
      kc_close
      refine u_takeX (di.same s5) (by omega) (by omega) fun H6 t6 b6 d6 g0 g1 => ?_
      obtain ⟨mm, hmm, emm⟩ := ints3 (x := 5) (y := 5) (z := 1001) g0 g1
      kc_close
      refine s_ixL (SqL.of (b6 _ _ (di.ne n5) e5)) emm ?_
      kc_close
      refine u_takeX d6 (by omega) (by omega) fun H7 t7 b7 d7 g2 g3 => ?_
      kc_close
      exact k H7 _ ((But.of s5).trans (b6.trans b7)) d7 ⟨t7, rfl, g2, by omega⟩
    · intro W H' ls nW nWc nWL bi di hl2 hp eW
      obtain ⟨ns, rfl, hln, hns⟩ := ints_of' hp
      kc_close
      refine hN _ _ ⟨W, ns, _, rfl, b4.trans bi, di, ?_, nWc, nWL, eW, by omega, hns, bi _ _ nDc eD, is.tk (fun a xs h => sqt_butX bi d4 h), ?_⟩
      · cases e : H W with
        | none => rfl
        | some o =>
          rw [b4 _ _ nWc e] at nW
          cases nW
      · intro z
        rw [z, eD] at nW
        cases nW
  rintro _ H5 ⟨W, ns, y, rfl, b5, d5, nW, nWc, nWL, eW, hln, hns, eD5, is5, nWD⟩
  refine s_seq ?_
  refine s_cut (fun σ' H' => ∃ (ns : List Int) (y : Option V), σ' = stLt (some (.ref c)) (some (.ref wa)) (some (.int ((dk + 1 : Nat) : Int))) (some (.int kd)) (some (.int m)) (some (.ref D)) (some (.ref W)) y ∧ But c H H' ∧ DRX H' c L x' ∧ H' W = some (.lst (ns.map V.int)) ∧ ns.length = m ∧ (∀ i ∈ ns, 0 ≤ i ∧ i ≤ 1000) ∧ 0 < ns.sum ∧ H' D = some (.lst vs) ∧ Ims K H' (lotDs es) vs) (fun N hN => ?_) ?_
  · have nn : ∀ l : List Int, (∀ r ∈ l, 0 ≤ r ∧ r ≤ 1000) → 0 ≤ l.sum := by
      intro l
      induction l with
      | nil => intro _; exact Int.le_refl _
      | cons r l ih =>
        intro h
        have h1 := ih fun r m => h r (List.mem_cons_of_mem _ m)
        have h2 := h r (List.mem_cons_self ..)
        rw [List.sum_cons]
        omega
    refine s_if ?_
    kc_close
    refine s_sum (SqL.of eW) ?_
    kc_close
    refine ifI (fun hz => ?_) (fun hz => ?_)
    · kc_close
      refine u_takeX d5 (by omega) (by omega) fun H6 t6 b6 d6 g0 g1 => ?_
      kc_close
      cases ns with
      | nil => simp at hln; omega
      | cons n0 nr =>
      have eW6 := b6 _ _ nWc eW
      refine s_setL eW6 (j := 0) (ixN_nat (i := 0) (by simp)) fun H7 b7 e7 => ?_
      have hr := nn nr fun r m => hns r (List.mem_cons_of_mem _ m)
      refine hN _ _ ⟨(1 + t6) :: nr, _, rfl, But.sameN b7 (b5.trans b6) nW, d6.but b7 nWc nWL, e7, hln, fun i hi => ?_, by rw [List.sum_cons]; omega, b7 _ _ (Ne.symm nWD) (b6 _ _ nDc eD5), (is5.tk (fun a xs h => sqt_butX b6 d5 h)).tk (TK.but b7 eW6)⟩
      rcases List.mem_cons.mp hi with h | h
      · rw [h]
        omega
      · exact hns i (List.mem_cons_of_mem _ h)
    · kc_close
      have := nn ns hns
      exact hN _ _ ⟨ns, _, rfl, b5, d5, eW, hln, hns, by omega, eD5, is5⟩
  rintro _ H6 ⟨ns2, y2, rfl, b6, d6, eW6, hln2, hns2, hsum, eD6, is6⟩
  kc_close
  refine s_rng1v (by omega) (by omega) ?_
  rw [Int.toNat_natCast]
  refine l_range (fun D2 i H' => H6 D2 = none ∧ Same H6 H' ∧ ∃ vs2, H' D2 = some (.lst vs2) ∧ Ims K H' (((ns2.zip es).take i).map fun p => .tuple [.int p.1, lotD p.2]) vs2) ?_ ?_ ?_
  · intro D2 H' n2 s2 e2
    exact ⟨n2, s2, [], e2, rfl⟩
  · rintro D2 i H7 hi ⟨n7, s7, vs2, e7, is7⟩
    have l7 := Ims.length is7
    rw [List.length_map, List.length_take] at l7
    have hi1 : i < ns2.length := by omega
    have hi2 : i < es.length := by omega
    have hi3 : i < vs.length := by omega
    kc_close
    refine s_ixL (SqL.of (s7 _ _ eW6)) (at_gen (k := i) (by omega) (x := V.int (ns2[i])) (by rw [List.getElem?_map, List.getElem?_eq_getElem hi1]; rfl)) ?_
    kc_close
    refine s_ixL (SqL.of (s7 _ _ eD6)) (at_gen (k := i) (by omega) (List.getElem?_eq_getElem hi3)) ?_
    kc_close
    intro T H8 n8 s8 e8
    kc_close
    have e7' := s8 _ _ e7
    refine s_lcEnd e7' (by omega) fun H9 b9 e9 => ⟨n7, But.same b9 (s7.trans s8) n7, vs2 ++ [.ref T], e9, ?_⟩
    have k9 : TK K H8 H9 := TK.but b9 e7'
    have ez : (ns2.zip es)[i]? = some (ns2[i], es[i]) := by
      rw [List.getElem?_zip_eq_some]
      exact ⟨List.getElem?_eq_getElem hi1, List.getElem?_eq_getElem hi2⟩
    rw [take_get ez, List.map_append]
    obtain ⟨de, hde, imv⟩ := Ims.get is6 (List.getElem?_eq_getElem hi3)
    have ede : de = lotD (es[i]) := by
      rw [lotDs_map, List.getElem?_map, List.getElem?_eq_getElem hi2] at hde
      exact (Option.some.inj hde).symm
    subst ede
    exact ((is7.tk (TK.same s8)).tk k9).app (.one ⟨T, _, rfl, k9 _ _ (SqT.of e8), _, _, rfl, rfl, _, _, rfl, (imv.tk (TK.same (s7.trans s8))).tk k9, rfl⟩)
  · rintro D2 H7 ⟨n7, s7, vs2, e7, is7⟩
    have ez : (ns2.zip es).take m = ns2.zip es := List.take_of_length_le (by rw [List.length_zip]; omega)
    rw [ez, ← pairDs_zip] at is7
    kc_close
    refine s_tupL (SqL.of e7) fun T H8 n8 s8 e8 => ?_
    kc_close
    intro T2 H9 n9 s9 e9
    kc_close
    refine q H9 _ (.among ns2 es) x' (b6.trans ((But.of s7).trans ((But.of s8).trans (But.of s9)))) (((d6.same s7).same s8).same s9) ⟨T2, _, rfl, SqT.of e9, _, _, rfl, rfl, _, _, rfl, ⟨T, _, rfl, SqT.of (s9 _ _ e8), is7.tk (TK.same (s8.trans s9))⟩, rfl⟩ (.inr (.inr ⟨ns2, es, rfl, by omega, by omega, by omega, hns2, hsum, hok⟩)) ?_ (by omega) (by omega)
    show ((1 + nodess es : Nat) : Int) = _
    omega
theorem good_no {x : Str} {st : Stmt} {ps : List Str} {sp : Sp} {k : Nat} (h : Has K mg x st ps) (no : ∀ vs H Q E, ¬ sp vs H Q E) : Good P w K mg base k x ps sp := by
  obtain ⟨f, fd, F, hm, hb⟩ := h.ex
  exact ⟨f, fd, hm, F.kp, hb, ⟨fun vs H Q E h => absurd h (no vs H Q E), fun A outer s H args us vs Q E hr he hbt hv h => absurd h (no vs H Q E)⟩⟩
theorem ok__law_lot (T : NoB mg) (h : Has K mg "_law_lot" (topS 31) ["c", "words", "depth"]) (G__law_take : Good P w K mg base 2 "_law_take" ["c", "many"] (spTake)) (G__law_plain : Good P w K mg base 3 "_law_plain" ["c", "words"] (spPlain K)) :
    Good P w K mg base 9 "_law_lot" ["c", "words", "depth"] (spLot K 6) := by
  have : ∀ n, Good P w K mg base (n + 3) "_law_lot" ["c", "words", "depth"] (spLot K n) := fun n => by
    induction n with
    | zero =>
      refine good_no h fun vs H Q E z => ?_
      obtain ⟨c, wa, dp, _, L, x, ws, d, _, hd, _⟩ := z
      omega
    | succ n ih => exact rec__law_lot T n h G__law_take G__law_plain ih
  exact this 6
def spDrawn (K : PySem.W.Frag) : Sp := fun vs H Q _ => ∃ c : Addr, vs = [.ref c] ∧ ∃ L, DR H c L ∧ ∀ H' v e, But c H H' → DR H' c L → Im K H' (lotD e) v → LotOk 3 e → nodes e ≤ 25 → Q v H'
theorem ok__law_drawn_lot (h : Has K mg "_law_drawn_lot" (topS 32) ["c"]) (G__law_lot : Good P w K mg base 9 "_law_lot" ["c", "words", "depth"] (spLot K 6)) (G__law_take : Good P w K mg base 2 "_law_take" ["c", "many"] (spTake)) (G__law_words : Good P w K mg base 3 "_law_words" ["c"] (spWords K)) : Good P w K mg base 10 "_law_drawn_lot" ["c"] (spDrawn K) := by
  have sc : FnScope ["c"] ["c"] (defScope (topS 32)) := ⟨rfl, rfl, rfl, by decide +kernel, rfl, by decide +kernel, by decide +kernel⟩
  have nd := sc.nd
  refine h.good sc (fun vs H Q E h => by obtain ⟨c, rfl, _⟩ := h; rfl) (fun f cdv A outer s H vs Q E hr h => ?_)
  obtain ⟨c, rfl, hyp⟩ := h
  refine ⟨_, (pss_cons (ps_asg pe_int (pg_sub (pv 0) pe_int set_list))
  (pss_one (ps_ret (pe_callG G__law_lot (hr.mono (by first | decide | omega)) (by rfl) (pa_cons (pv 0) (pa_cons (pe_callG G__law_words (hr.mono (by first | decide | omega)) (by rfl) (pa_cons (pv 0) pa_nil)) (pa_cons (pe_callG G__law_take (hr.mono (by first | decide | omega)) (by rfl) (pa_cons (pv 0) (pa_cons pe_int pa_nil))) pa_nil))))))), ?_⟩
  try dsimp only [cxOf, Cx.wish]
  obtain ⟨L, ⟨x, ns, i, r, m, ec, hL, nL, h0⟩, q⟩ := hyp
  kc_close
  refine s_setL ec (j := 4) rfl fun H1 b1 e1 => ?_
  have d1 : DRX H1 c L 7 := ⟨ns, i, r, m, e1, b1 _ _ nL hL, nL, h0⟩
  kc_close
  refine u_words d1 fun H2 wa ws b2 d2 nw ew wok => ?_
  kc_close
  refine u_takeX d2 (by omega) (by omega) fun H3 t b3 d3 g0 g1 => ?_
  obtain ⟨j, rfl⟩ : ∃ j : Nat, t = (j : Int) := ⟨t.toNat, by omega⟩
  have hwc := words_ne d2 ew wok
  kc_close
  refine ⟨c, wa, _, rfl, L, 7, ws, j, rfl, by omega, d3, b3 _ _ hwc ew, wok, fun H4 v e x' b4 d4 im ok nd le _ => ?_⟩
  refine q H4 v e (b1.trans (b2.trans (b3.trans b4))) ⟨x', d4⟩ im ?_ (by omega)
  have := lotOk_add (3 - j) j e ok
  rwa [show j + (3 - j) = 3 by omega] at this
theorem u_drawn {c L : Addr} {H : Hp} {Q : VK} {E : XK} (d : DR H c L) (q : ∀ H' v e, But c H H' → DR H' c L → Im K H' (lotD e) v → LotOk 3 e → nodes e ≤ 25 → Q v H') : spDrawn K [.ref c] H Q E := ⟨c, rfl, L, d, q⟩
end
end K1
end
section
open PySem PySem.Spec PyProof.Rows L2 Z
local macro_rules | `(tactic| ktr_room) => `(tactic| first
  | assumption
  | (apply SqT.of; assumption)
  | (apply SqL.of; assumption)
  | (apply sqt_same; assumption; ktr_room)
  | (apply sql_same; assumption; ktr_room)
  | (apply sqt_but; assumption; assumption; ktr_room)
  | (apply sql_but; assumption; assumption; ktr_room)
  | (apply Same.of_; assumption; ktr_room)
  | (apply But.of_; assumption; assumption; ktr_room)
  | exact same_refl
  | exact but_refl
  | (apply same_tr; assumption; ktr_room)
  | (apply same_but; assumption; ktr_room; assumption)
  | (apply but_tr; assumption; ktr_room)
  | (apply but_trB; assumption; ktr_room))
local macro_rules | `(tactic| ktr_units) => `(tactic| first | with_reducible assumption | omega | rfl | exact ⟨by omega, by omega⟩ | exact .inl ⟨by omega, by omega⟩ | exact .inr ⟨by omega, by omega⟩ | exact ⟨by decide, by decide, by decide⟩ | exact Nat.le_of_ble_eq_true rfl | decide)
local macro_rules | `(tactic| kc_close) => `(tactic| repeat (with_reducible first
  | refine s_var (by with_unfolding_all rfl) ?_
  | refine s_c ?_
  | refine s_op ?_
  | refine s_rI0 ?_
  | refine s_asg ?_
  | refine s_gname ?_
  | refine s_seq ?_
  | refine s_cons ?_
  | refine s_nil ?_
  | refine s_call ?_
  | refine s_ret ?_
  | o_fieldsN
  | refine s_test ?_
  | refine s_bl ?_
  | refine s_rI (by with_unfolding_all (ktr_units)) ?_
  | refine s_rEq rfl ?_
  | refine s_rNe rfl ?_
  | refine s_cb ?_
  | refine s_int1 ?_
  | refine s_intB ?_
  | refine s_max2 ?_
  | refine s_min2 ?_
  | refine s_tup ?_
  | refine s_lst ?_
  | refine s_newT (by with_unfolding_all first | decide | exact Nat.le_of_ble_eq_true rfl) ?_
  | refine s_newL (by with_unfolding_all first | decide | exact Nat.le_of_ble_eq_true rfl) ?_
  | refine s_ixT (by ktr_room) (by with_unfolding_all rfl) ?_
  | refine s_ixL (by ktr_room) (by with_unfolding_all rfl) ?_
  | refine s_lenT (by ktr_room) ?_
  | refine s_lenL (by ktr_room) ?_
  | refine s_un ?_
  | refine s_rU ?_
  | refine s_and ?_
  | refine s_or ?_
  | refine s_not ?_
  | refine s_tB ?_
  | refine s_tru ?_
  | refine s_drop ?_
  | refine s_next ?_
  | refine s_for ?_
  | refine s_rng1 ?_
  | refine s_rng2 ?_
  | refine s_rng3 ?_
  | refine s_ilist ?_
  | refine s_itup ?_
  | refine s_iany ?_
  | refine s_ienum ?_
  | refine s_irev ?_
  | refine s_gcons ?_
  | refine s_gnil ?_
  | refine s_gtup (by ktr_room) (by with_unfolding_all rfl) ?_
  | refine s_gsub ?_
  | refine s_augS ?_
  | refine s_aug (by with_unfolding_all rfl) ?_
  | refine s_ipI ?_
  | refine s_bm ?_
  | refine s_bm0 ?_
  | refine s_tyL (by ktr_room) ?_
  | refine s_tyL0 (by ktr_room) ?_
  | refine s_sl ?_
  | refine s_part ?_
  | refine s_partv ?_
  | refine s_noPart ?_
  | refine s_lc ?_
  | refine s_yes ?_
  | refine s_wipe (by with_unfolding_all rfl) ?_
  | refine iteT ?_
  | refine s_retN ?_
  | refine s_isN ?_
  | refine s_truB ?_
  | refine s_isB2 ?_
  | refine s_notB2 ?_
  | refine s_revT ?_
  | refine s_andV ?_
  | refine s_orV ?_
  | refine s_ifE ?_
  | refine s_notK ?_
  | refine s_notN ?_
  | refine s_truL (by ktr_room) ?_
  | refine s_truT (by ktr_room) ?_))
open K1
local macro_rules | `(tactic| ktr_room) => `(tactic| first
  | (apply DR.same; assumption; ktr_room)
  | (apply sqt_butD; assumption; ktr_room; ktr_room))
namespace K1
open TL ML
/-! the law's lists of outcomes -/
def plV : V → Bool
  | .int _ => true
  | .str _ => true
  | _ => false
theorem eqV_pl {x y : V} (hx : plV x = true) (hy : plV y = true) : eqV x y = decide (x = y) := by
  cases x with
  | int a =>
    cases y with
    | int b =>
      by_cases h : a = b
      · subst h; simp [eqV]
      · simp [eqV, h]
    | str b => simp [eqV]
    | _ => cases hy
  | str a =>
    cases y with
    | int b => simp [eqV]
    | str b =>
      by_cases h : a = b
      · subst h; simp [eqV]
      · simp [eqV, h]
    | _ => cases hy
  | _ => cases hx
theorem inV_pl {x : V} {xs : List V} (hx : plV x = true) (hs : xs.all plV = true) : inV x xs = decide (x ∈ xs) := by
  unfold inV
  induction xs with
  | nil => rfl
  | cons a r ih =>
    rw [List.all_cons, Bool.and_eq_true] at hs
    rw [List.any_cons, ih hs.2, eqV_pl hs.1 hx]
    by_cases h : a = x
    · subst h; simp
    · rw [decide_eq_false h, Bool.false_or]
      exact decide_eq_decide.mpr ⟨fun m => List.mem_cons_of_mem _ m, fun m => (List.mem_cons.mp m).elim (fun z => absurd z.symm h) id⟩
theorem flat_pl {xs : List V} (hs : xs.all plV = true) : xs.all flatV = true := by
  rw [List.all_eq_true] at *
  intro x hx
  have := hs x hx
  cases x <;> first | rfl | cases this
section
variable {P : Program} {w : World} {K : PySem.W.Frag} {mg : Str → Option Value} {base : Heap}
def spCommon : Sp := fun vs H Q _ => ∃ (a b : Int), vs = [.int a, .int b] ∧ 0 ≤ a ∧ 0 ≤ b ∧ b < 2 ^ 62 ∧ Q (.int ((Nat.gcd a.toNat b.toNat : Nat) : Int)) H
theorem ok__law_common (T : NoB mg) (h : Has K mg "_law_common" (topS 33) ["a", "b"]) : Good P w K mg base 1 "_law_common" ["a", "b"] (spCommon) := by
  have sc : FnScope ["a", "b", "rest"] ["a", "b"] (defScope (topS 33)) := ⟨rfl, rfl, rfl, by decide +kernel, rfl, by decide +kernel, by decide +kernel⟩
  have nd := sc.nd
  refine h.good sc (fun vs H Q E h => by obtain ⟨a, b, rfl, _⟩ := h; rfl) (fun f cdv A outer s H vs Q E hr h => ?_)
  obtain ⟨a, b, rfl, hyp⟩ := h
  refine ⟨_, (pss_cons (ps_while PassesOwn.never (pt_cmpR op_gt (pv 1) pe_int (nomark _))
  (pss_cons (ps_set (i := 2) nd rfl (by first | exact .inl rfl | exact .inr rfl) (pe_op op_mod (pe_callTy c_int1 (by rfl) T.n_int (by decide +kernel) (pa_cons (pv 0) pa_nil)) (pv 1)))
  (pss_cons (ps_set (i := 0) nd rfl (by first | exact .inl rfl | exact .inr rfl) (pv 1))
  (pss_one (ps_set (i := 1) nd rfl (by first | exact .inl rfl | exact .inr rfl) (pv 2))))))
  (pss_one (ps_ret (pv 0)))), ?_⟩
  try dsimp only [cxOf, Cx.wish]
  obtain ⟨ha, hb, hb2, q⟩ := hyp
  kc_close
  refine s_cut (fun σ' H' => ∃ y2 : Option V, σ' = [some (.int ((Nat.gcd a.toNat b.toNat : Nat) : Int)), some (.int 0), y2] ∧ H' = H) (fun N hN => ?_) ?_
  · refine s_wh (fun σ' H' => ∃ (x y : Int) (y2 : Option V), σ' = [some (.int x), some (.int y), y2] ∧ H' = H ∧ 0 ≤ x ∧ 0 ≤ y ∧ y < 2 ^ 62 ∧ Nat.gcd x.toNat y.toNat = Nat.gcd a.toNat b.toNat) (fun σ _ => (ival σ 1).toNat) ⟨a, b, none, rfl, rfl, ha, hb, hb2, rfl⟩ ?_
    rintro _ _ ⟨x, y, y2, rfl, rfl, hx, hy, hy2, e⟩
    kc_close
    refine ifP (fun h => ?_) (fun h => ?_)
    · refine s_wN ?_
      have e1 := Int.emod_nonneg x (show y ≠ 0 by omega)
      have e2 := Int.emod_lt_of_pos x (show 0 < y by omega)
      kc_close
      refine ⟨⟨_, _, _, rfl, rfl, hy, e1, by omega, ?_⟩, ?_⟩
      · rw [← e, Nat.gcd_comm x.toNat, Nat.gcd_rec y.toNat x.toNat, Nat.gcd_comm]
        congr 1
        rw [Int.toNat_emod hx hy]
      · show (x % y).toNat < y.toNat
        omega
    · have hy0 : y = 0 := by omega
      subst hy0
      refine hN _ _ ⟨y2, ?_, rfl⟩
      rw [← e]
      show [some (V.int x), some (V.int 0), y2] = _
      rw [show (0 : Int).toNat = 0 from rfl, Nat.gcd_zero_right, Int.toNat_of_nonneg hx]
  rintro _ H ⟨y2, rfl, rfl⟩
  kc_close
  exact q
theorem paired_at {α β : Type} {R : α → β → Prop} : ∀ {as : List α} {bs : List β}, Paired R as bs → ∀ {k : Nat} {a : α}, as[k]? = some a → ∃ b, bs[k]? = some b ∧ R a b
  | _, _, .nil, _, _, e => by simp at e
  | a' :: _, _ :: _, .cons r _, 0, a, e => by
    have : a' = a := by simpa using e
    subst this
    exact ⟨_, rfl, r⟩
  | _, _, .cons _ t, k + 1, a, e => paired_at t (k := k) (by simpa using e)
theorem flat_len_le {α β : Type} {l : List α} {f : α → List β} {b : Nat} (h : ∀ x ∈ l, (f x).length ≤ b) : (l.flatMap f).length ≤ l.length * b := by
  induction l with
  | nil => simp
  | cons a r ih =>
    have h1 := h a (List.mem_cons_self ..)
    have h2 := ih fun x m => h x (List.mem_cons_of_mem _ m)
    rw [List.flatMap_cons, List.length_append, List.length_cons, Nat.succ_mul]
    omega
theorem take_flatG {α β : Type} {f : α → List β} {l : List α} {i : Nat} {e : α} (h : l[i]? = some e) : (l.take (i + 1)).flatMap f = (l.take i).flatMap f ++ f e := by
  rw [List.take_succ, h, List.flatMap_append]
  simp
def TLs (K : PySem.W.Frag) (H : Hp) (D : Addr) (ts : List (List V)) : Prop := ∃ as : List Addr, H D = some (.lst (as.map V.ref)) ∧ Paired (fun a t => SqT K H a t) as ts
theorem TLs.same {K : PySem.W.Frag} {H H' : Hp} {D : Addr} {ts : List (List V)} (h : TLs K H D ts) (s : Same H H') : TLs K H' D ts := by
  obtain ⟨as, e, p⟩ := h
  exact ⟨as, s _ _ e, L2.Paired.mapP p fun a t h => sqt_same s h⟩
theorem tup_short {names : List V} (nd : names.Nodup) (n6 : names.length ≤ 6) {ag : Bool} {s : Nat} (h : (ag = true ∧ s ≤ 3) ∨ (ag = false ∧ s ≤ names.length)) : (tupL names ag s).length ≤ 720 := by
  have := (tup_at nd ag s (h.imp (fun h => h.1) (fun h => h.2))).1
  rw [this]
  generalize names.length = n at *
  rcases h with ⟨rfl, hs⟩ | ⟨rfl, hs⟩
  · have : ∀ n ≤ 6, ∀ s ≤ 3, (basesN true n s).prod ≤ 720 := by decide +kernel
    exact this n n6 s hs
  · have : ∀ n ≤ 6, ∀ s ≤ n, (basesN false n s).prod ≤ 720 := by decide +kernel
    exact this n n6 s hs
theorem tup_mem {names : List V} {ag : Bool} : ∀ {s : Nat} {t : List V}, t ∈ tupL names ag s → t.length = s ∧ ∀ x ∈ t, x ∈ names
  | 0, t, h => by
    have : t = [] := by simpa [tupL] using h
    subst this
    exact ⟨rfl, fun x h => by cases h⟩
  | s + 1, t, h => by
    obtain ⟨q, hq, h⟩ := List.mem_flatMap.mp h
    obtain ⟨x, hx, rfl⟩ := List.mem_map.mp h
    obtain ⟨h1, h2⟩ := tup_mem hq
    refine ⟨by rw [List.length_append, h1]; rfl, fun y hy => ?_⟩
    rcases List.mem_append.mp hy with hy | hy
    · exact h2 y hy
    · rw [List.mem_singleton.mp hy]
      exact (List.mem_filter.mp hx).1
theorem ext_take {names : List V} {ag : Bool} {one : List V} {i : Nat} {x : V} (h : names[i]? = some x) : extN (names.take (i + 1)) ag one = extN (names.take i) ag one ++ (if (ag || !decide (x ∈ one)) = true then [one ++ [x]] else []) := by
  unfold extN
  rw [List.take_succ, h, List.filter_append, List.map_append]
  congr 1
  show ((List.filter _ [x]).map _) = _
  rw [List.filter_cons, List.filter_nil]
  split <;> rfl
theorem ext_le (names : List V) (ag : Bool) (one : List V) : (extN names ag one).length ≤ names.length := by
  unfold extN
  rw [List.length_map]
  exact List.length_filter_le _ _
def spTuples (K : PySem.W.Frag) : Sp := fun vs H Q _ => ∃ (nm : Addr) (s : Int) (ag : Bool), vs = [.ref nm, .int s, .bl ag] ∧ ∃ (names : List V) (k : Nat), s = k ∧ SqT K H nm names ∧ names.all plV = true ∧ names.Nodup ∧ names.length ≤ 6 ∧ ((ag = true ∧ k ≤ 3) ∨ (ag = false ∧ k ≤ names.length)) ∧
  ∀ H' l, Same H H' → H l = none → TLs K H' l (tupL names ag k) → Q (.ref l) H'
abbrev stT (nm s ag found k longer one name : Option V := none) : L2.St := [nm, s, ag, found, k, longer, one, name]
theorem ok__law_tuples (T : NoB mg) (h : Has K mg "_law_tuples" (topS 34) ["names", "s", "again"]) : Good P w K mg base 1 "_law_tuples" ["names", "s", "again"] (spTuples K) := by
  have sc : FnScope ["names", "s", "again", "found", "k", "longer", "one", "name"] ["names", "s", "again"] (defScope (topS 34)) := ⟨rfl, rfl, rfl, by decide +kernel, rfl, by decide +kernel, by decide +kernel⟩
  have nd := sc.nd
  refine h.good sc (fun vs H Q E h => by obtain ⟨nm, s, ag, rfl, _⟩ := h; rfl) (fun f cdv A outer s H vs Q E hr h => ?_)
  obtain ⟨nm, s, ag, rfl, hyp⟩ := h
  refine ⟨_, (pss_cons (ps_set (i := 3) nd rfl (by first | exact .inl rfl | exact .inr rfl) (pe_lst (pa_cons (pe_tup pa_nil) pa_nil)))
  (pss_cons (ps_for PassesOwn.never rfl (pi_range1 rfl T.n_range (pa_cons (pv 1) pa_nil)) (pg_name (i := 4) nd rfl (by first | exact .inl rfl | exact .inr rfl))
  (pss_cons (ps_set (i := 5) nd rfl (by first | exact .inl rfl | exact .inr rfl) (pe_lst pa_nil))
  (pss_cons (ps_for PassesOwn.never rfl (pi_listK K (pv 3)) (pg_name (i := 6) nd rfl (by first | exact .inl rfl | exact .inr rfl))
  (pss_one (ps_set (i := 5) nd rfl (by first | exact .inl rfl | exact .inr rfl) (pe_op op_cat (pv 5) (pe_lc (own := [("name", 7)]) rfl nd (pi_tupK K (pv 0)) (blkOk_by (own := [("name", 7)]) (N := ["names", "s", "again", "found", "k", "longer", "one", "name"]) (by kernel_rfl)) (fun _ _ _ _ _ => (pg_name (i := 7) nd rfl (by first | exact .inl rfl | exact .inr rfl))) (fun _ _ _ _ _ => (pts_one (PW.pt (pw_or (pt_val (pv 2)) (pw_or1 (pt_cmpR (op_notInK K) (pv 7) (pv 6) (by rfl))))))) (fun _ _ _ _ _ => (pe_op (op_catK K) (pv 6) (pe_tup (pa_cons (pv 7) pa_nil)))))))))
  (pss_one (ps_set (i := 3) nd rfl (by first | exact .inl rfl | exact .inr rfl) (pv 5))))))
  (pss_one (ps_ret (pv 3))))), ?_⟩
  try dsimp only [cxOf, Cx.wish]
  obtain ⟨names, k, rfl, hnm, hpl, nd, n6, hs, q⟩ := hyp
  have line : (100000 : Nat) < sizeLine := by decide
  have kle : k ≤ 6 := by rcases hs with h | h <;> omega
  refine s_seq ?_
  refine s_cut (fun σ' H' => ∃ fo, σ' = stT (some (.ref nm)) (some (.int k)) (some (.bl ag)) (some (.ref fo)) ∧ Same H H' ∧ H fo = none ∧ TLs K H' fo [[]]) (fun N hN => ?_) ?_
  · kc_close
    intro t H1 n1 s1 e1
    kc_close
    intro l H2 n2 s2 e2
    kc_close
    exact hN _ _ ⟨l, rfl, s1.trans s2, s1.free n2, [t], e2, .cons (sqt_same s2 (SqT.of e1)) .nil⟩
  rintro _ H1 ⟨fo, rfl, s1, nfo, hfo⟩
  kc_close
  refine s_rng1v (by omega) (by omega) ?_
  refine w_range (fun i σ' H' => ∃ (fo : Addr) (y4 y5 y6 : Option V), σ' = stT (some (.ref nm)) (some (.int k)) (some (.bl ag)) (some (.ref fo)) y4 y5 y6 ∧ Same H H' ∧ H fo = none ∧ TLs K H' fo (tupL names ag i)) ⟨fo, none, none, none, rfl, s1, nfo, hfo⟩ ?_ ?_
  · rintro i _ H2 hi ⟨fo, y4, y5, y6, rfl, s2, nfo, as, efo, pfo⟩
    have hs' : (ag = true ∧ i ≤ 3) ∨ (ag = false ∧ i ≤ names.length) := hs.imp (fun h => ⟨h.1, by omega⟩) (fun h => ⟨h.1, by omega⟩)
    have hshort := tup_short nd n6 hs'
    have las := Paired.length pfo
    have hn2 := sqt_same s2 hnm
    refine s_gname ?_
    refine s_seq ?_
    refine s_cut (fun σ' H' => ∃ lo, σ' = stT (some (.ref nm)) (some (.int k)) (some (.bl ag)) (some (.ref fo)) (some (.int (0 + (i : Nat)))) (some (.ref lo)) y6 ∧ Same H2 H' ∧ H2 lo = none ∧ TLs K H' lo []) (fun N hN => ?_) ?_
    · kc_close
      intro l H3 n3 s3 e3
      kc_close
      exact hN _ _ ⟨l, rfl, s3, n3, [], e3, .nil⟩
    rintro _ H3 ⟨lo, rfl, s3, nlo, hlo⟩
    refine s_seq ?_
    refine s_cut (fun σ' H' => ∃ (lo : Addr) (y6 : Option V), σ' = stT (some (.ref nm)) (some (.int k)) (some (.bl ag)) (some (.ref fo)) (some (.int (0 + (i : Nat)))) (some (.ref lo)) y6 ∧ Same H2 H' ∧ H2 lo = none ∧ TLs K H' lo (tupL names ag (i + 1))) (fun N hN => ?_) ?_
    · kc_close
      refine s_ilistv (SqL.of (s3 _ _ efo)) ?_
      refine w_list (xs := as.map V.ref) (fun j σ' H' => ∃ (lo : Addr) (y6 : Option V), σ' = stT (some (.ref nm)) (some (.int k)) (some (.bl ag)) (some (.ref fo)) (some (.int (0 + (i : Nat)))) (some (.ref lo)) y6 ∧ Same H2 H' ∧ H2 lo = none ∧ TLs K H' lo (((tupL names ag i).take j).flatMap (extN names ag))) ⟨lo, y6, rfl, s3, nlo, hlo⟩ (fun j σ' H' _ z => by
        obtain ⟨_, _, _, s, _⟩ := z
        exact SqL.of (s _ _ efo)) ?_ ?_
      · rintro j x _ H4 ex ⟨lo, y6, rfl, s4, nlo, ls, elo, plo⟩
        rw [List.getElem?_map] at ex
        cases hj : as[j]? with
        | none => rw [hj] at ex; cases ex
        | some a =>
          rw [hj] at ex
          have : x = V.ref a := by injection ex with ex; exact ex.symm
          subst this
          obtain ⟨one, ho, hone⟩ := paired_at pfo hj
          have hone4 := sqt_same s4 hone
          have hn4 := sqt_same s4 hn2
          have mo := tup_mem (List.mem_of_getElem? ho)
          have hopl : one.all plV = true := List.all_eq_true.mpr fun x hx => List.all_eq_true.mp hpl x (mo.2 x hx)
          have lls := Paired.length plo
          have hfl := flat_len_le (l := (tupL names ag i).take j) (f := extN names ag) (b := 6) (fun x _ => Nat.le_trans (ext_le names ag x) n6)
          have htl : ((tupL names ag i).take j).length ≤ 720 := by rw [List.length_take]; omega
          refine s_gname ?_
          kc_close
          refine s_itupv hn4 ?_
          refine l_tup (xs := names) (fun D m H' => H4 D = none ∧ Same H4 H' ∧ TLs K H' D (extN (names.take m) ag one)) (fun D H' n s e => ⟨n, s, [], e, .nil⟩) (fun D m H' _ p => sqt_same p.2.1 hn4) ?_ ?_
          · rintro D m y H5 ey ⟨nD, s5, ds, eD, pD⟩
            have hone5 := sqt_same s5 hone4
            have ypl := List.all_eq_true.mp hpl y (List.mem_of_getElem? ey)
            have lds := Paired.length pD
            have hle := ext_le (names.take m) ag one
            rw [List.length_take] at hle
            have lm := (List.getElem?_eq_some_iff.mp ey).1
            have key := ext_take (ag := ag) (one := one) ey
            have take : (ag || !decide (y ∈ one)) = true → ∀ (l : Addr) (H6 : Hp), Same H5 H6 → SqT K H6 l (one ++ [y]) → LcEnd D (fun H' => H4 D = none ∧ Same H4 H' ∧ TLs K H' D (extN (names.take (m + 1)) ag one)) (.ref l) H6 := fun hb l H6 s6 h6 => by
              rw [if_pos hb] at key
              refine s_lcEnd (s6 _ _ eD) (by rw [List.length_map]; omega) fun H7 b7 e7 => ⟨nD, But.same b7 (s5.trans s6) nD, ds ++ [l], by rw [e7, List.map_append]; rfl, ?_⟩
              have tk := TK.but (K := K) b7 (s6 _ _ eD)
              rw [key]
              exact paired_app (L2.Paired.mapP pD fun a t h => tk _ _ (sqt_same s6 h)) (.cons (tk _ _ h6) .nil)
            kc_close
            cases ag with
            | true =>
              refine iteT ?_
              refine iteT ?_
              kc_close
              intro t H6 n6' s6 e6
              kc_close
              refine s_catA (sqt_same s6 hone5) (SqT.of e6) (by rw [mo.1]; show i + 1 ≤ sizeLine; omega) fun l H7 s7 h7 => ?_
              exact take rfl l H7 (s6.trans s7) h7
            | false =>
              refine iteF ?_
              kc_close
              refine ⟨a, one, rfl, .inr hone5, List.all_eq_true.mp (flat_pl hpl) y (List.mem_of_getElem? ey), flat_pl hopl, ?_⟩
              rw [inV_pl ypl hopl]
              kc_close
              show (if (!decide (y ∈ one)) = true then _ else _)
              cases hm : decide (y ∈ one) with
              | true =>
                refine iteF ?_
                rw [hm, if_neg (by decide), List.append_nil] at key
                exact ⟨nD, s5, ds, eD, by rw [key]; exact pD⟩
              | false =>
                refine iteT ?_
                kc_close
                intro t H6 n6' s6 e6
                kc_close
                refine s_catA (sqt_same s6 hone5) (SqT.of e6) (by rw [mo.1]; show i + 1 ≤ sizeLine; omega) fun l H7 s7 h7 => ?_
                exact take (by rw [hm]; rfl) l H7 (s6.trans s7) h7
          · rintro D H5 ⟨nD, s5, ds, eD, pD⟩
            rw [List.take_length] at pD
            have lds := Paired.length pD
            have hle := ext_le names ag one
            kc_close
            refine s_catL (s5 _ _ elo) eD (by rw [List.length_map, List.length_map]; omega) fun l H6 n6' s6 e6 => ?_
            kc_close
            refine ⟨l, _, rfl, (s4.trans s5).trans s6, (s4.trans s5).free n6', ls ++ ds, by rw [e6, List.map_append], ?_⟩
            have tk := take_flatG (f := extN names ag) ho
            rw [tk]
            exact paired_app (L2.Paired.mapP plo fun a t h => sqt_same (s5.trans s6) h) (L2.Paired.mapP pD fun a t h => sqt_same s6 h)
      · rintro _ H4 ⟨lo, y6, rfl, s4, nlo, hlo⟩
        rw [List.length_map, las, List.take_length] at hlo
        exact hN _ _ ⟨lo, y6, rfl, s4, nlo, hlo⟩
    rintro _ H4 ⟨lo, y6, rfl, s4, nlo, hlo⟩
    kc_close
    exact ⟨lo, _, _, _, rfl, s2.trans s4, s2.free nlo, hlo⟩
  · rintro _ H2 ⟨fo, y4, y5, y6, rfl, s2, nfo, hfo⟩
    kc_close
    exact q H2 fo s2 nfo hfo
end
end K1
end
section
open PySem PySem.Spec PyProof.Rows L2 Z
local macro_rules | `(tactic| ktr_room) => `(tactic| first
  | assumption
  | (apply SqT.of; assumption)
  | (apply SqL.of; assumption)
  | (apply sqt_same; assumption; ktr_room)
  | (apply sql_same; assumption; ktr_room)
  | (apply sqt_but; assumption; assumption; ktr_room)
  | (apply sql_but; assumption; assumption; ktr_room)
  | (apply Same.of_; assumption; ktr_room)
  | (apply But.of_; assumption; assumption; ktr_room)
  | exact same_refl
  | exact but_refl
  | (apply same_tr; assumption; ktr_room)
  | (apply same_but; assumption; ktr_room; assumption)
  | (apply but_tr; assumption; ktr_room)
  | (apply but_trB; assumption; ktr_room))
local macro_rules | `(tactic| ktr_units) => `(tactic| first | with_reducible assumption | omega | rfl | exact ⟨by omega, by omega⟩ | exact .inl ⟨by omega, by omega⟩ | exact .inr ⟨by omega, by omega⟩ | exact ⟨by decide, by decide, by decide⟩ | exact Nat.le_of_ble_eq_true rfl | decide)
local macro_rules | `(tactic| kc_close) => `(tactic| repeat (with_reducible first
  | refine s_var (by with_unfolding_all rfl) ?_
  | refine s_c ?_
  | refine s_op ?_
  | refine s_rI0 ?_
  | refine s_asg ?_
  | refine s_gname ?_
  | refine s_seq ?_
  | refine s_cons ?_
  | refine s_nil ?_
  | refine s_call ?_
  | refine s_ret ?_
  | o_fieldsN
  | refine s_test ?_
  | refine s_bl ?_
  | refine s_rI (by with_unfolding_all (ktr_units)) ?_
  | refine s_rEq rfl ?_
  | refine s_rNe rfl ?_
  | refine s_cb ?_
  | refine s_int1 ?_
  | refine s_intB ?_
  | refine s_max2 ?_
  | refine s_min2 ?_
  | refine s_tup ?_
  | refine s_lst ?_
  | refine s_newT (by with_unfolding_all first | decide | exact Nat.le_of_ble_eq_true rfl) ?_
  | refine s_newL (by with_unfolding_all first | decide | exact Nat.le_of_ble_eq_true rfl) ?_
  | refine s_ixT (by ktr_room) (by with_unfolding_all rfl) ?_
  | refine s_ixL (by ktr_room) (by with_unfolding_all rfl) ?_
  | refine s_lenT (by ktr_room) ?_
  | refine s_lenL (by ktr_room) ?_
  | refine s_un ?_
  | refine s_rU ?_
  | refine s_and ?_
  | refine s_or ?_
  | refine s_not ?_
  | refine s_tB ?_
  | refine s_tru ?_
  | refine s_drop ?_
  | refine s_next ?_
  | refine s_for ?_
  | refine s_rng1 ?_
  | refine s_rng2 ?_
  | refine s_rng3 ?_
  | refine s_ilist ?_
  | refine s_itup ?_
  | refine s_iany ?_
  | refine s_ienum ?_
  | refine s_irev ?_
  | refine s_gcons ?_
  | refine s_gnil ?_
  | refine s_gtup (by ktr_room) (by with_unfolding_all rfl) ?_
  | refine s_gsub ?_
  | refine s_augS ?_
  | refine s_aug (by with_unfolding_all rfl) ?_
  | refine s_ipI ?_
  | refine s_bm ?_
  | refine s_bm0 ?_
  | refine s_tyL (by ktr_room) ?_
  | refine s_tyL0 (by ktr_room) ?_
  | refine s_sl ?_
  | refine s_part ?_
  | refine s_partv ?_
  | refine s_noPart ?_
  | refine s_lc ?_
  | refine s_yes ?_
  | refine s_wipe (by with_unfolding_all rfl) ?_
  | refine iteT ?_
  | refine s_retN ?_
  | refine s_isN ?_
  | refine s_truB ?_
  | refine s_isB2 ?_
  | refine s_notB2 ?_
  | refine s_revT ?_
  | refine s_andV ?_
  | refine s_orV ?_
  | refine s_ifE ?_
  | refine s_notK ?_
  | refine s_notN ?_
  | refine s_truL (by ktr_room) ?_
  | refine s_truT (by ktr_room) ?_))
open K1
local macro_rules | `(tactic| ktr_room) => `(tactic| first
  | (apply DR.same; assumption; ktr_room)
  | (apply sqt_butD; assumption; ktr_room; ktr_room))
namespace K1
open TL ML
theorem tup_map {α β : Type} [DecidableEq α] [DecidableEq β] {f : α → β} (hf : ∀ a b, f a = f b → a = b) (xs : List α) (ag : Bool) : ∀ s, tupL (xs.map f) ag s = (tupL xs ag s).map (List.map f)
  | 0 => rfl
  | s + 1 => by
    show (tupL (xs.map f) ag s).flatMap _ = ((tupL xs ag s).flatMap _).map _
    rw [tup_map hf xs ag s, List.flatMap_map, List.map_flatMap]
    congr 1
    funext one
    unfold extN
    rw [List.filter_map, List.map_map, List.map_map]
    have e : ((fun x => ag || !decide (x ∈ one.map f)) ∘ f) = fun x => ag || !decide (x ∈ one) := by
      funext x
      show (ag || !decide (f x ∈ one.map f)) = _
      have : (f x ∈ one.map f) ↔ x ∈ one := ⟨fun h => by
        obtain ⟨y, hy, e⟩ := List.mem_map.mp h
        rw [← hf _ _ e]
        exact hy, fun h => List.mem_map_of_mem h⟩
      rw [decide_eq_decide.mpr this]
    rw [e]
    refine List.map_congr_left fun x _ => ?_
    show one.map f ++ [f x] = (one ++ [x]).map f
    rw [List.map_append]
    rfl
theorem map_int_inj' : ∀ {xs ys : List Int}, xs.map PyData.int = ys.map PyData.int → xs = ys
  | [], [], _ => rfl
  | [], _ :: _, h => by cases h
  | _ :: _, [], h => by cases h
  | x :: xs, y :: ys, h => by
    injection h with h1 h2
    injection h1 with h1
    rw [h1, map_int_inj' h2]
theorem layL (ns : List Int) : (PyData.list (ns.map .int)).canLay0 = true := by
  have := Z.canLayAll_ints ns
  simp only [PyData.canLay0]
  exact this
theorem depL (ns : List Int) (e : PyData) : min (PyData.list (ns.map .int)).depth e.depth ≤ 64 := by
  have : (PyData.list (ns.map .int)).depth ≤ 1 := by
    simp only [PyData.depth, Z.depthAll_ints]
    omega
  omega
theorem perm_asc {xs ys : List Int} (hp : ys.Perm xs) (hs : ys.Pairwise (· ≤ ·)) : (PyData.eqv (.list (xs.map .int)) (.list (ys.map .int)) = true ↔ xs.Pairwise (· ≤ ·)) := by
  rw [eqv_iff _ _ (by show noBs (xs.map .int) = true; exact noBs_ints xs) (by show noBs (ys.map .int) = true; exact noBs_ints ys)]
  constructor
  · intro h
    injection h with h
    have : xs = ys := map_int_inj' h
    rw [this]
    exact hs
  · intro h
    have : ys = xs := hp.eq_of_pairwise (fun a b _ _ => Int.le_antisymm) hs h
    rw [this]
section
variable {P : Program} {w : World} {K : PySem.W.Frag} {mg : Str → Option Value} {base : Heap}
def spSets (K : PySem.W.Frag) : Sp := fun vs H Q _ => ∃ (nm : Addr) (s : Int), vs = [.ref nm, .int s] ∧ ∃ (names : List V) (k : Nat), s = k ∧ SqT K H nm names ∧ names.length ≤ 6 ∧ k ≤ names.length ∧
  ∀ H' l, Same H H' → H l = none → TLs K H' l (combL names k) → Q (.ref l) H'
abbrev stS (nm s found one k : Option V := none) : L2.St := [nm, s, found, one, k]
theorem nat_asc {t : List Nat} : (t.map fun (i : Nat) => (i : Int)).Pairwise (· ≤ ·) ↔ t.Pairwise (· ≤ ·) := by
  rw [List.pairwise_map]
  exact ⟨fun h => h.imp fun h => by omega, fun h => h.imp fun h => by omega⟩
theorem tup_memG {α : Type} [DecidableEq α] {names : List α} {ag : Bool} : ∀ {s : Nat} {t : List α}, t ∈ tupL names ag s → t.length = s ∧ ∀ x ∈ t, x ∈ names
  | 0, t, h => by
    have : t = [] := by simpa [tupL] using h
    subst this
    exact ⟨rfl, fun x h => by cases h⟩
  | s + 1, t, h => by
    obtain ⟨q, hq, h⟩ := List.mem_flatMap.mp h
    obtain ⟨x, hx, rfl⟩ := List.mem_map.mp h
    obtain ⟨h1, h2⟩ := tup_memG hq
    refine ⟨by rw [List.length_append, h1]; rfl, fun y hy => ?_⟩
    rcases List.mem_append.mp hy with hy | hy
    · exact h2 y hy
    · rw [List.mem_singleton.mp hy]
      exact (List.mem_filter.mp hx).1
theorem comb_sets {α : Type} {names : List α} {k : Nat} {d : α} : ((tupL (List.range names.length) false k).filter ascB).map (List.map fun i => names.getD i d) = combL names k := by
  rw [asc_tups, inc_comb, ← comb_map]
  congr 1
  refine List.ext_getElem? fun i => ?_
  rw [List.getElem?_map]
  by_cases h : i < names.length
  · rw [List.getElem?_range h, List.getElem?_eq_getElem h]
    show some (names.getD i d) = _
    rw [List.getD_eq_getElem?_getD, List.getElem?_eq_getElem h]
    rfl
  · rw [List.getElem?_eq_none (by simpa using Nat.le_of_not_lt h), List.getElem?_eq_none (Nat.le_of_not_lt h)]
    rfl
theorem ok__law_sets (T : NoB mg) (h : Has K mg "_law_sets" (topS 35) ["names", "s"]) (G__law_tuples : Good P w K mg base 1 "_law_tuples" ["names", "s", "again"] (spTuples K)) : Good P w K mg base 2 "_law_sets" ["names", "s"] (spSets K) := by
  have sc : FnScope ["names", "s", "found", "one", "k"] ["names", "s"] (defScope (topS 35)) := ⟨rfl, rfl, rfl, by decide +kernel, rfl, by decide +kernel, by decide +kernel⟩
  have nd := sc.nd
  refine h.good sc (fun vs H Q E h => by obtain ⟨nm, s, rfl, _⟩ := h; rfl) (fun f cdv A outer s H vs Q E hr h => ?_)
  obtain ⟨nm, s, rfl, hyp⟩ := h
  refine ⟨_, (pss_cons (ps_set (i := 2) nd rfl (by first | exact .inl rfl | exact .inr rfl) (pe_lst pa_nil))
  (pss_cons (ps_for PassesOwn.never rfl (pi_listK K (pe_callG G__law_tuples (hr.mono (by first | decide | omega)) (by rfl) (pa_cons (pe_callTy (c_tupK K) (by rfl) T.n_tuple (by decide +kernel) (pa_cons (pe_lc (own := [("k", 4)]) rfl nd (pi_range1 rfl T.n_range (pa_cons (pe_callB (c_lenK K) (by rfl) T.n_len (by decide +kernel) (pa_cons (pv 0) pa_nil)) pa_nil)) (blkOk_by (own := [("k", 4)]) (N := ["names", "s", "found", "one", "k"]) (by kernel_rfl)) (fun _ _ _ _ _ => (pg_name (i := 4) nd rfl (by first | exact .inl rfl | exact .inr rfl))) (fun _ _ _ _ _ => pts_nil) (fun _ _ _ _ _ => (pv 4))) pa_nil)) (pa_cons (pv 1) (pa_cons pe_bl pa_nil))))) (pg_name (i := 3) nd rfl (by first | exact .inl rfl | exact .inr rfl))
  (pss_one (ps_if (pt_cmpR (op_eqMK K hr.units) (pe_callTy (c_lstK K) (by rfl) T.n_list (by decide +kernel) (pa_cons (pv 3) pa_nil)) (pe_callB (cr_sortedTK K) (by rfl) T.n_sorted (by decide +kernel) (pa_cons (pv 3) pa_nil)) (nomark _))
  (pss_one (ps_expr (pe_bmK K PySem.F.plainAttrs_list PySem.F.slot_list_append PySem.F.type_list_append mt_append (pv 2) (pa_cons (pe_callTy (c_tupK K) (by rfl) T.n_tuple (by decide +kernel) (pa_cons (pe_lc (own := [("k", 4)]) rfl nd (pi_tupK K (pv 3)) (blkOk_by (own := [("k", 4)]) (N := ["names", "s", "found", "one", "k"]) (by kernel_rfl)) (fun _ _ _ _ _ => (pg_name (i := 4) nd rfl (by first | exact .inl rfl | exact .inr rfl))) (fun _ _ _ _ _ => pts_nil) (fun _ _ _ _ _ => (pe_ix (ix_tupK K) (pv 0) (pv 4) (fun _ _ => rfl)))) pa_nil)) pa_nil)))) pss_nil)))
  (pss_one (ps_ret (pv 2))))), ?_⟩
  try dsimp only [cxOf, Cx.wish]
  obtain ⟨names, k, rfl, hnm, n6, hk, q⟩ := hyp
  have line : (100000 : Nat) < sizeLine := by decide
  refine s_seq ?_
  refine s_cut (fun σ' H' => ∃ fo, σ' = stS (some (.ref nm)) (some (.int k)) (some (.ref fo)) ∧ Same H H' ∧ H fo = none ∧ TLs K H' fo []) (fun N hN => ?_) ?_
  · kc_close
    intro l H2 n2 s2 e2
    kc_close
    exact hN _ _ ⟨l, rfl, s2, n2, [], e2, .nil⟩
  rintro _ H1 ⟨fo, rfl, s1, nfo, hfo⟩
  have hn1 := sqt_same s1 hnm
  kc_close
  refine s_rng1v (by omega) (by omega) ?_
  rw [Int.toNat_natCast]
  refine l_mapR (fun i => V.int i) (by omega) ?_ ?_
  · intro D N' i H' hi s' k'
    kc_close
    rw [Int.zero_add]
    exact k' _ (Same.refl _)
  intro B H2 nB s2 eB
  kc_close
  refine s_tupL (SqL.of eB) fun T1 H3 n3 s3 e3 => ?_
  kc_close
  have hinj : ∀ a b : Nat, V.int (a : Int) = V.int (b : Int) → a = b := fun a b h => by injection h with h; omega
  have hnd : ((List.range names.length).map fun (i : Nat) => V.int (i : Int)).Nodup := by
    refine List.pairwise_map.mpr (List.nodup_range.imp ?_)
    intro a b h z
    exact h (hinj a b z)
  refine ⟨T1, (k : Int), false, rfl, (List.range names.length).map fun (i : Nat) => V.int (i : Int), k, rfl, SqT.of e3, ?_, hnd, by rw [List.length_map, List.length_range]; exact n6, .inr ⟨rfl, by rw [List.length_map, List.length_range]; exact hk⟩, fun H4 l s4 nl hl => ?_⟩
  · rw [List.all_map, List.all_eq_true]
    intro x _
    rfl
  have s14 := (s2.trans s3).trans s4
  rw [tup_map hinj] at hl
  obtain ⟨as, el, pl⟩ := hl
  have hsh : (tupL (List.range names.length) false k).length ≤ 720 := by
    have := tup_short (names := (List.range names.length).map fun (i : Nat) => V.int (i : Int)) hnd (by rw [List.length_map, List.length_range]; exact n6) (ag := false) (s := k) (.inr ⟨rfl, by rw [List.length_map, List.length_range]; exact hk⟩)
    rw [tup_map hinj, List.length_map] at this
    exact this
  have las := Paired.length pl
  rw [List.length_map] at las
  kc_close
  refine s_ilistv (SqL.of el) ?_
  have efo1 : ∃ us, H4 fo = some (.lst us) := by
    obtain ⟨fs, ef, _⟩ := hfo
    exact ⟨_, s14 _ _ ef⟩
  obtain ⟨fus, efo4⟩ := efo1
  have nlf : l ≠ fo := fun z => by
    obtain ⟨fs, ef, _⟩ := hfo
    rw [z, (s2.trans s3) _ _ ef] at nl
    cases nl
  have hn4 := sqt_same s14 hn1
  refine w_list (xs := as.map V.ref) (fun j σ' H' => ∃ y3 y4 : Option V, σ' = stS (some (.ref nm)) (some (.int k)) (some (.ref fo)) y3 y4 ∧ But fo H4 H' ∧ TLs K H' fo ((((tupL (List.range names.length) false k).take j).filter ascB).map (List.map fun i => names.getD i .non))) ⟨none, none, rfl, But.refl fo H4, hfo.same s14⟩ (fun j σ' H' _ z => by
    obtain ⟨_, _, _, b, _⟩ := z
    exact SqL.of (b _ _ nlf el)) ?_ ?_
  · rintro j x _ H5 ex ⟨y3, y4, rfl, b5, fs, ef, pf⟩
    rw [List.getElem?_map] at ex
    cases hj : as[j]? with
    | none => rw [hj] at ex; cases ex
    | some a =>
      rw [hj] at ex
      have : x = V.ref a := by injection ex with ex; exact ex.symm
      subst this
      obtain ⟨one, ho, hone⟩ := paired_at pl hj
      rw [List.getElem?_map] at ho
      cases ht : (tupL (List.range names.length) false k)[j]? with
      | none => rw [ht] at ho; cases ho
      | some t =>
        rw [ht] at ho
        have : one = (t.map fun (i : Nat) => (i : Int)).map V.int := by
          injection ho with ho
          rw [← ho, List.map_map]
          rfl
        subst this
        have tk5 : TK K H4 H5 := TK.but b5 efo4
        have hone5 := tk5 _ _ hone
        have hn5 := tk5 _ _ hn4
        have lt : t.length = k := by
          have := tup_memG (List.mem_of_getElem? ht)
          exact this.1
        have mt : ∀ i ∈ t, i < names.length := fun i hi => List.mem_range.mp ((tup_memG (List.mem_of_getElem? ht)).2 i hi)
        have lfs := Paired.length pf
        have lsh : (((tupL (List.range names.length) false k).take j).filter ascB).length ≤ 720 := by
          have h1 := List.length_filter_le ascB ((tupL (List.range names.length) false k).take j)
          rw [List.length_take] at h1
          omega
        rw [List.length_map] at lfs
        have step : ((tupL (List.range names.length) false k).take (j + 1)).filter ascB = ((tupL (List.range names.length) false k).take j).filter ascB ++ (if ascB t = true then [t] else []) := by
          rw [List.take_succ, ht, List.filter_append]
          congr 1
          show List.filter ascB [t] = _
          rw [List.filter_cons, List.filter_nil]
        refine s_gname ?_
        refine s_if ?_
        kc_close
        refine s_lstT hone5 fun p1 H6 n6' s6 e6 => ?_
        kc_close
        refine s_sortedT (sqt_same s6 hone5) fun ys p2 H7 hp hw n7 s7 e7 => ?_
        refine ⟨.list ((t.map fun (i : Nat) => (i : Int)).map .int), .list (ys.map .int), dp_l (SqL.of (s7 _ _ e6)), dp_l (SqL.of e7), layL _, layL _, depL _ _, ?_⟩
        kc_close
        have hasc := (perm_asc hp hw).trans nat_asc
        have s57 := s6.trans s7
        cases hb : PyData.eqv (.list ((t.map fun (i : Nat) => (i : Int)).map .int)) (.list (ys.map .int)) with
        | false =>
          refine iteF ?_
          have : ascB t = false := by
            cases h : ascB t with
            | false => rfl
            | true => rw [hasc.mpr (of_decide_eq_true h)] at hb; cases hb
          rw [this, if_neg (by decide), List.append_nil] at step
          refine ⟨_, _, rfl, b5.trans (But.of s57), fs, s57 _ _ ef, ?_⟩
          rw [step]
          exact L2.Paired.mapP pf fun a t h => sqt_same s57 h
        | true =>
          refine iteT ?_
          have : ascB t = true := decide_eq_true (hasc.mp hb)
          rw [this, if_pos rfl] at step
          have hone7 := sqt_same s57 hone5
          have hn7 := sqt_same s57 hn5
          kc_close
          refine s_itupv hone7 ?_
          refine l_mapT (fun i => names.getD (t.getD i 0) .non) hone7 (by rw [List.length_map, List.length_map]; omega) ?_ ?_
          · intro D N' i y H' e s' k'
            rw [List.getElem?_map, List.getElem?_map] at e
            cases hi : t[i]? with
            | none => rw [hi] at e; cases e
            | some d =>
              rw [hi] at e
              have : y = V.int (d : Int) := by injection e with e; exact e.symm
              subst this
              have hd := mt d (List.mem_of_getElem? hi)
              rw [List.getD_eq_getElem?_getD (l := t), hi] at k'
              kc_close
              refine s_ixT (sqt_same s' hn7) (at_of (j := d) (v := names.getD d .non) rfl (by rw [List.getD_eq_getElem?_getD, List.getElem?_eq_getElem hd]; rfl)) ?_
              exact k' _ (Same.refl _)
          intro B H8 nB s8 eB
          kc_close
          refine s_tupL (SqL.of eB) fun T2 H9 n9 s9 e9 => ?_
          kc_close
          have s79 := s8.trans s9
          refine s_append ((s57.trans s79) _ _ ef) (by rw [List.length_map]; omega) fun HA bA eA => ?_
          have tkA := TK.but (K := K) bA ((s57.trans s79) _ _ ef)
          refine ⟨_, _, rfl, (b5.trans (But.of (s57.trans s79))).trans bA, fs ++ [T2], by rw [eA, List.map_append]; rfl, ?_⟩
          rw [step, List.map_append]
          refine paired_app (L2.Paired.mapP pf fun a t h => tkA _ _ (sqt_same (s57.trans s79) h)) (.cons ?_ .nil)
          have : (List.range ((t.map fun (i : Nat) => (i : Int)).map V.int).length).map (fun i => names.getD (t.getD i 0) V.non) = t.map fun i => names.getD i .non := by
            rw [List.length_map, List.length_map]
            refine List.ext_getElem? fun i => ?_
            rw [List.getElem?_map, List.getElem?_map]
            by_cases h : i < t.length
            · rw [List.getElem?_range h, List.getElem?_eq_getElem h]
              show some (names.getD (t.getD i 0) V.non) = _
              rw [List.getD_eq_getElem?_getD (l := t), List.getElem?_eq_getElem h]
              rfl
            · rw [List.getElem?_eq_none (by simpa using Nat.le_of_not_lt h), List.getElem?_eq_none (Nat.le_of_not_lt h)]
              rfl
          rw [this] at e9
          exact tkA _ _ (SqT.of e9)
  · rintro _ H5 ⟨y3, y4, rfl, b5, hf5⟩
    rw [List.length_map, las, List.take_length, comb_sets] at hf5
    kc_close
    exact q H5 fo (But.same b5 (s1.trans s14) nfo) nfo hf5
end
end K1
end
section
open PySem PySem.Spec PyProof.Rows L2 Z
local macro_rules | `(tactic| ktr_room) => `(tactic| first
  | assumption
  | (apply SqT.of; assumption)
  | (apply SqL.of; assumption)
  | (apply sqt_same; assumption; ktr_room)
  | (apply sql_same; assumption; ktr_room)
  | (apply sqt_but; assumption; assumption; ktr_room)
  | (apply sql_but; assumption; assumption; ktr_room)
  | (apply Same.of_; assumption; ktr_room)
  | (apply But.of_; assumption; assumption; ktr_room)
  | exact same_refl
  | exact but_refl
  | (apply same_tr; assumption; ktr_room)
  | (apply same_but; assumption; ktr_room; assumption)
  | (apply but_tr; assumption; ktr_room)
  | (apply but_trB; assumption; ktr_room))
local macro_rules | `(tactic| ktr_units) => `(tactic| first | with_reducible assumption | omega | rfl | exact ⟨by omega, by omega⟩ | exact .inl ⟨by omega, by omega⟩ | exact .inr ⟨by omega, by omega⟩ | exact ⟨by decide, by decide, by decide⟩ | exact Nat.le_of_ble_eq_true rfl | decide)
local macro_rules | `(tactic| kc_close) => `(tactic| repeat (with_reducible first
  | refine s_var (by with_unfolding_all rfl) ?_
  | refine s_c ?_
  | refine s_op ?_
  | refine s_rI0 ?_
  | refine s_asg ?_
  | refine s_gname ?_
  | refine s_seq ?_
  | refine s_cons ?_
  | refine s_nil ?_
  | refine s_call ?_
  | refine s_ret ?_
  | o_fieldsN
  | refine s_test ?_
  | refine s_bl ?_
  | refine s_rI (by with_unfolding_all (ktr_units)) ?_
  | refine s_rEq rfl ?_
  | refine s_rNe rfl ?_
  | refine s_cb ?_
  | refine s_int1 ?_
  | refine s_intB ?_
  | refine s_max2 ?_
  | refine s_min2 ?_
  | refine s_tup ?_
  | refine s_lst ?_
  | refine s_newT (by with_unfolding_all first | decide | exact Nat.le_of_ble_eq_true rfl) ?_
  | refine s_newL (by with_unfolding_all first | decide | exact Nat.le_of_ble_eq_true rfl) ?_
  | refine s_ixT (by ktr_room) (by with_unfolding_all rfl) ?_
  | refine s_ixL (by ktr_room) (by with_unfolding_all rfl) ?_
  | refine s_lenT (by ktr_room) ?_
  | refine s_lenL (by ktr_room) ?_
  | refine s_un ?_
  | refine s_rU ?_
  | refine s_and ?_
  | refine s_or ?_
  | refine s_not ?_
  | refine s_tB ?_
  | refine s_tru ?_
  | refine s_drop ?_
  | refine s_next ?_
  | refine s_for ?_
  | refine s_rng1 ?_
  | refine s_rng2 ?_
  | refine s_rng3 ?_
  | refine s_ilist ?_
  | refine s_itup ?_
  | refine s_iany ?_
  | refine s_ienum ?_
  | refine s_irev ?_
  | refine s_gcons ?_
  | refine s_gnil ?_
  | refine s_gtup (by ktr_room) (by with_unfolding_all rfl) ?_
  | refine s_gsub ?_
  | refine s_augS ?_
  | refine s_aug (by with_unfolding_all rfl) ?_
  | refine s_ipI ?_
  | refine s_bm ?_
  | refine s_bm0 ?_
  | refine s_tyL (by ktr_room) ?_
  | refine s_tyL0 (by ktr_room) ?_
  | refine s_sl ?_
  | refine s_part ?_
  | refine s_partv ?_
  | refine s_noPart ?_
  | refine s_lc ?_
  | refine s_yes ?_
  | refine s_wipe (by with_unfolding_all rfl) ?_
  | refine iteT ?_
  | refine s_retN ?_
  | refine s_isN ?_
  | refine s_truB ?_
  | refine s_isB2 ?_
  | refine s_notB2 ?_
  | refine s_revT ?_
  | refine s_andV ?_
  | refine s_orV ?_
  | refine s_ifE ?_
  | refine s_notK ?_
  | refine s_notN ?_
  | refine s_truL (by ktr_room) ?_
  | refine s_truT (by ktr_room) ?_))
open K1
local macro_rules | `(tactic| ktr_room) => `(tactic| first
  | (apply DR.same; assumption; ktr_room)
  | (apply sqt_butD; assumption; ktr_room; ktr_room))
namespace K1
open TL ML
def seatsL (s tot : Int) : Int → List (Str × Int) → List PyData
  | _, [] => []
  | b, r :: rs => .tuple [.str r.1, .int ((b + r.2 * s) / tot - b / tot)] :: seatsL s tot (b + r.2 * s) rs
def seatD (s : Int) (rows : List (Str × Int)) (k : Int) : PyData := .tuple (seatsL s (rows.map (·.2)).sum k rows)
theorem seats_len (s tot : Int) : ∀ (b : Int) (rows : List (Str × Int)), (seatsL s tot b rows).length = rows.length
  | _, [] => rfl
  | b, r :: rs => by rw [seatsL, List.length_cons, seats_len s tot _ rs, List.length_cons]
theorem seats_snoc (s tot : Int) : ∀ (rs : List (Str × Int)) (b : Int) (r : Str × Int), seatsL s tot b (rs ++ [r]) = seatsL s tot b rs ++ [.tuple [.str r.1, .int (((b + (rs.map (·.2)).sum * s) + r.2 * s) / tot - (b + (rs.map (·.2)).sum * s) / tot)]]
  | [], b, r => by
    show seatsL s tot b [r] = _
    rw [seatsL, seatsL, List.map_nil, List.sum_nil, Int.zero_mul, Int.add_zero]
    rfl
  | a :: rs, b, r => by
    rw [List.cons_append, seatsL, seats_snoc s tot rs, seatsL, List.map_cons, List.sum_cons, List.cons_append, Int.add_mul, ← Int.add_assoc]
theorem rows_im {K : PySem.W.Frag} {H : Hp} : ∀ {rows : List (Str × Int)} {vs : List V}, Ims K H (rows.map rowD) vs → ∀ (i : Nat) (x : V), vs[i]? = some x → ∃ r b, rows[i]? = some r ∧ x = .ref b ∧ SqT K H b [.str r.1, .int r.2]
  | [], vs, h, i, x, e => by
    have : vs = [] := h
    subst this
    simp at e
  | r :: rows, vs, h, i, x, e => by
    obtain ⟨v, rest, rfl, hd, hr⟩ := h
    obtain ⟨b, _, rfl, hb, _, _, rfl, rfl, _, _, rfl, rfl, rfl⟩ := hd
    cases i with
    | zero =>
      have : x = .ref b := by simpa using e.symm
      exact ⟨r, b, rfl, this, hb⟩
    | succ i => exact rows_im hr i x (by simpa using e)
section
variable {P : Program} {w : World} {K : PySem.W.Frag} {mg : Str → Option Value} {base : Heap}
def OutsAt (K : PySem.W.Frag) (H : Hp) (l : Addr) (ds : List PyData) : Prop := ∃ us, H l = some (.lst us) ∧ Ims K H ds us
theorem OutsAt.same {H H' : Hp} {l : Addr} {ds : List PyData} (h : OutsAt K H l ds) (s : Same H H') : OutsAt K H' l ds := by
  obtain ⟨us, e, i⟩ := h
  exact ⟨us, s _ _ e, Ims.tk (TK.same s) _ _ i⟩
theorem ims_sm {H H' : Hp} {ds : List PyData} {vs : List V} (s : Same H H') (h : Ims K H ds vs) : Ims K H' ds vs := Ims.tk (TK.same s) _ _ h
theorem row_ints {K : PySem.W.Frag} {rows : List (Str × Int)} : ((List.range rows.length).map fun i => V.int ((rows.map (·.2)).getD i 0)) = (rows.map (·.2)).map V.int := by
  have := range_map (ns := rows.map (·.2)) (fun x => x)
  rw [List.length_map] at this
  rw [this, List.map_id']
theorem sum_bd {b : Int} : ∀ {xs : List Int}, (∀ x ∈ xs, 0 ≤ x ∧ x ≤ b) → 0 ≤ xs.sum ∧ xs.sum ≤ b * xs.length
  | [], _ => ⟨Int.le_refl _, by simp⟩
  | x :: xs, h => by
    have h1 := h x (List.mem_cons_self ..)
    have h2 := sum_bd fun y m => h y (List.mem_cons_of_mem _ m)
    rw [List.sum_cons, List.length_cons]
    have : b * ((xs.length + 1 : Nat) : Int) = b * xs.length + b := by rw [Int.natCast_add, Int.mul_add]; simp
    omega
def spSeatsL (K : PySem.W.Frag) : Sp := fun vs H Q _ => ∃ (v : V) (k : Int), vs = [v, .int k] ∧ ∃ (s : Int) (rows : List (Str × Int)), Im K H (lotD (.seats s rows)) v ∧ rows.length ≤ 6 ∧ 0 ≤ s ∧ s ≤ 1000 ∧ (∀ r ∈ rows, 0 ≤ r.2 ∧ r.2 ≤ 100000) ∧ 0 < (rows.map (·.2)).sum ∧ 0 ≤ k ∧ k ≤ 1000000000000 ∧
  ∀ H' x, Same H H' → Im K H' (seatD s rows k) x → Q x H'
abbrev stE (e k total found before name votes after row : Option V := none) : L2.St := [e, k, total, found, before, name, votes, after, row]
theorem ok__law_seats (T : NoB mg) (h : Has K mg "_law_seats" (topS 36) ["e", "k"]) : Good P w K mg base 1 "_law_seats" ["e", "k"] (spSeatsL K) := by
  have sc : FnScope ["e", "k", "total", "found", "before", "name", "votes", "after", "row"] ["e", "k"] (defScope (topS 36)) := ⟨rfl, rfl, rfl, by decide +kernel, rfl, by decide +kernel, by decide +kernel⟩
  have nd := sc.nd
  refine h.good sc (fun vs H Q E h => by obtain ⟨v, k, rfl, _⟩ := h; rfl) (fun f cdv A outer s H vs Q E hr h => ?_)
  obtain ⟨v, k, rfl, hyp⟩ := h
  refine ⟨_, (pss_cons (ps_set (i := 2) nd rfl (by first | exact .inl rfl | exact .inr rfl) (pe_callB (cr_sumK K rfl) (by rfl) T.n_sum (by decide +kernel) (pa_cons (pe_lc (own := [("row", 8)]) rfl nd (pi_tupK K (pe_ix (ix_tupK K) (pv 0) pe_int (fun _ _ => rfl))) (blkOk_by (own := [("row", 8)]) (N := ["e", "k", "total", "found", "before", "name", "votes", "after", "row"]) (by kernel_rfl)) (fun _ _ _ _ _ => (pg_name (i := 8) nd rfl (by first | exact .inl rfl | exact .inr rfl))) (fun _ _ _ _ _ => pts_nil) (fun _ _ _ _ _ => (pe_ix (ix_tupK K) (pv 8) pe_int (fun _ _ => rfl)))) pa_nil)))
  (pss_cons (ps_set (i := 3) nd rfl (by first | exact .inl rfl | exact .inr rfl) (pe_lst pa_nil))
  (pss_cons (ps_set (i := 4) nd rfl (by first | exact .inl rfl | exact .inr rfl) (pv 1))
  (pss_cons (ps_for PassesOwn.never rfl (pi_tupK K (pe_ix (ix_tupK K) (pv 0) pe_int (fun _ _ => rfl))) (pg_tupK K 2 (by rfl) (pgs_cons (pg_name (i := 5) nd rfl (by first | exact .inl rfl | exact .inr rfl)) (pgs_cons (pg_name (i := 6) nd rfl (by first | exact .inl rfl | exact .inr rfl)) pgs_nil)))
  (pss_cons (ps_set (i := 7) nd rfl (by first | exact .inl rfl | exact .inr rfl) (pe_op op_add (pv 4) (pe_op op_mul (pv 6) (pe_ix (ix_tupK K) (pv 0) pe_int (fun _ _ => rfl)))))
  (pss_cons (ps_expr (pe_bmK K PySem.F.plainAttrs_list PySem.F.slot_list_append PySem.F.type_list_append mt_append (pv 3) (pa_cons (pe_tup (pa_cons (pv 5) (pa_cons (pe_op op_sub (pe_op op_fdiv (pv 7) (pv 2)) (pe_op op_fdiv (pv 4) (pv 2))) pa_nil))) pa_nil)))
  (pss_one (ps_set (i := 4) nd rfl (by first | exact .inl rfl | exact .inr rfl) (pv 7))))))
  (pss_one (ps_ret (pe_callTy (c_tupK K) (by rfl) T.n_tuple (by decide +kernel) (pa_cons (pv 3) pa_nil)))))))), ?_⟩
  try dsimp only [cxOf, Cx.wish]
  obtain ⟨s, rows, him, l6, s0, s1, hr, hpos, k0, k1, q⟩ := hyp
  have line : (100000 : Nat) < sizeLine := by decide
  obtain ⟨a, _, rfl, ha, _, _, rfl, rfl, _, _, rfl, rfl, vr, _, rfl, hvr, rfl⟩ := him
  obtain ⟨ra, vs, rfl, hra, his⟩ := hvr
  have lvs := Ims.length his
  rw [List.length_map] at lvs
  have hrow := rows_im his
  refine s_seq ?_
  refine s_cut (fun σ' H' => σ' = stE (some (.ref a)) (some (.int k)) (some (.int (rows.map (·.2)).sum)) ∧ Same H H') (fun N hN => ?_) ?_
  · kc_close
    refine s_itupv hra ?_
    refine l_mapT (fun i => V.int ((rows.map (·.2)).getD i 0)) hra (by omega) ?_ ?_
    · intro D N' i y H' e s' k'
      obtain ⟨r, b, er, rfl, hb⟩ := hrow i y e
      rw [List.getD_eq_getElem?_getD, List.getElem?_map, er] at k'
      have hb' := sqt_same s' hb
      kc_close
      exact k' _ (Same.refl _)
    intro B H2 nB s2 eB
    rw [lvs, row_ints (K := K)] at eB
    kc_close
    refine s_sum (SqL.of eB) ?_
    kc_close
    exact hN _ _ ⟨rfl, s2⟩
  rintro _ H2 ⟨rfl, s2⟩
  have ha2 := sqt_same s2 ha
  have hra2 := sqt_same s2 hra
  have htot6 : (rows.map (·.2)).sum ≤ 600000 := by
    have := sum_bd (xs := rows.map (·.2)) (b := 100000) (fun y hy => by
      obtain ⟨z, hz, rfl⟩ := List.mem_map.mp hy
      exact hr z hz)
    rw [List.length_map] at this
    omega
  generalize htot : (rows.map (·.2)).sum = tot at hpos htot6
  refine s_seq ?_
  refine s_cut (fun σ' H' => ∃ fo, σ' = stE (some (.ref a)) (some (.int k)) (some (.int tot)) (some (.ref fo)) ∧ Same H2 H' ∧ H2 fo = none ∧ OutsAt K H' fo []) (fun N hN => ?_) ?_
  · kc_close
    intro l H3 n3 s3 e3
    kc_close
    exact hN _ _ ⟨l, rfl, s3, n3, [], e3, rfl⟩
  rintro _ H3 ⟨fo, rfl, s3, nfo, hfo⟩
  obtain ⟨fus, efo, _⟩ := id hfo
  have ha3 := sqt_same s3 ha2
  have hra3 := sqt_same s3 hra2
  kc_close
  refine s_itupv hra3 ?_
  refine w_tup (xs := vs) (fun i σ' H' => ∃ y5 y6 y7 : Option V, σ' = stE (some (.ref a)) (some (.int k)) (some (.int tot)) (some (.ref fo)) (some (.int (k + ((rows.take i).map (·.2)).sum * s))) y5 y6 y7 ∧ But fo H3 H' ∧ OutsAt K H' fo (seatsL s tot k (rows.take i))) ⟨none, none, none, by rw [List.take_zero, List.map_nil, List.sum_nil, Int.zero_mul, Int.add_zero]; rfl, But.refl fo H3, hfo⟩ (fun i σ' H' _ z => by
    obtain ⟨_, _, _, _, b, _⟩ := z
    exact sqt_but b efo hra3) ?_ ?_
  · rintro i x _ H4 ex ⟨y5, y6, y7, rfl, b4, us, eu, iu⟩
    obtain ⟨r, b, er, rfl, hb⟩ := hrow i x ex
    have tk4 : TK K H3 H4 := TK.but b4 efo
    have hb4 := tk4 _ _ (sqt_same (s2.trans s3) hb)
    have ha4 := tk4 _ _ ha3
    have hr2 := hr r (List.mem_of_getElem? er)
    have lus := Ims.length iu
    rw [seats_len, List.length_take] at lus
    have step : rows.take (i + 1) = rows.take i ++ [r] := by rw [List.take_succ, er]; rfl
    have hsum : ∀ m, 0 ≤ ((rows.take m).map (·.2)).sum ∧ ((rows.take m).map (·.2)).sum ≤ 600000 := fun m => by
      have := sum_bd (xs := (rows.take m).map (·.2)) (b := 100000) (fun y hy => by
        obtain ⟨z, hz, rfl⟩ := List.mem_map.mp hy
        exact hr z (List.mem_of_mem_take hz))
      rw [List.length_map, List.length_take] at this
      omega
    have h1 := hsum i
    generalize hS : ((rows.take i).map (·.2)).sum = S at h1
    have hprod : 0 ≤ S * s ∧ S * s ≤ 600000 * 1000 := ⟨Int.mul_nonneg h1.1 s0, Int.mul_le_mul h1.2 s1 s0 (by decide)⟩
    have hprod2 : 0 ≤ r.2 * s ∧ r.2 * s ≤ 100000 * 1000 := ⟨Int.mul_nonneg hr2.1 s0, Int.mul_le_mul hr2.2 s1 s0 (by decide)⟩
    kc_close
    intro T H5 n5 s5 e5
    kc_close
    refine s_append (s5 _ _ eu) (by omega) fun H6 b6 e6 => ?_
    have tk6 := TK.but (K := K) b6 (s5 _ _ eu)
    kc_close
    refine ⟨some (.str r.1), some (.int r.2), some (.int (k + S * s + r.2 * s)), ?_, (b4.trans (But.of s5)).trans b6, _, e6, ?_⟩
    · rw [step, List.map_append, List.sum_append, hS]
      rw [show k + (S + ([r].map (·.2)).sum) * s = k + S * s + r.2 * s by
        show k + (S + (r.2 + 0)) * s = _
        rw [Int.add_zero, Int.add_mul, Int.add_assoc]]
      rfl
    · rw [step, seats_snoc, hS]
      refine Ims.app (Ims.tk tk6 _ _ (ims_sm s5 iu)) (Ims.one ?_)
      exact ⟨T, _, rfl, tk6 _ _ (SqT.of e5), _, _, rfl, rfl, _, _, rfl, rfl, rfl⟩
  · rintro _ H4 ⟨y5, y6, y7, rfl, b4, us, eu, iu⟩
    rw [lvs, List.take_length] at iu
    kc_close
    refine s_tupL (SqL.of eu) fun T H5 n5 s5 e5 => ?_
    refine q H5 (.ref T) ((But.same b4 (s2.trans s3) (s2.free nfo)).trans s5) ⟨T, us, rfl, SqT.of e5, ?_⟩
    rw [htot]
    exact ims_sm s5 iu
end
end K1
end
section
open PySem PySem.Spec PyProof.Rows L2 Z
local macro_rules | `(tactic| ktr_room) => `(tactic| first
  | assumption
  | (apply SqT.of; assumption)
  | (apply SqL.of; assumption)
  | (apply sqt_same; assumption; ktr_room)
  | (apply sql_same; assumption; ktr_room)
  | (apply sqt_but; assumption; assumption; ktr_room)
  | (apply sql_but; assumption; assumption; ktr_room)
  | (apply Same.of_; assumption; ktr_room)
  | (apply But.of_; assumption; assumption; ktr_room)
  | exact same_refl
  | exact but_refl
  | (apply same_tr; assumption; ktr_room)
  | (apply same_but; assumption; ktr_room; assumption)
  | (apply but_tr; assumption; ktr_room)
  | (apply but_trB; assumption; ktr_room))
local macro_rules | `(tactic| ktr_units) => `(tactic| first | with_reducible assumption | omega | rfl | exact ⟨by omega, by omega⟩ | exact .inl ⟨by omega, by omega⟩ | exact .inr ⟨by omega, by omega⟩ | exact ⟨by decide, by decide, by decide⟩ | exact Nat.le_of_ble_eq_true rfl | decide)
local macro_rules | `(tactic| kc_close) => `(tactic| repeat (with_reducible first
  | refine s_var (by with_unfolding_all rfl) ?_
  | refine s_c ?_
  | refine s_op ?_
  | refine s_rI0 ?_
  | refine s_asg ?_
  | refine s_gname ?_
  | refine s_seq ?_
  | refine s_cons ?_
  | refine s_nil ?_
  | refine s_call ?_
  | refine s_ret ?_
  | o_fieldsN
  | refine s_test ?_
  | refine s_bl ?_
  | refine s_rI (by with_unfolding_all (ktr_units)) ?_
  | refine s_rEq rfl ?_
  | refine s_rNe rfl ?_
  | refine s_cb ?_
  | refine s_int1 ?_
  | refine s_intB ?_
  | refine s_max2 ?_
  | refine s_min2 ?_
  | refine s_tup ?_
  | refine s_lst ?_
  | refine s_newT (by with_unfolding_all first | decide | exact Nat.le_of_ble_eq_true rfl) ?_
  | refine s_newL (by with_unfolding_all first | decide | exact Nat.le_of_ble_eq_true rfl) ?_
  | refine s_ixT (by ktr_room) (by with_unfolding_all rfl) ?_
  | refine s_ixL (by ktr_room) (by with_unfolding_all rfl) ?_
  | refine s_lenT (by ktr_room) ?_
  | refine s_lenL (by ktr_room) ?_
  | refine s_un ?_
  | refine s_rU ?_
  | refine s_and ?_
  | refine s_or ?_
  | refine s_not ?_
  | refine s_tB ?_
  | refine s_tru ?_
  | refine s_drop ?_
  | refine s_next ?_
  | refine s_for ?_
  | refine s_rng1 ?_
  | refine s_rng2 ?_
  | refine s_rng3 ?_
  | refine s_ilist ?_
  | refine s_itup ?_
  | refine s_iany ?_
  | refine s_ienum ?_
  | refine s_irev ?_
  | refine s_gcons ?_
  | refine s_gnil ?_
  | refine s_gtup (by ktr_room) (by with_unfolding_all rfl) ?_
  | refine s_gsub ?_
  | refine s_augS ?_
  | refine s_aug (by with_unfolding_all rfl) ?_
  | refine s_ipI ?_
  | refine s_bm ?_
  | refine s_bm0 ?_
  | refine s_tyL (by ktr_room) ?_
  | refine s_tyL0 (by ktr_room) ?_
  | refine s_sl ?_
  | refine s_part ?_
  | refine s_partv ?_
  | refine s_noPart ?_
  | refine s_lc ?_
  | refine s_yes ?_
  | refine s_wipe (by with_unfolding_all rfl) ?_
  | refine iteT ?_
  | refine s_retN ?_
  | refine s_isN ?_
  | refine s_truB ?_
  | refine s_isB2 ?_
  | refine s_notB2 ?_
  | refine s_revT ?_
  | refine s_andV ?_
  | refine s_orV ?_
  | refine s_ifE ?_
  | refine s_notK ?_
  | refine s_notN ?_
  | refine s_truL (by ktr_room) ?_
  | refine s_truT (by ktr_room) ?_))
open K1
local macro_rules | `(tactic| ktr_room) => `(tactic| first
  | (apply DR.same; assumption; ktr_room)
  | (apply sqt_butD; assumption; ktr_room; ktr_room))
namespace K1
open TL ML
def mixC {β : Type} (rows : List (Nat × List β)) : Nat := rows.foldl (fun c r => if 0 < r.1 then c / Nat.gcd c r.2.length * r.2.length else c) 1
theorem mixC_snoc {β : Type} (rows : List (Nat × List β)) (r : Nat × List β) : mixC (rows ++ [r]) = if 0 < r.1 then mixC rows / Nat.gcd (mixC rows) r.2.length * r.2.length else mixC rows := by
  unfold mixC
  rw [List.foldl_append]
  rfl
theorem mixL_app {β : Type} (c : Nat) (a b : List (Nat × List β)) : mixL c (a ++ b) = mixL c a ++ mixL c b := by
  unfold mixL selL
  rw [List.flatMap_append, List.flatMap_append]
theorem mixL_one {β : Type} (c w : Nat) (o : List β) : mixL c [(w, o)] = (List.replicate w (cyc c o)).flatten := by
  show ((List.replicate w o) ++ []).flatMap (cyc c) = _
  rw [List.append_nil]
  induction w with
  | zero => rfl
  | succ w ih => rw [List.replicate_succ, List.replicate_succ, List.flatMap_cons, ih, List.flatten_cons]
theorem rep_flat_succ {β : Type} (x : List β) (t : Nat) : (List.replicate (t + 1) x).flatten = (List.replicate t x).flatten ++ x := by
  induction t with
  | zero => simp
  | succ t ih =>
    rw [List.replicate_succ, List.flatten_cons, ih, ← List.append_assoc, ← List.flatten_cons, ← List.replicate_succ]
    rw [ih]
theorem rep_flat_len {β : Type} (x : List β) (t : Nat) : (List.replicate t x).flatten.length = t * x.length := by
  induction t with
  | zero => simp
  | succ t ih => rw [rep_flat_succ, List.length_append, ih, Nat.succ_mul]
theorem nsum_bd {b : Nat} : ∀ {xs : List Nat}, (∀ x ∈ xs, x ≤ b) → xs.sum ≤ b * xs.length
  | [], _ => by simp
  | x :: xs, h => by
    have h1 := h x (List.mem_cons_self ..)
    have h2 := nsum_bd fun y m => h y (List.mem_cons_of_mem _ m)
    rw [List.sum_cons, List.length_cons, Nat.mul_succ]
    omega
section
variable {P : Program} {w : World} {K : PySem.W.Frag} {mg : Str → Option Value} {base : Heap}
def RowAt (K : PySem.W.Frag) (H : Hp) (b : Addr) (r : Nat × List PyData) : Prop := ∃ o us, SqT K H b [.int (r.1 : Int), .ref o] ∧ H o = some (.lst us) ∧ Ims K H r.2 us
theorem RowAt.same {H H' : Hp} {b : Addr} {r : Nat × List PyData} (s : Same H H') (h : RowAt K H b r) : RowAt K H' b r := by
  obtain ⟨o, us, h1, h2, h3⟩ := h
  exact ⟨o, us, sqt_same s h1, s _ _ h2, ims_sm s h3⟩
def RowsAt (K : PySem.W.Frag) (H : Hp) (l : Addr) (rows : List (Nat × List PyData)) : Prop := ∃ bs : List Addr, H l = some (.lst (bs.map V.ref)) ∧ Paired (fun b r => RowAt K H b r) bs rows
theorem RowsAt.same {H H' : Hp} {l : Addr} {rows : List (Nat × List PyData)} (s : Same H H') (h : RowsAt K H l rows) : RowsAt K H' l rows := by
  obtain ⟨bs, e, p⟩ := h
  exact ⟨bs, s _ _ e, L2.Paired.mapP p fun _ _ h => h.same s⟩
theorem ims_cyc {K : PySem.W.Frag} {H : Hp} {ds : List PyData} {us : List V} (h : Ims K H ds us) (hp : 0 < ds.length) : ∀ c, Ims K H (cyc c ds) ((List.range c).map fun i => us.getD (i % us.length) .non)
  | 0 => rfl
  | c + 1 => by
    have ih := ims_cyc h hp c
    have hl := Ims.length h
    unfold cyc at *
    rw [List.range_succ, List.filterMap_append, List.map_append]
    refine ih.app ?_
    have hlt : c % ds.length < ds.length := Nat.mod_lt _ hp
    have e1 : ds[c % ds.length]? = some ds[c % ds.length] := List.getElem?_eq_getElem hlt
    obtain ⟨v, ev, hv⟩ := Ims.at h e1
    show Ims K H (List.filterMap _ [c]) [us.getD (c % us.length) .non]
    rw [List.filterMap_cons, e1, List.getD_eq_getElem?_getD, hl, ev]
    exact Ims.one hv
def spMixed (K : PySem.W.Frag) : Sp := fun vs H Q _ => ∃ l : Addr, vs = [.ref l] ∧ ∃ rows : List (Nat × List PyData), RowsAt K H l rows ∧ rows.length ≤ 6 ∧ (∀ r ∈ rows, r.1 ≤ 1000 ∧ 0 < r.2.length ∧ r.2.length ≤ 3000) ∧
  (3000 < mixC rows * (rows.map (·.1)).sum → ∀ H', Same H H' → Q .non H') ∧ (mixC rows * (rows.map (·.1)).sum ≤ 3000 → 0 < (rows.map (·.1)).sum → ∀ H' f, Same H H' → H f = none → OutsAt K H' f (mixL (mixC rows) rows) → Q (.ref f) H') ∧ 0 < (rows.map (·.1)).sum
abbrev stM (rows common weight outs found turn r : Option V := none) : L2.St := [rows, common, weight, outs, found, turn, r]
theorem w_ints {rows : List (Nat × List PyData)} : ((List.range rows.length).map fun i => V.int (((rows.map fun r => (r.1 : Int))).getD i 0)) = (rows.map fun r => (r.1 : Int)).map V.int := by
  have := range_map (ns := rows.map fun r => (r.1 : Int)) (fun x => x)
  rw [List.length_map] at this
  rw [this, List.map_id']
theorem w_sum : ∀ (rows : List (Nat × List PyData)), (rows.map fun r => (r.1 : Int)).sum = (((rows.map (·.1)).sum : Nat) : Int)
  | [] => rfl
  | r :: rows => by rw [List.map_cons, List.sum_cons, List.map_cons, List.sum_cons, w_sum rows, Int.natCast_add]
theorem ok__law_mixed (T : NoB mg) (h : Has K mg "_law_mixed" (topS 37) ["rows"]) (G__law_common : Good P w K mg base 1 "_law_common" ["a", "b"] (spCommon)) : Good P w K mg base 2 "_law_mixed" ["rows"] (spMixed K) := by
  have sc : FnScope ["rows", "common", "weight", "outs", "found", "turn", "r"] ["rows"] (defScope (topS 37)) := ⟨rfl, rfl, rfl, by decide +kernel, rfl, by decide +kernel, by decide +kernel⟩
  have nd := sc.nd
  refine h.good sc (fun vs H Q E h => by obtain ⟨l, rfl, _⟩ := h; rfl) (fun f cdv A outer s H vs Q E hr h => ?_)
  obtain ⟨l, rfl, hyp⟩ := h
  refine ⟨_, (pss_cons (ps_set (i := 1) nd rfl (by first | exact .inl rfl | exact .inr rfl) pe_int)
  (pss_cons (ps_for PassesOwn.never rfl (pi_listK K (pv 0)) (pg_tupK K 2 (by rfl) (pgs_cons (pg_name (i := 2) nd rfl (by first | exact .inl rfl | exact .inr rfl)) (pgs_cons (pg_name (i := 3) nd rfl (by first | exact .inl rfl | exact .inr rfl)) pgs_nil)))
  (pss_one (ps_if (pt_cmpR op_gt (pv 2) pe_int (nomark _))
  (pss_one (ps_set (i := 1) nd rfl (by first | exact .inl rfl | exact .inr rfl) (pe_op op_mul (pe_op op_fdiv (pv 1) (pe_callG G__law_common (hr.mono (by first | decide | omega)) (by rfl) (pa_cons (pv 1) (pa_cons (pe_callB (c_lenK K) (by rfl) T.n_len (by decide +kernel) (pa_cons (pv 3) pa_nil)) pa_nil)))) (pe_callB (c_lenK K) (by rfl) T.n_len (by decide +kernel) (pa_cons (pv 3) pa_nil))))) pss_nil)))
  (pss_cons (ps_if (pt_cmpR op_gt (pe_op op_mul (pv 1) (pe_callB (cr_sumK K rfl) (by rfl) T.n_sum (by decide +kernel) (pa_cons (pe_lc (own := [("weight", 2), ("outs", 3)]) rfl nd (pi_listK K (pv 0)) (blkOk_by (own := [("weight", 2), ("outs", 3)]) (N := ["rows", "common", "weight", "outs", "found", "turn", "r"]) (by kernel_rfl)) (fun _ _ _ _ _ => (pg_tupK K 2 (by rfl) (pgs_cons (pg_name (i := 2) nd rfl (by first | exact .inl rfl | exact .inr rfl)) (pgs_cons (pg_name (i := 3) nd rfl (by first | exact .inl rfl | exact .inr rfl)) pgs_nil)))) (fun _ _ _ _ _ => pts_nil) (fun _ _ _ _ _ => (pv 2))) pa_nil))) pe_int (nomark _))
  (pss_one (ps_ret pe_non)) pss_nil)
  (pss_cons (ps_set (i := 4) nd rfl (by first | exact .inl rfl | exact .inr rfl) (pe_lst pa_nil))
  (pss_cons (ps_for PassesOwn.never rfl (pi_listK K (pv 0)) (pg_tupK K 2 (by rfl) (pgs_cons (pg_name (i := 2) nd rfl (by first | exact .inl rfl | exact .inr rfl)) (pgs_cons (pg_name (i := 3) nd rfl (by first | exact .inl rfl | exact .inr rfl)) pgs_nil)))
  (pss_one (ps_for PassesOwn.never rfl (pi_range1 rfl T.n_range (pa_cons (pv 2) pa_nil)) (pg_name (i := 5) nd rfl (by first | exact .inl rfl | exact .inr rfl))
  (pss_one (ps_set (i := 4) nd rfl (by first | exact .inl rfl | exact .inr rfl) (pe_op op_cat (pv 4) (pe_lc (own := [("r", 6)]) rfl nd (pi_range1 rfl T.n_range (pa_cons (pv 1) pa_nil)) (blkOk_by (own := [("r", 6)]) (N := ["rows", "common", "weight", "outs", "found", "turn", "r"]) (by kernel_rfl)) (fun _ _ _ _ _ => (pg_name (i := 6) nd rfl (by first | exact .inl rfl | exact .inr rfl))) (fun _ _ _ _ _ => pts_nil) (fun _ _ _ _ _ => (pe_ix (ix_listK K) (pv 3) (pe_op op_mod (pe_callTy c_int1 (by rfl) T.n_int (by decide +kernel) (pa_cons (pv 6) pa_nil)) (pe_callB (c_lenK K) (by rfl) T.n_len (by decide +kernel) (pa_cons (pv 3) pa_nil))) (fun _ _ => rfl))))))))))
  (pss_one (ps_ret (pv 4)))))))), ?_⟩
  try dsimp only [cxOf, Cx.wish]
  obtain ⟨rows, ⟨bs, el, pb⟩, l6, hr, qbig, qok, hW⟩ := hyp
  have line : (100000 : Nat) < sizeLine := by decide
  have lbs := Paired.length pb
  refine s_seq ?_
  refine s_cut (fun σ' H' => σ' = stM (some (.ref l)) (some (.int 1)) ∧ H' = H) (fun N hN => ?_) ?_
  · kc_close
    exact hN _ _ ⟨rfl, rfl⟩
  rintro _ H ⟨rfl, rfl⟩
  refine s_seq ?_
  refine s_cut (fun σ' H' => ∃ y2 y3 : Option V, σ' = stM (some (.ref l)) (some (.int (mixC rows : Nat))) y2 y3 ∧ Same H H') (fun N hN => ?_) ?_
  · kc_close
    refine s_ilistv (SqL.of el) ?_
    refine w_list (xs := bs.map V.ref) (fun i σ' H' => ∃ y2 y3 : Option V, σ' = stM (some (.ref l)) (some (.int (mixC (rows.take i) : Nat))) y2 y3 ∧ Same H H') ⟨none, none, rfl, Same.refl _⟩ (fun i σ' H' _ z => by
      obtain ⟨_, _, _, s⟩ := z
      exact SqL.of (s _ _ el)) ?_ ?_
    · rintro i x _ H2 ex ⟨y2, y3, rfl, s2⟩
      rw [List.getElem?_map] at ex
      cases hj : bs[i]? with
      | none => rw [hj] at ex; cases ex
      | some b =>
        rw [hj] at ex
        have : x = V.ref b := by injection ex with ex; exact ex.symm
        subst this
        obtain ⟨r, er, o, us, hb, eo, ho⟩ := paired_at pb hj
        have hb2 := sqt_same s2 hb
        have eo2 := s2 _ _ eo
        have lus := Ims.length ho
        have hr' := hr r (List.mem_of_getElem? er)
        have step : rows.take (i + 1) = rows.take i ++ [r] := by rw [List.take_succ, er]; rfl
        generalize hc : mixC (rows.take i) = c
        kc_close
        refine s_if ?_
        kc_close
        refine ifP (fun h => ?_) (fun h => ?_)
        · kc_close
          refine ⟨(c : Int), (us.length : Int), rfl, by omega, by omega, by rw [lus]; omega, ?_⟩
          have g1 : 0 < Nat.gcd c us.length := Nat.gcd_pos_of_pos_right _ (by omega)
          have g2 : Nat.gcd c us.length ≤ us.length := Nat.gcd_le_right _ (by omega)
          rw [Int.toNat_natCast, Int.toNat_natCast]
          refine s_rI ⟨by omega, by omega⟩ ?_
          kc_close
          refine ⟨some (.int (r.1 : Int)), some (.ref o), ?_, s2⟩
          rw [step, mixC_snoc, hc, if_pos (by omega), ← lus]
          rfl
        · refine ⟨some (.int (r.1 : Int)), some (.ref o), ?_, s2⟩
          rw [step, mixC_snoc, hc, if_neg (by omega)]
          rfl
    · rintro _ H2 ⟨y2, y3, rfl, s2⟩
      rw [List.length_map, lbs, List.take_length]
      exact hN _ _ ⟨y2, y3, rfl, s2⟩
  rintro _ H2 ⟨y2, y3, rfl, s2⟩
  generalize hcc : mixC rows = c at *
  have el2 := s2 _ _ el
  refine s_seq ?_
  refine s_cut (fun σ' H' => σ' = stM (some (.ref l)) (some (.int (c : Nat))) y2 y3 ∧ Same H H' ∧ c * (rows.map (·.1)).sum ≤ 3000) (fun N hN => ?_) ?_
  · refine s_if ?_
    kc_close
    refine s_ilistv (SqL.of el2) ?_
    refine l_mapL (fun i => V.int (((rows.map fun r => (r.1 : Int))).getD i 0)) (SqL.of el2) (by rw [List.length_map]; omega) ?_ ?_
    · intro D N' i y H' e s' k'
      rw [List.getElem?_map] at e
      cases hj : bs[i]? with
      | none => rw [hj] at e; cases e
      | some b =>
        rw [hj] at e
        have : y = V.ref b := by injection e with e; exact e.symm
        subst this
        obtain ⟨r, er, o, us, hb, eo, ho⟩ := paired_at pb hj
        have hb' := sqt_same (s2.trans s') hb
        rw [List.getD_eq_getElem?_getD, List.getElem?_map, er] at k'
        kc_close
        exact k' _ (Same.refl _)
    intro B H3 nB s3 eB
    rw [List.length_map, lbs, w_ints] at eB
    kc_close
    refine s_sum (SqL.of eB) ?_
    rw [w_sum]
    have hW6 : (rows.map (·.1)).sum ≤ 6000 := by
      have := nsum_bd (xs := rows.map (·.1)) (b := 1000) (fun y hy => by
        obtain ⟨z, hz, rfl⟩ := List.mem_map.mp hy
        exact (hr z hz).1)
      rw [List.length_map] at this
      omega
    refine s_rI (.inr ⟨by omega, by omega⟩) ?_
    kc_close
    refine ifP (fun h => ?_) (fun h => ?_)
    · kc_close
      refine qbig ?_ H3 (s2.trans s3)
      have : ((c * (rows.map (·.1)).sum : Nat) : Int) > 3000 := by rw [Int.natCast_mul]; exact h
      omega
    · refine hN _ _ ⟨rfl, s2.trans s3, ?_⟩
      have : ¬ ((c * (rows.map (·.1)).sum : Nat) : Int) > 3000 := by rw [Int.natCast_mul]; exact h
      omega
  rintro _ H3 ⟨rfl, s3, hsmall⟩
  refine s_seq ?_
  refine s_cut (fun σ' H' => ∃ fo, σ' = stM (some (.ref l)) (some (.int (c : Nat))) y2 y3 (some (.ref fo)) ∧ Same H H' ∧ H fo = none ∧ OutsAt K H' fo []) (fun N hN => ?_) ?_
  · kc_close
    intro f H4 n4 s4 e4
    kc_close
    exact hN _ _ ⟨f, rfl, s3.trans s4, s3.free n4, [], e4, rfl⟩
  rintro _ H4 ⟨fo, rfl, s4, nfo, hfo⟩
  have el4 := s4 _ _ el
  have hlen : (mixL c rows).length ≤ 3000 := by
    rw [mix_len fun r hr' => (hr r hr').2.1, Nat.mul_comm]
    exact hsmall
  kc_close
  refine s_ilistv (SqL.of el4) ?_
  refine w_list (xs := bs.map V.ref) (fun i σ' H' => ∃ (fo : Addr) (y2 y3 y5 : Option V), σ' = stM (some (.ref l)) (some (.int (c : Nat))) y2 y3 (some (.ref fo)) y5 ∧ Same H H' ∧ H fo = none ∧ OutsAt K H' fo (mixL c (rows.take i))) ⟨fo, y2, y3, none, rfl, s4, nfo, hfo⟩ (fun i σ' H' _ z => by
    obtain ⟨_, _, _, _, _, s, _⟩ := z
    exact SqL.of (s _ _ el)) ?_ ?_
  · rintro i x _ H5 ex ⟨fo, y2, y3, y5, rfl, s5, nfo, hfo⟩
    rw [List.getElem?_map] at ex
    cases hj : bs[i]? with
    | none => rw [hj] at ex; cases ex
    | some b =>
      rw [hj] at ex
      have : x = V.ref b := by injection ex with ex; exact ex.symm
      subst this
      obtain ⟨r, er, o, us, hb, eo, ho⟩ := paired_at pb hj
      have hb5 := sqt_same s5 hb
      have lus := Ims.length ho
      have hr' := hr r (List.mem_of_getElem? er)
      have step : rows.take (i + 1) = rows.take i ++ [r] := by rw [List.take_succ, er]; rfl
      have stepM : mixL c (rows.take (i + 1)) = mixL c (rows.take i) ++ (List.replicate r.1 (cyc c r.2)).flatten := by rw [step, mixL_app, mixL_one]
      have hle : (mixL c (rows.take (i + 1))).length ≤ 3000 := by
        have : mixL c rows = mixL c (rows.take (i + 1)) ++ mixL c (rows.drop (i + 1)) := by rw [← mixL_app, List.take_append_drop]
        rw [this, List.length_append] at hlen
        omega
      rw [stepM, List.length_append, rep_flat_len] at hle
      kc_close
      refine s_rng1v (by omega) (by omega) ?_
      rw [Int.toNat_natCast]
      refine w_range (fun t σ' H' => ∃ (fo : Addr) (y5 : Option V), σ' = stM (some (.ref l)) (some (.int (c : Nat))) (some (.int (r.1 : Int))) (some (.ref o)) (some (.ref fo)) y5 ∧ Same H H' ∧ H fo = none ∧ OutsAt K H' fo (mixL c (rows.take i) ++ (List.replicate t (cyc c r.2)).flatten)) ⟨fo, y5, rfl, s5, nfo, by rw [List.replicate_zero, List.flatten_nil, List.append_nil]; exact hfo⟩ ?_ ?_
      · rintro t _ H6 ht ⟨fo, y5, rfl, s6, nfo, fus, ef, hf⟩
        have eo6 := s6 _ _ eo
        have lf := Ims.length hf
        rw [List.length_append, rep_flat_len] at lf
        have ht1 : t * (cyc c r.2).length ≤ r.1 * (cyc c r.2).length := Nat.mul_le_mul_right _ (by omega)
        have hcl : (cyc c r.2).length = c := cyc_len (by omega)
        have hmul : (t + 1) * (cyc c r.2).length ≤ r.1 * (cyc c r.2).length := Nat.mul_le_mul_right _ (by omega)
        rw [Nat.succ_mul] at hmul
        rw [hcl] at hmul hle lf
        kc_close
        refine s_rng1v (by omega) (by omega) ?_
        rw [Int.toNat_natCast]
        refine l_mapR (fun j => us.getD (j % us.length) .non) (by omega) ?_ ?_
        · intro D N' j H' hj' s' k'
          have eo' := s' _ _ eo6
          have hlt : j % us.length < us.length := Nat.mod_lt _ (by omega)
          kc_close
          refine s_ixL (SqL.of eo') (at_of (j := j % us.length) (v := us.getD (j % us.length) .non) ?_ (by rw [List.getD_eq_getElem?_getD, List.getElem?_eq_getElem hlt]; rfl)) ?_
          · rw [Int.zero_add, Int.natCast_emod]
          exact k' _ (Same.refl _)
        intro B H7 nB s7 eB
        have hcyc := ims_cyc (ims_sm (s6.trans s7) ho) (by omega) c
        have lcyc := Ims.length hcyc
        kc_close
        refine s_catL (s7 _ _ ef) eB (by rw [lf, List.length_map, List.length_range]; omega) fun f2 H8 n8 s8 e8 => ?_
        kc_close
        refine ⟨f2, _, rfl, (s6.trans s7).trans s8, (s6.trans s7).free n8, _, e8, ?_⟩
        rw [rep_flat_succ, ← List.append_assoc]
        exact (ims_sm (s7.trans s8) hf).app (ims_sm s8 hcyc)
      · rintro _ H6 ⟨fo, y5, rfl, s6, nfo, hfo⟩
        refine ⟨fo, _, _, _, rfl, s6, nfo, ?_⟩
        rw [stepM]
        exact hfo
  · rintro _ H5 ⟨fo, y2, y3, y5, rfl, s5, nfo, hfo⟩
    rw [List.length_map, lbs, List.take_length] at hfo
    kc_close
    exact qok hsmall hW H5 fo s5 nfo hfo
end
end K1
end
section
open PySem PySem.Spec PyProof.Rows L2 Z
local macro_rules | `(tactic| ktr_room) => `(tactic| first
  | assumption
  | (apply SqT.of; assumption)
  | (apply SqL.of; assumption)
  | (apply sqt_same; assumption; ktr_room)
  | (apply sql_same; assumption; ktr_room)
  | (apply sqt_but; assumption; assumption; ktr_room)
  | (apply sql_but; assumption; assumption; ktr_room)
  | (apply Same.of_; assumption; ktr_room)
  | (apply But.of_; assumption; assumption; ktr_room)
  | exact same_refl
  | exact but_refl
  | (apply same_tr; assumption; ktr_room)
  | (apply same_but; assumption; ktr_room; assumption)
  | (apply but_tr; assumption; ktr_room)
  | (apply but_trB; assumption; ktr_room))
local macro_rules | `(tactic| ktr_units) => `(tactic| first | with_reducible assumption | omega | rfl | exact ⟨by omega, by omega⟩ | exact .inl ⟨by omega, by omega⟩ | exact .inr ⟨by omega, by omega⟩ | exact ⟨by decide, by decide, by decide⟩ | exact Nat.le_of_ble_eq_true rfl | decide)
local macro_rules | `(tactic| kc_close) => `(tactic| repeat (with_reducible first
  | refine s_var (by with_unfolding_all rfl) ?_
  | refine s_c ?_
  | refine s_op ?_
  | refine s_rI0 ?_
  | refine s_asg ?_
  | refine s_gname ?_
  | refine s_seq ?_
  | refine s_cons ?_
  | refine s_nil ?_
  | refine s_call ?_
  | refine s_ret ?_
  | o_fieldsN
  | refine s_test ?_
  | refine s_bl ?_
  | refine s_rI (by with_unfolding_all (ktr_units)) ?_
  | refine s_rEq rfl ?_
  | refine s_rNe rfl ?_
  | refine s_cb ?_
  | refine s_int1 ?_
  | refine s_intB ?_
  | refine s_max2 ?_
  | refine s_min2 ?_
  | refine s_tup ?_
  | refine s_lst ?_
  | refine s_newT (by with_unfolding_all first | decide | exact Nat.le_of_ble_eq_true rfl) ?_
  | refine s_newL (by with_unfolding_all first | decide | exact Nat.le_of_ble_eq_true rfl) ?_
  | refine s_ixT (by ktr_room) (by with_unfolding_all rfl) ?_
  | refine s_ixL (by ktr_room) (by with_unfolding_all rfl) ?_
  | refine s_lenT (by ktr_room) ?_
  | refine s_lenL (by ktr_room) ?_
  | refine s_un ?_
  | refine s_rU ?_
  | refine s_and ?_
  | refine s_or ?_
  | refine s_not ?_
  | refine s_tB ?_
  | refine s_tru ?_
  | refine s_drop ?_
  | refine s_next ?_
  | refine s_for ?_
  | refine s_rng1 ?_
  | refine s_rng2 ?_
  | refine s_rng3 ?_
  | refine s_ilist ?_
  | refine s_itup ?_
  | refine s_iany ?_
  | refine s_ienum ?_
  | refine s_irev ?_
  | refine s_gcons ?_
  | refine s_gnil ?_
  | refine s_gtup (by ktr_room) (by with_unfolding_all rfl) ?_
  | refine s_gsub ?_
  | refine s_augS ?_
  | refine s_aug (by with_unfolding_all rfl) ?_
  | refine s_ipI ?_
  | refine s_bm ?_
  | refine s_bm0 ?_
  | refine s_tyL (by ktr_room) ?_
  | refine s_tyL0 (by ktr_room) ?_
  | refine s_sl ?_
  | refine s_part ?_
  | refine s_partv ?_
  | refine s_noPart ?_
  | refine s_lc ?_
  | refine s_yes ?_
  | refine s_wipe (by with_unfolding_all rfl) ?_
  | refine iteT ?_
  | refine s_retN ?_
  | refine s_isN ?_
  | refine s_truB ?_
  | refine s_isB2 ?_
  | refine s_notB2 ?_
  | refine s_revT ?_
  | refine s_andV ?_
  | refine s_orV ?_
  | refine s_ifE ?_
  | refine s_notK ?_
  | refine s_notN ?_
  | refine s_truL (by ktr_room) ?_
  | refine s_truT (by ktr_room) ?_))
open K1
local macro_rules | `(tactic| ktr_room) => `(tactic| first
  | (apply DR.same; assumption; ktr_room)
  | (apply sqt_butD; assumption; ktr_room; ktr_room))
open K1
local macro_rules | `(tactic| o_fieldsN) => `(tactic| with_reducible first
  | refine s_tyS ?_)
namespace K1
open TL ML
/-! all outcomes of a lot, by the law -/
def optAll : List (Nat × Option (List PyData)) → Option (List (Nat × List PyData))
  | [] => some []
  | (w, some o) :: r => (optAll r).map ((w, o) :: ·)
  | (_, none) :: _ => none
def mixO (rows : List (Nat × Option (List PyData))) : Option (List PyData) := match optAll rows with
  | none => none
  | some rs => if mixC rs * (rs.map (·.1)).sum ≤ 3000 then some (mixL (mixC rs) rs) else none
def bothF : List (List PyData) → List (Option (List PyData)) → Option (List (List PyData))
  | found, [] => some found
  | _, none :: _ => none
  | found, some outs :: r => if 3000 < outs.length * found.length then none else bothF (found.flatMap fun one => outs.map fun o => one ++ [o]) r
def consD (x : Str) : PyData → PyData
  | .tuple ds => .tuple (.str x :: ds)
  | d => d
def nthR (rows : List (Str × Int)) (k : Nat) : Str × Int := rows.getD k (Str.ofString "", 0)
def prizeRows (f : Lot → Option (List PyData)) (s : Int) (rows : List (Str × Int)) : List (Nat × Option (List PyData)) :=
  (List.range rows.length).map fun k => ((nthR rows k).2.toNat, Option.map (List.map (consD (nthR rows k).1)) (f (.prizes (s - 1) (rows.eraseIdx k))))
def amongRows (f : Lot → Option (List PyData)) : List Int → List Lot → List (Nat × Option (List PyData))
  | w :: ws, l :: ls => (w.toNat, f l) :: amongRows f ws ls
  | _, _ => []
def allF : Nat → Lot → Option (List PyData)
  | 0, _ => none
  | n + 1, e => match e with
    | .sure x => some [.str x]
    | .order xs => some ((tupL xs false xs.length).map namesD)
    | .pick k s xs => if k = 1 then some ((combL xs s.toNat).map namesD) else some ((tupL xs (decide (k = 2)) s.toNat).map namesD)
    | .seats s rows => some ((List.range (Int.toNat (rows.map fun (r : Str × Int) => r.2).sum)).map fun (i : Nat) => seatD s rows (i : Int))
    | .prizes s rows => if s = 0 then some [.tuple []] else mixO (prizeRows (allF n) s rows)
    | .both ls => (bothF [[]] (ls.map (allF n))).map (List.map .tuple)
    | .among ws ls => mixO (amongRows (allF n) ws ls)
def ROk : Nat → Lot → Prop
  | 0, _ => False
  | n + 1, e => match e with
    | .sure x => strS x = true
    | .order xs => xs.Nodup ∧ xs.length ≤ 6 ∧ ∀ x ∈ xs, strS x = true
    | .pick k s xs => xs.Nodup ∧ 0 < xs.length ∧ xs.length ≤ 6 ∧ 0 ≤ s ∧ k ≤ 2 ∧ (k < 2 → s ≤ xs.length) ∧ (k = 2 → s ≤ 3) ∧ ∀ x ∈ xs, strS x = true
    | .prizes s rows => rows.length ≤ 5 ∧ 0 ≤ s ∧ s ≤ rows.length ∧ s ≤ n ∧ ∀ r ∈ rows, 1 ≤ r.2 ∧ r.2 ≤ 100 ∧ strS r.1 = true
    | .seats s rows => rows.length ≤ 6 ∧ 0 ≤ s ∧ s ≤ 1000 ∧ (∀ r ∈ rows, 0 ≤ r.2 ∧ r.2 ≤ 100000 ∧ strS r.1 = true) ∧ 0 < (rows.map (·.2)).sum ∧ (rows.map (·.2)).sum ≤ 3000
    | .both ls => ls.length ≤ 6 ∧ ∀ l ∈ ls, ROk n l
    | .among ws ls => ws.length = ls.length ∧ ls.length ≤ 6 ∧ (∀ w ∈ ws, 0 ≤ w ∧ w ≤ 1000) ∧ 0 < ws.sum ∧ ∀ l ∈ ls, ROk n l
theorem ROk.mono : ∀ {n m : Nat} {e : Lot}, ROk n e → n ≤ m → ROk m e
  | 0, _, _, h, _ => h.elim
  | n + 1, 0, _, _, hm => by omega
  | n + 1, m + 1, e, h, hm => by
    cases e with
    | sure x => exact h
    | order xs => exact h
    | pick k s xs => exact h
    | seats s rows => exact h
    | prizes s rows => exact ⟨h.1, h.2.1, h.2.2.1, by have := h.2.2.2.1; omega, h.2.2.2.2⟩
    | both ls => exact ⟨h.1, fun l hl => (h.2 l hl).mono (by omega)⟩
    | among ws ls => exact ⟨h.1, h.2.1, h.2.2.1, h.2.2.2.1, fun l hl => (h.2.2.2.2 l hl).mono (by omega)⟩
theorem plain_rok {e : Lot} (h : PlainOk e) : ROk 7 e := by
  cases e with
  | sure x => exact strS_nm h
  | order xs => exact ⟨h.1.nd, h.2, fun x hx => strS_nm (h.1.nm x hx)⟩
  | pick k s xs => exact ⟨h.1.nd, h.1.pos, h.2.1, h.2.2.1, h.2.2.2.1, h.2.2.2.2.1, h.2.2.2.2.2, fun x hx => strS_nm (h.1.nm x hx)⟩
  | prizes s rows => exact ⟨h.2.1, h.2.2.1, h.2.2.2.1, by have := h.2.2.2.1; have := h.2.1; show s ≤ (6 : Int); omega, fun r hr => ⟨(h.2.2.2.2 r hr).1, (h.2.2.2.2 r hr).2, strS_nm (h.1.nm _ (List.mem_map_of_mem hr))⟩⟩
  | seats s rows =>
    refine ⟨h.2.1, h.2.2.1, by have := h.2.2.2.1; omega, fun r hr => ⟨(h.2.2.2.2.1 r hr).1, by have := (h.2.2.2.2.1 r hr).2; omega, strS_nm (h.1.nm _ (List.mem_map_of_mem hr))⟩, h.2.2.2.2.2, ?_⟩
    have := sum_bd (xs := rows.map (·.2)) (b := 40) (fun y hy => by
      obtain ⟨z, hz, rfl⟩ := List.mem_map.mp hy
      exact h.2.2.2.2.1 z hz)
    rw [List.length_map] at this
    have := h.2.1
    omega
  | both ls => exact h.elim
  | among ws ls => exact h.elim
theorem lot_rok : ∀ {d : Nat} {e : Lot}, LotOk d e → ROk (d + 7) e
  | 0, e, h => plain_rok h
  | d + 1, e, h => by
    rcases h with h | ⟨ls, rfl, _, l6, h⟩ | ⟨ws, ls, rfl, he, _, l6, hw, hs, h⟩
    · exact (plain_rok h).mono (by omega)
    · exact ⟨l6, fun l hl => (lot_rok (h l hl)).mono (by omega)⟩
    · exact ⟨he, l6, hw, hs, fun l hl => (lot_rok (h l hl)).mono (by omega)⟩
/-! what is true of the lists -/
structure LsOk (ds : List PyData) : Prop where
  pos : 0 < ds.length
  le : ds.length ≤ 3000
  pl : pls ds = true
theorem pls_mapD {α : Type} {f : α → PyData} {l : List α} (h : ∀ x ∈ l, pl (f x) = true) : pls (l.map f) = true := pls_mem.mpr fun d hd => by
  obtain ⟨x, hx, rfl⟩ := List.mem_map.mp hd
  exact h x hx
theorem names_pl {xs : List Str} (h : ∀ x ∈ xs, strS x = true) : pl (namesD xs) = true := pls_mapD (f := PyData.str) h
theorem tupS_short {names : List Str} (nd : names.Nodup) (n6 : names.length ≤ 6) {ag : Bool} {s : Nat} (h : (ag = true ∧ s ≤ 3) ∨ (ag = false ∧ s ≤ names.length)) (hp : 0 < names.length ∨ s = 0 ∨ ag = false) : 0 < (tupL names ag s).length ∧ (tupL names ag s).length ≤ 720 := by
  have := (tup_at nd ag s (h.imp (fun h => h.1) (fun h => h.2))).1
  rw [this]
  generalize names.length = n at *
  rcases h with ⟨rfl, hs⟩ | ⟨rfl, hs⟩
  · have h1 : ∀ n ≤ 6, ∀ s ≤ 3, (0 < n ∨ s = 0) → 0 < (basesN true n s).prod ∧ (basesN true n s).prod ≤ 720 := by decide +kernel
    exact h1 n n6 s hs (by rcases hp with h | h | h; exact .inl h; exact .inr h; cases h)
  · have h1 : ∀ n ≤ 6, ∀ s ≤ n, 0 < (basesN false n s).prod ∧ (basesN false n s).prod ≤ 720 := by decide +kernel
    exact h1 n n6 s hs
theorem ch_short : ∀ n ≤ 6, ∀ s ≤ n, 0 < ch n s ∧ ch n s ≤ 20 := by decide +kernel
theorem comb_mem {α : Type} : ∀ {xs : List α} {s : Nat} {t : List α}, t ∈ combL xs s → ∀ x ∈ t, x ∈ xs
  | xs, 0, t, h, x, hx => by
    have : t = [] := by cases xs <;> simpa [combL] using h
    subst this
    cases hx
  | [], s + 1, t, h, x, hx => by simp [combL] at h
  | a :: xs, s + 1, t, h, x, hx => by
    rw [combL] at h
    rcases List.mem_append.mp h with h | h
    · obtain ⟨q, hq, rfl⟩ := List.mem_map.mp h
      rcases List.mem_cons.mp hx with hx | hx
      · rw [hx]; exact List.mem_cons_self ..
      · exact List.mem_cons_of_mem _ (comb_mem hq x hx)
    · exact List.mem_cons_of_mem _ (comb_mem h x hx)
theorem seats_pl {s tot : Int} : ∀ (b : Int) {rows : List (Str × Int)}, (∀ r ∈ rows, strS r.1 = true) → pls (seatsL s tot b rows) = true
  | _, [], _ => rfl
  | b, r :: rows, h => by
    show ((strS r.1 && (true && true)) && pls (seatsL s tot _ rows)) = true
    rw [h r (List.mem_cons_self ..), seats_pl _ fun x hx => h x (List.mem_cons_of_mem _ hx)]
    rfl
theorem optAll_some : ∀ {rows : List (Nat × Option (List PyData))} {rs : List (Nat × List PyData)}, optAll rows = some rs → rows = rs.map fun r => (r.1, some r.2)
  | [], rs, h => by
    have : rs = [] := by injection h with h; exact h.symm
    subst this
    rfl
  | (w, some o) :: r, rs, h => by
    have h' : (optAll r).map ((w, o) :: ·) = some rs := h
    cases hr : optAll r with
    | none => rw [hr] at h'; cases h'
    | some q =>
      rw [hr] at h'
      have : rs = (w, o) :: q := by injection h' with h'; exact h'.symm
      subst this
      rw [optAll_some hr]
      rfl
  | (w, none) :: r, rs, h => by cases h
theorem mixC_pos {rs : List (Nat × List PyData)} (h : ∀ r ∈ rs, LsOk r.2) : 0 < mixC rs := by
  have : ∀ (l : List (Nat × List PyData)), (∀ r ∈ l, LsOk r.2) → ∀ c, 0 < c → 0 < l.foldl (fun c r => if 0 < r.1 then c / Nat.gcd c r.2.length * r.2.length else c) c := by
    intro l
    induction l with
    | nil => intro _ c hc; exact hc
    | cons r l ih =>
      intro hl c hc
      refine ih (fun x m => hl x (List.mem_cons_of_mem _ m)) _ ?_
      have hp := (hl r (List.mem_cons_self ..)).pos
      show 0 < if 0 < r.1 then c / Nat.gcd c r.2.length * r.2.length else c
      split
      · exact Nat.mul_pos (Nat.div_pos (Nat.gcd_le_left _ hc) (Nat.gcd_pos_of_pos_left _ hc)) hp
      · exact hc
  exact this rs h 1 (by decide)
theorem mix_ok {rows : List (Nat × Option (List PyData))} {out : List PyData} (h : mixO rows = some out) (ho : ∀ r ∈ rows, ∀ o, r.2 = some o → LsOk o) (hw : 0 < (rows.map (·.1)).sum) :
    ∃ rs, optAll rows = some rs ∧ mixC rs * (rs.map (·.1)).sum ≤ 3000 ∧ out = mixL (mixC rs) rs ∧ LsOk out := by
  unfold mixO at h
  cases hr : optAll rows with
  | none => rw [hr] at h; cases h
  | some rs =>
    rw [hr] at h
    have er := optAll_some hr
    have hs : (rows.map (·.1)).sum = (rs.map (·.1)).sum := by rw [er, List.map_map]; rfl
    have hrs : ∀ r ∈ rs, LsOk r.2 := fun r m => ho (r.1, some r.2) (by rw [er]; exact List.mem_map_of_mem m) r.2 rfl
    dsimp only at h
    by_cases hb : mixC rs * (rs.map (·.1)).sum ≤ 3000
    · rw [if_pos hb] at h
      have e : out = mixL (mixC rs) rs := by injection h with h; exact h.symm
      refine ⟨rs, rfl, hb, e, ?_⟩
      have hl := mix_len (c := mixC rs) (rows := rs) fun r m => (hrs r m).pos
      have hc : 0 < mixC rs := mixC_pos hrs
      subst e
      refine ⟨?_, by rw [hl, Nat.mul_comm]; exact hb, pls_mem.mpr fun d hd => ?_⟩
      · rw [hl]
        exact Nat.mul_pos (by omega) hc
      · obtain ⟨x, hx, hd⟩ := List.mem_flatMap.mp hd
        obtain ⟨r, hm, hx⟩ := List.mem_flatMap.mp hx
        rw [(List.mem_replicate.mp hx).2] at hd
        obtain ⟨i, _, hi⟩ := List.mem_filterMap.mp hd
        exact pls_mem.mp (hrs r hm).pl d (List.mem_of_getElem? hi)
    · rw [if_neg hb] at h
      cases h
end K1
end
section
open PySem PySem.Spec PyProof.Rows L2 Z
local macro_rules | `(tactic| ktr_room) => `(tactic| first
  | assumption
  | (apply SqT.of; assumption)
  | (apply SqL.of; assumption)
  | (apply sqt_same; assumption; ktr_room)
  | (apply sql_same; assumption; ktr_room)
  | (apply sqt_but; assumption; assumption; ktr_room)
  | (apply sql_but; assumption; assumption; ktr_room)
  | (apply Same.of_; assumption; ktr_room)
  | (apply But.of_; assumption; assumption; ktr_room)
  | exact same_refl
  | exact but_refl
  | (apply same_tr; assumption; ktr_room)
  | (apply same_but; assumption; ktr_room; assumption)
  | (apply but_tr; assumption; ktr_room)
  | (apply but_trB; assumption; ktr_room))
local macro_rules | `(tactic| ktr_units) => `(tactic| first | with_reducible assumption | omega | rfl | exact ⟨by omega, by omega⟩ | exact .inl ⟨by omega, by omega⟩ | exact .inr ⟨by omega, by omega⟩ | exact ⟨by decide, by decide, by decide⟩ | exact Nat.le_of_ble_eq_true rfl | decide)
local macro_rules | `(tactic| kc_close) => `(tactic| repeat (with_reducible first
  | refine s_var (by with_unfolding_all rfl) ?_
  | refine s_c ?_
  | refine s_op ?_
  | refine s_rI0 ?_
  | refine s_asg ?_
  | refine s_gname ?_
  | refine s_seq ?_
  | refine s_cons ?_
  | refine s_nil ?_
  | refine s_call ?_
  | refine s_ret ?_
  | o_fieldsN
  | refine s_test ?_
  | refine s_bl ?_
  | refine s_rI (by with_unfolding_all (ktr_units)) ?_
  | refine s_rEq rfl ?_
  | refine s_rNe rfl ?_
  | refine s_cb ?_
  | refine s_int1 ?_
  | refine s_intB ?_
  | refine s_max2 ?_
  | refine s_min2 ?_
  | refine s_tup ?_
  | refine s_lst ?_
  | refine s_newT (by with_unfolding_all first | decide | exact Nat.le_of_ble_eq_true rfl) ?_
  | refine s_newL (by with_unfolding_all first | decide | exact Nat.le_of_ble_eq_true rfl) ?_
  | refine s_ixT (by ktr_room) (by with_unfolding_all rfl) ?_
  | refine s_ixL (by ktr_room) (by with_unfolding_all rfl) ?_
  | refine s_lenT (by ktr_room) ?_
  | refine s_lenL (by ktr_room) ?_
  | refine s_un ?_
  | refine s_rU ?_
  | refine s_and ?_
  | refine s_or ?_
  | refine s_not ?_
  | refine s_tB ?_
  | refine s_tru ?_
  | refine s_drop ?_
  | refine s_next ?_
  | refine s_for ?_
  | refine s_rng1 ?_
  | refine s_rng2 ?_
  | refine s_rng3 ?_
  | refine s_ilist ?_
  | refine s_itup ?_
  | refine s_iany ?_
  | refine s_ienum ?_
  | refine s_irev ?_
  | refine s_gcons ?_
  | refine s_gnil ?_
  | refine s_gtup (by ktr_room) (by with_unfolding_all rfl) ?_
  | refine s_gsub ?_
  | refine s_augS ?_
  | refine s_aug (by with_unfolding_all rfl) ?_
  | refine s_ipI ?_
  | refine s_bm ?_
  | refine s_bm0 ?_
  | refine s_tyL (by ktr_room) ?_
  | refine s_tyL0 (by ktr_room) ?_
  | refine s_sl ?_
  | refine s_part ?_
  | refine s_partv ?_
  | refine s_noPart ?_
  | refine s_lc ?_
  | refine s_yes ?_
  | refine s_wipe (by with_unfolding_all rfl) ?_
  | refine iteT ?_
  | refine s_retN ?_
  | refine s_isN ?_
  | refine s_truB ?_
  | refine s_isB2 ?_
  | refine s_notB2 ?_
  | refine s_revT ?_
  | refine s_andV ?_
  | refine s_orV ?_
  | refine s_ifE ?_
  | refine s_notK ?_
  | refine s_notN ?_
  | refine s_truL (by ktr_room) ?_
  | refine s_truT (by ktr_room) ?_))
open K1
local macro_rules | `(tactic| ktr_room) => `(tactic| first
  | (apply DR.same; assumption; ktr_room)
  | (apply sqt_butD; assumption; ktr_room; ktr_room))
open K1
local macro_rules | `(tactic| o_fieldsN) => `(tactic| with_reducible first
  | refine s_tyS ?_)
namespace K1
open TL ML
theorem both_ok : ∀ {ls : List (Option (List PyData))} {found out : List (List PyData)}, bothF found ls = some out → (∀ o ∈ ls, ∀ ds, o = some ds → LsOk ds) → 0 < found.length → found.length ≤ 3000 → (∀ q ∈ found, pls q = true) → 0 < out.length ∧ out.length ≤ 3000 ∧ ∀ q ∈ out, pls q = true
  | [], found, out, h, _, h1, h2, h3 => by
    have : found = out := by injection h
    subst this
    exact ⟨h1, h2, h3⟩
  | none :: _, found, out, h, _, _, _, _ => by cases h
  | some outs :: r, found, out, h, ho, h1, h2, h3 => by
    have h' : (if 3000 < outs.length * found.length then none else bothF (found.flatMap fun one => outs.map fun o => one ++ [o]) r) = some out := h
    have lo := ho _ (List.mem_cons_self ..) outs rfl
    by_cases hb : 3000 < outs.length * found.length
    · rw [if_pos hb] at h'; cases h'
    · rw [if_neg hb] at h'
      have hl : (found.flatMap fun one => outs.map fun o => one ++ [o]).length = found.length * outs.length := ML.flat_len fun _ _ => List.length_map ..
      refine both_ok h' (fun o m => ho o (List.mem_cons_of_mem _ m)) ?_ ?_ ?_
      · rw [hl]; exact Nat.mul_pos h1 lo.pos
      · rw [hl, Nat.mul_comm]; omega
      · intro q hq
        obtain ⟨one, h4, hq⟩ := List.mem_flatMap.mp hq
        obtain ⟨o, h5, rfl⟩ := List.mem_map.mp hq
        refine pls_mem.mpr fun d hd => ?_
        rcases List.mem_append.mp hd with hd | hd
        · exact pls_mem.mp (h3 one h4) d hd
        · rw [List.mem_singleton.mp hd]
          exact pls_mem.mp lo.pl o h5
theorem among_mem {f : Lot → Option (List PyData)} : ∀ {ws : List Int} {ls : List Lot} {r : Nat × Option (List PyData)}, r ∈ amongRows f ws ls → ∃ w l, w ∈ ws ∧ l ∈ ls ∧ r = (w.toNat, f l)
  | [], _, _, h => by cases h
  | _ :: _, [], _, h => by cases h
  | w :: ws, l :: ls, r, h => by
    rcases List.mem_cons.mp h with h | h
    · exact ⟨w, l, List.mem_cons_self .., List.mem_cons_self .., h⟩
    · obtain ⟨w', l', h1, h2, h3⟩ := among_mem h
      exact ⟨w', l', List.mem_cons_of_mem _ h1, List.mem_cons_of_mem _ h2, h3⟩
theorem among_fst {f : Lot → Option (List PyData)} : ∀ {ws : List Int} {ls : List Lot}, ws.length = ls.length → (amongRows f ws ls).map (·.1) = ws.map Int.toNat
  | [], [], _ => rfl
  | [], _ :: _, h => by cases h
  | _ :: _, [], h => by cases h
  | w :: ws, l :: ls, h => by
    show w.toNat :: (amongRows f ws ls).map (·.1) = _
    rw [among_fst (by simpa using h)]
    rfl
theorem toNat_sum : ∀ {ws : List Int}, (∀ w ∈ ws, 0 ≤ w) → (((ws.map Int.toNat).sum : Nat) : Int) = ws.sum
  | [], _ => rfl
  | w :: ws, h => by
    rw [List.map_cons, List.sum_cons, List.sum_cons, ← toNat_sum fun x m => h x (List.mem_cons_of_mem _ m), Int.natCast_add, Int.toNat_of_nonneg (h w (List.mem_cons_self ..))]
theorem nth_mem {rows : List (Str × Int)} {k : Nat} (h : k < rows.length) : nthR rows k ∈ rows := by
  unfold nthR
  rw [List.getD_eq_getElem?_getD, List.getElem?_eq_getElem h]
  exact List.getElem_mem h
theorem cons_pl {x : Str} {d : PyData} (hx : strS x = true) (h : pl d = true) : pl (consD x d) = true := by
  cases d with
  | tuple ds =>
    show (strS x && pls ds) = true
    rw [hx]
    exact h
  | _ => exact h
theorem LsOk.cons {x : Str} {ds : List PyData} (hx : strS x = true) (h : LsOk ds) : LsOk (ds.map (consD x)) :=
  ⟨by rw [List.length_map]; exact h.pos, by rw [List.length_map]; exact h.le, pls_mapD fun d hd => cons_pl hx (pls_mem.mp h.pl d hd)⟩
theorem erase_rok {n : Nat} {s : Int} {rows : List (Str × Int)} (h : ROk (n + 1) (.prizes s rows)) (h0 : s ≠ 0) {k : Nat} (hk : k < rows.length) : ROk n (.prizes (s - 1) (rows.eraseIdx k)) := by
  obtain ⟨l5, s0, s1, sn, hr⟩ := h
  cases n with
  | zero => exact absurd (show s = 0 by have : s ≤ (0 : Int) := sn; omega) h0
  | succ n =>
    have hl : (rows.eraseIdx k).length = rows.length - 1 := List.length_eraseIdx_of_lt hk
    refine ⟨by omega, by omega, by rw [hl]; omega, ?_, fun r m => hr r (List.mem_of_mem_eraseIdx m)⟩
    have : s ≤ ((n + 1 : Nat) : Int) := sn
    rw [Int.natCast_add] at this
    show s - 1 ≤ (n : Int)
    omega
theorem prize_pos {rows : List (Str × Int)} {f : Lot → Option (List PyData)} {s : Int} (h : ∀ r ∈ rows, 1 ≤ r.2 ∧ r.2 ≤ 100 ∧ strS r.1 = true) (h0 : 0 < rows.length) : 0 < ((prizeRows f s rows).map (·.1)).sum := by
  unfold prizeRows
  rw [List.map_map]
  obtain ⟨m, hm⟩ : ∃ m, rows.length = m + 1 := ⟨rows.length - 1, by omega⟩
  rw [hm, List.range_succ_eq_map, List.map_cons, List.sum_cons]
  have := (h _ (nth_mem (rows := rows) (k := 0) (by omega))).1
  show 0 < (nthR rows 0).2.toNat + _
  omega
theorem all_ok : ∀ {n : Nat} {e : Lot} {out : List PyData}, ROk n e → allF n e = some out → LsOk out
  | 0, _, _, h, _ => h.elim
  | n + 1, e, out, h, ha => by
    cases e with
    | sure x =>
      have : out = [.str x] := by injection ha with ha; exact ha.symm
      subst this
      refine ⟨by show 0 < 1; decide, by show 1 ≤ 3000; decide, ?_⟩
      show (strS x && true) = true
      rw [show strS x = true from h]
      rfl
    | order xs =>
      have : out = (tupL xs false xs.length).map namesD := by injection ha with ha; exact ha.symm
      subst this
      have hs := tupS_short h.1 h.2.1 (ag := false) (s := xs.length) (.inr ⟨rfl, Nat.le_refl _⟩) (.inr (.inr rfl))
      refine ⟨by rw [List.length_map]; exact hs.1, by rw [List.length_map]; omega, pls_mapD fun t ht => names_pl fun x hx => h.2.2 x ((tup_memG ht).2 x hx)⟩
    | pick k s xs =>
      obtain ⟨nd, n0, n6, s0, k2, hk1, hk2, hx⟩ := h
      have ha' : (if k = 1 then some ((combL xs s.toNat).map namesD) else some ((tupL xs (decide (k = 2)) s.toNat).map namesD)) = some out := ha
      by_cases hk : k = 1
      · rw [if_pos hk] at ha'
        have : out = (combL xs s.toNat).map namesD := by injection ha' with ha'; exact ha'.symm
        subst this
        have hc := ch_short xs.length n6 s.toNat (by have := hk1 (by omega); omega)
        rw [← comb_len] at hc
        exact ⟨by rw [List.length_map]; exact hc.1, by rw [List.length_map]; omega, pls_mapD fun t ht => names_pl fun x m => hx x (comb_mem ht x m)⟩
      · rw [if_neg hk] at ha'
        have : out = (tupL xs (decide (k = 2)) s.toNat).map namesD := by injection ha' with ha'; exact ha'.symm
        subst this
        have hs := tupS_short nd n6 (ag := decide (k = 2)) (s := s.toNat) (by
          by_cases h2 : k = 2
          · exact .inl ⟨decide_eq_true h2, by have := hk2 h2; omega⟩
          · exact .inr ⟨decide_eq_false h2, by have := hk1 (by omega); omega⟩) (.inl n0)
        exact ⟨by rw [List.length_map]; exact hs.1, by rw [List.length_map]; omega, pls_mapD fun t ht => names_pl fun x m => hx x ((tup_memG ht).2 x m)⟩
    | seats s rows =>
      have e1 : (List.range (Int.toNat (rows.map fun (r : Str × Int) => r.2).sum)).map (fun (i : Nat) => seatD s rows (i : Int)) = out := by injection ha
      subst e1
      have h0 := h.2.2.2.2.1
      have h3 := h.2.2.2.2.2
      have hx := h.2.2.2.1
      refine ⟨by rw [List.length_map, List.length_range]; omega, by rw [List.length_map, List.length_range]; omega, pls_mapD fun t _ => ?_⟩
      exact seats_pl _ fun r m => (hx r m).2.2
    | prizes s rows =>
      have ha' : (if s = 0 then some [.tuple []] else mixO (prizeRows (allF n) s rows)) = some out := ha
      by_cases h0 : s = 0
      · rw [if_pos h0] at ha'
        have : out = [.tuple []] := by injection ha' with ha'; exact ha'.symm
        subst this
        exact ⟨by decide, by show 1 ≤ 3000; decide, rfl⟩
      · rw [if_neg h0] at ha'
        obtain ⟨_, _, _, _, hk⟩ := mix_ok ha' (fun r hr o ho => by
          obtain ⟨k, hk, rfl⟩ := List.mem_map.mp hr
          have hk := List.mem_range.mp hk
          have ho : Option.map (List.map (consD (nthR rows k).1)) (allF n (.prizes (s - 1) (rows.eraseIdx k))) = some o := ho
          cases hi : allF n (.prizes (s - 1) (rows.eraseIdx k)) with
          | none => rw [hi] at ho; cases ho
          | some i =>
            rw [hi] at ho
            have : o = i.map (consD (nthR rows k).1) := by injection ho with ho; exact ho.symm
            subst this
            exact (all_ok (erase_rok h h0 hk) hi).cons (h.2.2.2.2 _ (nth_mem hk)).2.2) (prize_pos h.2.2.2.2 (by have := h.2.1; have := h.2.2.1; omega))
        exact hk
    | both ls =>
      have ha' : (bothF [[]] (ls.map (allF n))).map (List.map .tuple) = some out := ha
      cases hb : bothF [[]] (ls.map (allF n)) with
      | none => rw [hb] at ha'; cases ha'
      | some q =>
        rw [hb] at ha'
        have : out = q.map .tuple := by injection ha' with ha'; exact ha'.symm
        subst this
        have := both_ok hb (fun o ho ds hd => by
          obtain ⟨l, hl, rfl⟩ := List.mem_map.mp ho
          exact all_ok (h.2 l hl) hd) (by decide) (by show 1 ≤ 3000; decide) (fun q hq => by rw [List.mem_singleton.mp hq]; rfl)
        exact ⟨by rw [List.length_map]; exact this.1, by rw [List.length_map]; exact this.2.1, pls_mapD fun t ht => this.2.2 t ht⟩
    | among ws ls =>
      have ha' : mixO (amongRows (allF n) ws ls) = some out := ha
      obtain ⟨_, _, _, _, hk⟩ := mix_ok ha' (fun r hr o ho => by
        obtain ⟨w, l, _, hl, rfl⟩ := among_mem hr
        exact all_ok (h.2.2.2.2 l hl) ho) (by
        rw [among_fst h.1]
        have := toNat_sum (ws := ws) fun w m => (h.2.2.1 w m).1
        have := h.2.2.2.1
        omega)
      exact hk
end K1
end
section
open PySem PySem.Spec PyProof.Rows L2 Z
local macro_rules | `(tactic| ktr_room) => `(tactic| first
  | assumption
  | (apply SqT.of; assumption)
  | (apply SqL.of; assumption)
  | (apply sqt_same; assumption; ktr_room)
  | (apply sql_same; assumption; ktr_room)
  | (apply sqt_but; assumption; assumption; ktr_room)
  | (apply sql_but; assumption; assumption; ktr_room)
  | (apply Same.of_; assumption; ktr_room)
  | (apply But.of_; assumption; assumption; ktr_room)
  | exact same_refl
  | exact but_refl
  | (apply same_tr; assumption; ktr_room)
  | (apply same_but; assumption; ktr_room; assumption)
  | (apply but_tr; assumption; ktr_room)
  | (apply but_trB; assumption; ktr_room))
local macro_rules | `(tactic| ktr_units) => `(tactic| first | with_reducible assumption | omega | rfl | exact ⟨by omega, by omega⟩ | exact .inl ⟨by omega, by omega⟩ | exact .inr ⟨by omega, by omega⟩ | exact ⟨by decide, by decide, by decide⟩ | exact Nat.le_of_ble_eq_true rfl | decide)
local macro_rules | `(tactic| kc_close) => `(tactic| repeat (with_reducible first
  | refine s_var (by with_unfolding_all rfl) ?_
  | refine s_c ?_
  | refine s_op ?_
  | refine s_rI0 ?_
  | refine s_asg ?_
  | refine s_gname ?_
  | refine s_seq ?_
  | refine s_cons ?_
  | refine s_nil ?_
  | refine s_call ?_
  | refine s_ret ?_
  | o_fieldsN
  | refine s_test ?_
  | refine s_bl ?_
  | refine s_rI (by with_unfolding_all (ktr_units)) ?_
  | refine s_rEq rfl ?_
  | refine s_rNe rfl ?_
  | refine s_cb ?_
  | refine s_int1 ?_
  | refine s_intB ?_
  | refine s_max2 ?_
  | refine s_min2 ?_
  | refine s_tup ?_
  | refine s_lst ?_
  | refine s_newT (by with_unfolding_all first | decide | exact Nat.le_of_ble_eq_true rfl) ?_
  | refine s_newL (by with_unfolding_all first | decide | exact Nat.le_of_ble_eq_true rfl) ?_
  | refine s_ixT (by ktr_room) (by with_unfolding_all rfl) ?_
  | refine s_ixL (by ktr_room) (by with_unfolding_all rfl) ?_
  | refine s_lenT (by ktr_room) ?_
  | refine s_lenL (by ktr_room) ?_
  | refine s_un ?_
  | refine s_rU ?_
  | refine s_and ?_
  | refine s_or ?_
  | refine s_not ?_
  | refine s_tB ?_
  | refine s_tru ?_
  | refine s_drop ?_
  | refine s_next ?_
  | refine s_for ?_
  | refine s_rng1 ?_
  | refine s_rng2 ?_
  | refine s_rng3 ?_
  | refine s_ilist ?_
  | refine s_itup ?_
  | refine s_iany ?_
  | refine s_ienum ?_
  | refine s_irev ?_
  | refine s_gcons ?_
  | refine s_gnil ?_
  | refine s_gtup (by ktr_room) (by with_unfolding_all rfl) ?_
  | refine s_gsub ?_
  | refine s_augS ?_
  | refine s_aug (by with_unfolding_all rfl) ?_
  | refine s_ipI ?_
  | refine s_bm ?_
  | refine s_bm0 ?_
  | refine s_tyL (by ktr_room) ?_
  | refine s_tyL0 (by ktr_room) ?_
  | refine s_sl ?_
  | refine s_part ?_
  | refine s_partv ?_
  | refine s_noPart ?_
  | refine s_lc ?_
  | refine s_yes ?_
  | refine s_wipe (by with_unfolding_all rfl) ?_
  | refine iteT ?_
  | refine s_retN ?_
  | refine s_isN ?_
  | refine s_truB ?_
  | refine s_isB2 ?_
  | refine s_notB2 ?_
  | refine s_revT ?_
  | refine s_andV ?_
  | refine s_orV ?_
  | refine s_ifE ?_
  | refine s_notK ?_
  | refine s_notN ?_
  | refine s_truL (by ktr_room) ?_
  | refine s_truT (by ktr_room) ?_))
open K1
local macro_rules | `(tactic| ktr_room) => `(tactic| first
  | (apply DR.same; assumption; ktr_room)
  | (apply sqt_butD; assumption; ktr_room; ktr_room))
open K1
local macro_rules | `(tactic| o_fieldsN) => `(tactic| with_reducible first
  | refine s_tyS ?_)
namespace K1
open TL ML
theorem ims_strsV {K : PySem.W.Frag} {H : Hp} : ∀ {xs : List Str} {vs : List V}, Ims K H (xs.map PyData.str) vs → vs = xs.map V.str
  | [], vs, h => h
  | x :: xs, vs, h => by
    obtain ⟨v, r, e, i, is⟩ := h
    rw [e, show v = V.str x from i, ims_strsV is]
    rfl
theorem str_inj : ∀ a b : Str, V.str a = V.str b → a = b := fun a b h => by injection h
theorem strs_pl (xs : List Str) : (xs.map V.str).all plV = true := by
  rw [List.all_map, List.all_eq_true]
  intro x _
  rfl
theorem strs_nd {xs : List Str} (h : xs.Nodup) : (xs.map V.str).Nodup := List.pairwise_map.mpr (h.imp fun n z => n (str_inj _ _ z))
section
variable {P : Program} {w : World} {K : PySem.W.Frag} {mg : Str → Option Value} {base : Heap}
theorem tls_outs {H : Hp} {l : Addr} {ts : List (List Str)} (h : TLs K H l (ts.map (List.map V.str))) : OutsAt K H l (ts.map namesD) := by
  obtain ⟨as, e, p⟩ := h
  refine ⟨as.map V.ref, e, ?_⟩
  clear e
  induction ts generalizing as with
  | nil =>
    cases p
    exact rfl
  | cons t ts ih =>
    cases p with
    | cons h1 h2 => exact ⟨.ref _, _, rfl, im_names h1, ih _ h2⟩
/-- a row of the lists of a lot of lots -/
def RowO (K : PySem.W.Frag) (R : Addr) (H : Hp) (b : Addr) (r : Nat × Option (List PyData)) : Prop := ∃ ov : V, SqT K H b [.int (r.1 : Int), ov] ∧ ((ov = .non ∧ r.2 = none) ∨ ∃ o us ds, ov = .ref o ∧ o ≠ R ∧ r.2 = some ds ∧ H o = some (.lst us) ∧ Ims K H ds us)
theorem RowO.same {R : Addr} {H H' : Hp} {b : Addr} {r : Nat × Option (List PyData)} (s : Same H H') (h : RowO K R H b r) : RowO K R H' b r := by
  obtain ⟨ov, h1, h2⟩ := h
  exact ⟨ov, sqt_same s h1, h2.imp id fun ⟨o, us, ds, e, ne, e2, h3, h4⟩ => ⟨o, us, ds, e, ne, e2, s _ _ h3, ims_sm s h4⟩⟩
theorem RowO.but {R : Addr} {H H' : Hp} {b : Addr} {r : Nat × Option (List PyData)} {xs : List V} (s : But R H H') (hR : H R = some (.lst xs)) (h : RowO K R H b r) : RowO K R H' b r := by
  obtain ⟨ov, h1, h2⟩ := h
  have tk := TK.but (K := K) s hR
  exact ⟨ov, tk _ _ h1, h2.imp id fun ⟨o, us, ds, e, ne, e2, h3, h4⟩ => ⟨o, us, ds, e, ne, e2, s _ _ ne h3, Ims.tk tk _ _ h4⟩⟩
def RowsO (K : PySem.W.Frag) (H : Hp) (R : Addr) (rws : List (Nat × Option (List PyData))) : Prop := ∃ bs : List Addr, H R = some (.lst (bs.map V.ref)) ∧ Paired (fun b r => RowO K R H b r) bs rws
theorem rowsO_at {R : Addr} {H : Hp} : ∀ {bs : List Addr} {rws : List (Nat × Option (List PyData))} {rs : List (Nat × List PyData)}, Paired (fun b r => RowO K R H b r) bs rws → optAll rws = some rs → Paired (fun b r => RowAt K H b r) bs rs
  | [], [], rs, .nil, h => by
    have : rs = [] := by injection h with h; exact h.symm
    subst this
    exact .nil
  | b :: bs, (w, some ds) :: rws, rs, .cons h1 h2, h => by
    have h' : (optAll rws).map ((w, ds) :: ·) = some rs := h
    cases hr : optAll rws with
    | none => rw [hr] at h'; cases h'
    | some q =>
      rw [hr] at h'
      have : rs = (w, ds) :: q := by injection h' with h'; exact h'.symm
      subst this
      refine .cons ?_ (rowsO_at h2 hr)
      obtain ⟨ov, g1, g2⟩ := h1
      rcases g2 with ⟨_, g⟩ | ⟨o, us, ds', rfl, _, e, g3, g4⟩
      · cases g
      · have : ds = ds' := by injection e
        subst this
        exact ⟨o, us, g1, g3, g4⟩
  | _ :: _, (w, none) :: _, rs, _, h => by cases h
theorem optAll_none : ∀ {rws : List (Nat × Option (List PyData))}, optAll rws = none ↔ (rws.map fun r => r.2.isNone).any id = true
  | [] => ⟨fun h => (by cases h), fun h => (by cases h)⟩
  | (w, some ds) :: rws => by
    show (optAll rws).map _ = none ↔ (false || (rws.map fun r => r.2.isNone).any id) = true
    rw [Bool.false_or, ← optAll_none]
    cases optAll rws <;> simp
  | (w, none) :: rws => ⟨fun _ => rfl, fun _ => rfl⟩
theorem pairs_imL {H : Hp} : ∀ {ws : List Int} {ls : List Lot} {vs : List V}, Ims K H (pairDs ws ls) vs → ∀ {i : Nat} {x : V}, vs[i]? = some x → ∃ w l b lv, ws[i]? = some w ∧ ls[i]? = some l ∧ x = .ref b ∧ SqT K H b [.int w, lv] ∧ Im K H (lotD l) lv
  | [], [], vs, h, i, x, e => by
    have : vs = [] := h
    subst this
    simp at e
  | [], _ :: _, vs, h, i, x, e => by
    have : vs = [] := h
    subst this
    simp at e
  | _ :: _, [], vs, h, i, x, e => by
    have : vs = [] := h
    subst this
    simp at e
  | w :: ws, l :: ls, vs, h, i, x, e => by
    obtain ⟨v, r, rfl, hd, hr⟩ := h
    obtain ⟨b, _, rfl, hb, _, _, rfl, rfl, lv, _, rfl, hl, rfl⟩ := hd
    cases i with
    | zero =>
      have : x = .ref b := by simpa using e.symm
      exact ⟨w, l, b, lv, rfl, rfl, this, hb, hl⟩
    | succ i =>
      obtain ⟨w', l', b', lv', h1, h2, h3⟩ := pairs_imL hr (i := i) (by simpa using e)
      exact ⟨w', l', b', lv', h1, h2, h3⟩
theorem among_get {f : Lot → Option (List PyData)} : ∀ {ws : List Int} {ls : List Lot} {i : Nat} {w : Int} {l : Lot}, ws[i]? = some w → ls[i]? = some l → (amongRows f ws ls)[i]? = some (w.toNat, f l)
  | [], _, i, w, l, h, _ => by simp at h
  | _ :: _, [], i, w, l, _, h => by simp at h
  | w' :: ws, l' :: ls, 0, w, l, h1, h2 => by
    have e1 : w' = w := by simpa using h1
    have e2 : l' = l := by simpa using h2
    subst e1 e2
    rfl
  | w' :: ws, l' :: ls, i + 1, w, l, h1, h2 => by
    show (amongRows f ws ls)[i]? = _
    exact among_get (by simpa using h1) (by simpa using h2)
theorem pairDs_len : ∀ {ws : List Int} {ls : List Lot}, ws.length = ls.length → (pairDs ws ls).length = ls.length
  | [], [], _ => rfl
  | [], _ :: _, h => by cases h
  | _ :: _, [], h => by cases h
  | w :: ws, l :: ls, h => by
    show (pairDs ws ls).length + 1 = ls.length + 1
    rw [pairDs_len (by simpa using h)]
theorem amongR_len {f : Lot → Option (List PyData)} : ∀ {ws : List Int} {ls : List Lot}, ws.length = ls.length → (amongRows f ws ls).length = ls.length
  | [], [], _ => rfl
  | [], _ :: _, h => by cases h
  | _ :: _, [], h => by cases h
  | w :: ws, l :: ls, h => by
    show (amongRows f ws ls).length + 1 = ls.length + 1
    rw [amongR_len (by simpa using h)]
theorem map_eraseG {α β : Type} (f : α → β) : ∀ (l : List α) (i : Nat), (l.eraseIdx i).map f = (l.map f).eraseIdx i
  | [], i => rfl
  | a :: l, 0 => rfl
  | a :: l, i + 1 => by
    rw [List.eraseIdx_cons_succ, List.map_cons, List.map_cons, List.eraseIdx_cons_succ, map_eraseG f l i]
theorem prizes_tup : ∀ {n : Nat} {s : Int} {rows : List (Str × Int)} {out : List PyData}, ROk n (.prizes s rows) → allF n (.prizes s rows) = some out → ∀ d ∈ out, ∃ ds, d = .tuple ds ∧ (ds.length : Int) ≤ s
  | 0, _, _, _, h, _ => h.elim
  | n + 1, s, rows, out, h, ha => fun d hd => by
    have ha' : (if s = 0 then some [.tuple []] else mixO (prizeRows (allF n) s rows)) = some out := ha
    by_cases h0 : s = 0
    · rw [if_pos h0] at ha'
      have : out = [.tuple []] := by injection ha' with ha'; exact ha'.symm
      subst this
      rw [List.mem_singleton.mp hd]
      exact ⟨[], rfl, by rw [h0]; exact Int.le_refl _⟩
    · rw [if_neg h0] at ha'
      unfold mixO at ha'
      cases hx : optAll (prizeRows (allF n) s rows) with
      | none => rw [hx] at ha'; cases ha'
      | some rs =>
        rw [hx] at ha'
        have er := optAll_some hx
        dsimp only at ha'
        by_cases hb : mixC rs * (rs.map (·.1)).sum ≤ 3000
        · rw [if_pos hb] at ha'
          have : out = mixL (mixC rs) rs := by injection ha' with ha'; exact ha'.symm
          subst this
          obtain ⟨o, ho, hd⟩ := List.mem_flatMap.mp hd
          obtain ⟨r, hm, ho⟩ := List.mem_flatMap.mp ho
          rw [(List.mem_replicate.mp ho).2] at hd
          obtain ⟨j, _, hj⟩ := List.mem_filterMap.mp hd
          have hdm := List.mem_of_getElem? hj
          have hm' : (r.1, some r.2) ∈ prizeRows (allF n) s rows := by rw [er]; exact List.mem_map_of_mem hm
          obtain ⟨k, hk, e⟩ := List.mem_map.mp hm'
          have hk := List.mem_range.mp hk
          injection e with e1 e2
          cases hi : allF n (.prizes (s - 1) (rows.eraseIdx k)) with
          | none => rw [hi] at e2; cases e2
          | some q =>
            rw [hi] at e2
            have : r.2 = q.map (consD (nthR rows k).1) := by injection e2 with e2; exact e2.symm
            rw [this] at hdm
            obtain ⟨d', hd', rfl⟩ := List.mem_map.mp hdm
            obtain ⟨ds, rfl, hl⟩ := prizes_tup (erase_rok h h0 hk) hi d' hd'
            exact ⟨_, rfl, by rw [List.length_cons, Int.natCast_add]; show (ds.length : Int) + 1 ≤ s; omega⟩
        · rw [if_neg hb] at ha'
          cases ha'
def spAll (K : PySem.W.Frag) (n : Nat) : Sp := fun vs H Q _ => ∃ v : V, vs = [v] ∧ ∃ e, ROk n e ∧ Im K H (lotD e) v ∧ (allF n e = none → ∀ H', Same H H' → Q .non H') ∧ (∀ outs, allF n e = some outs → ∀ H' f, Same H H' → H f = none → OutsAt K H' f outs → Q (.ref f) H')
abbrev sBothL : Str := Str.ofString "both"
abbrev sAmongL : Str := Str.ofString "among"
abbrev sPrizesL : Str := Str.ofString "prizes"
abbrev stA (e kind found lot outs longer one rows weight k inner row o : Option V := none) : L2.St := [e, kind, found, lot, outs, longer, one, rows, weight, k, inner, row, o]
theorem rec__law_all (T : NoB mg) (n : Nat) (h : Has K mg "_law_all" (topS 38) ["e"]) (G__law_tuples : Good P w K mg base 1 "_law_tuples" ["names", "s", "again"] (spTuples K)) (G__law_sets : Good P w K mg base 2 "_law_sets" ["names", "s"] (spSets K)) (G__law_seats : Good P w K mg base 1 "_law_seats" ["e", "k"] (spSeatsL K)) (G__law_mixed : Good P w K mg base 2 "_law_mixed" ["rows"] (spMixed K)) (G__law_all : Good P w K mg base (n + 2) "_law_all" ["e"] (spAll K n)) : Good P w K mg base (n + 2 + 1) "_law_all" ["e"] (spAll K (n + 1)) := by
  have sc : FnScope ["e", "kind", "found", "lot", "outs", "longer", "one", "rows", "weight", "k", "inner", "row", "o"] ["e"] (defScope (topS 38)) := ⟨rfl, rfl, rfl, by decide +kernel, rfl, by decide +kernel, by decide +kernel⟩
  have nd := sc.nd
  refine h.good sc (fun vs H Q E h => by obtain ⟨v, rfl, _⟩ := h; rfl) (fun f cdv A outer s H vs Q E hr h => ?_)
  obtain ⟨v, rfl, hyp⟩ := h
  refine ⟨_, (pss_cons (ps_set (i := 1) nd rfl (by first | exact .inl rfl | exact .inr rfl) (pe_ix (ix_tupK K) (pv 0) pe_int (fun _ _ => rfl)))
  (pss_cons (ps_if (pt_cmpR op_eq (pv 1) pe_str (nomark _))
  (pss_one (ps_ret (pe_lst (pa_cons (pe_ix (ix_tupK K) (pv 0) pe_int (fun _ _ => rfl)) pa_nil)))) pss_nil)
  (pss_cons (ps_if (pt_cmpR op_eq (pv 1) pe_str (nomark _))
  (pss_one (ps_ret (pe_callG G__law_tuples (hr.mono (by first | decide | omega)) (by rfl) (pa_cons (pe_ix (ix_tupK K) (pv 0) pe_int (fun _ _ => rfl)) (pa_cons (pe_callB (c_lenK K) (by rfl) T.n_len (by decide +kernel) (pa_cons (pe_ix (ix_tupK K) (pv 0) pe_int (fun _ _ => rfl)) pa_nil)) (pa_cons pe_bl pa_nil)))))) pss_nil)
  (pss_cons (ps_if (pt_cmpR op_eq (pv 1) pe_str (nomark _))
  (pss_one (ps_ret (pe_callG G__law_tuples (hr.mono (by first | decide | omega)) (by rfl) (pa_cons (pe_ix (ix_tupK K) (pv 0) pe_int (fun _ _ => rfl)) (pa_cons (pe_ix (ix_tupK K) (pv 0) pe_int (fun _ _ => rfl)) (pa_cons pe_bl pa_nil)))))) pss_nil)
  (pss_cons (ps_if (pt_cmpR op_eq (pv 1) pe_str (nomark _))
  (pss_one (ps_ret (pe_callG G__law_sets (hr.mono (by first | decide | omega)) (by rfl) (pa_cons (pe_ix (ix_tupK K) (pv 0) pe_int (fun _ _ => rfl)) (pa_cons (pe_ix (ix_tupK K) (pv 0) pe_int (fun _ _ => rfl)) pa_nil))))) pss_nil)
  (pss_cons (ps_if (pt_cmpR op_eq (pv 1) pe_str (nomark _))
  (pss_one (ps_ret (pe_callG G__law_tuples (hr.mono (by first | decide | omega)) (by rfl) (pa_cons (pe_ix (ix_tupK K) (pv 0) pe_int (fun _ _ => rfl)) (pa_cons (pe_ix (ix_tupK K) (pv 0) pe_int (fun _ _ => rfl)) (pa_cons pe_bl pa_nil)))))) pss_nil)
  (pss_cons (ps_if (pt_cmpR op_eq (pv 1) pe_str (nomark _))
  (pss_one (ps_ret (pe_lc (own := [("k", 9)]) rfl nd (pi_range1 rfl T.n_range (pa_cons (pe_callB (cr_sumK K rfl) (by rfl) T.n_sum (by decide +kernel) (pa_cons (pe_lc (own := [("row", 11)]) rfl nd (pi_tupK K (pe_ix (ix_tupK K) (pv 0) pe_int (fun _ _ => rfl))) (blkOk_by (own := [("row", 11)]) (N := ["e", "kind", "found", "lot", "outs", "longer", "one", "rows", "weight", "k", "inner", "row", "o"]) (by kernel_rfl)) (fun _ _ _ _ _ => (pg_name (i := 11) nd rfl (by first | exact .inl rfl | exact .inr rfl))) (fun _ _ _ _ _ => pts_nil) (fun _ _ _ _ _ => (pe_ix (ix_tupK K) (pv 11) pe_int (fun _ _ => rfl)))) pa_nil)) pa_nil)) (blkOk_by (own := [("k", 9)]) (N := ["e", "kind", "found", "lot", "outs", "longer", "one", "rows", "weight", "k", "inner", "row", "o"]) (by kernel_rfl)) (fun _ _ _ _ _ => (pg_name (i := 9) nd rfl (by first | exact .inl rfl | exact .inr rfl))) (fun _ _ _ _ _ => pts_nil) (fun _ _ _ _ _ => (pe_callG G__law_seats (hr.mono (by first | decide | omega)) (by rfl) (pa_cons (pv 0) (pa_cons (pv 9) pa_nil))))))) pss_nil)
  (pss_cons (ps_if (PW.pt (pw_and (pt_cmpR op_eq (pv 1) pe_str (nomark _)) (pw_and1 (pt_cmpR op_eq (pe_ix (ix_tupK K) (pv 0) pe_int (fun _ _ => rfl)) pe_int (nomark _)))))
  (pss_one (ps_ret (pe_lst (pa_cons (pe_tup pa_nil) pa_nil)))) pss_nil)
  (pss_cons (ps_if (pt_cmpR op_eq (pv 1) pe_str (nomark _))
  (pss_cons (ps_set (i := 2) nd rfl (by first | exact .inl rfl | exact .inr rfl) (pe_lst (pa_cons (pe_tup pa_nil) pa_nil)))
  (pss_cons (ps_for PassesOwn.never rfl (pi_tupK K (pe_ix (ix_tupK K) (pv 0) pe_int (fun _ _ => rfl))) (pg_name (i := 3) nd rfl (by first | exact .inl rfl | exact .inr rfl))
  (pss_cons (ps_set (i := 4) nd rfl (by first | exact .inl rfl | exact .inr rfl) (pe_callG G__law_all (hr.mono (by first | decide | omega)) (by rfl) (pa_cons (pv 3) pa_nil)))
  (pss_cons (ps_if (PW.pt (pw_or (pt_cmpR op_isNn (pv 4) pe_non (nomark _)) (pw_or1 (pt_cmpR op_gt (pe_op op_mul (pe_callB (c_lenK K) (by rfl) T.n_len (by decide +kernel) (pa_cons (pv 4) pa_nil)) (pe_callB (c_lenK K) (by rfl) T.n_len (by decide +kernel) (pa_cons (pv 2) pa_nil))) pe_int (nomark _)))))
  (pss_one (ps_ret pe_non)) pss_nil)
  (pss_cons (ps_set (i := 5) nd rfl (by first | exact .inl rfl | exact .inr rfl) (pe_lst pa_nil))
  (pss_cons (ps_for PassesOwn.never rfl (pi_listK K (pv 2)) (pg_name (i := 6) nd rfl (by first | exact .inl rfl | exact .inr rfl))
  (pss_one (ps_set (i := 5) nd rfl (by first | exact .inl rfl | exact .inr rfl) (pe_op op_cat (pv 5) (pe_lc (own := [("o", 12)]) rfl nd (pi_listK K (pv 4)) (blkOk_by (own := [("o", 12)]) (N := ["e", "kind", "found", "lot", "outs", "longer", "one", "rows", "weight", "k", "inner", "row", "o"]) (by kernel_rfl)) (fun _ _ _ _ _ => (pg_name (i := 12) nd rfl (by first | exact .inl rfl | exact .inr rfl))) (fun _ _ _ _ _ => pts_nil) (fun _ _ _ _ _ => (pe_op (op_catK K) (pv 6) (pe_tup (pa_cons (pv 12) pa_nil)))))))))
  (pss_one (ps_set (i := 2) nd rfl (by first | exact .inl rfl | exact .inr rfl) (pv 5))))))))
  (pss_one (ps_ret (pv 2))))) pss_nil)
  (pss_cons (ps_set (i := 7) nd rfl (by first | exact .inl rfl | exact .inr rfl) (pe_lst pa_nil))
  (pss_cons (ps_if (pt_cmpR op_eq (pv 1) pe_str (nomark _))
  (pss_one (ps_for PassesOwn.never rfl (pi_tupK K (pe_ix (ix_tupK K) (pv 0) pe_int (fun _ _ => rfl))) (pg_tupK K 2 (by rfl) (pgs_cons (pg_name (i := 8) nd rfl (by first | exact .inl rfl | exact .inr rfl)) (pgs_cons (pg_name (i := 3) nd rfl (by first | exact .inl rfl | exact .inr rfl)) pgs_nil)))
  (pss_one (ps_expr (pe_bmK K PySem.F.plainAttrs_list PySem.F.slot_list_append PySem.F.type_list_append mt_append (pv 7) (pa_cons (pe_tup (pa_cons (pv 8) (pa_cons (pe_callG G__law_all (hr.mono (by first | decide | omega)) (by rfl) (pa_cons (pv 3) pa_nil)) pa_nil))) pa_nil)))))) (pss_one (ps_for PassesOwn.never rfl (pi_range1 rfl T.n_range (pa_cons (pe_callB (c_lenK K) (by rfl) T.n_len (by decide +kernel) (pa_cons (pe_ix (ix_tupK K) (pv 0) pe_int (fun _ _ => rfl)) pa_nil)) pa_nil)) (pg_name (i := 9) nd rfl (by first | exact .inl rfl | exact .inr rfl))
  (pss_cons (ps_set (i := 10) nd rfl (by first | exact .inl rfl | exact .inr rfl) (pe_callG G__law_all (hr.mono (by first | decide | omega)) (by rfl) (pa_cons (pe_tup (pa_cons pe_str (pa_cons (pe_op op_sub (pe_ix (ix_tupK K) (pv 0) pe_int (fun _ _ => rfl)) pe_int) (pa_cons (pe_op (op_catK K) (pe_slice (sl_tupK K) (pe_ix (ix_tupK K) (pv 0) pe_int (fun _ _ => rfl)) po_none (po_some (pv 9))) (pe_slice (sl_tupK K) (pe_ix (ix_tupK K) (pv 0) pe_int (fun _ _ => rfl)) (po_some (pe_op op_add (pv 9) pe_int)) po_none)) pa_nil)))) pa_nil)))
  (pss_cons (ps_if (pt_cmpR op_notNn (pv 10) pe_non (nomark _))
  (pss_one (ps_setLc (i := 10) (own := [("one", 6)]) rfl nd rfl rfl (sw_true rfl rfl rfl (by decide +kernel)) (pi_listK K (pv 10)) (blkOk_by (own := [("one", 6)]) (N := ["e", "kind", "found", "lot", "outs", "longer", "one", "rows", "weight", "k", "inner", "row", "o"]) (by kernel_rfl)) (fun _ _ _ _ _ => (pg_name (i := 6) nd rfl (by first | exact .inl rfl | exact .inr rfl))) (fun _ _ _ _ _ => pts_nil) (fun _ _ _ _ _ => (pe_op (op_catK K) (pe_tup (pa_cons (pe_ix (ix_tupK K) (pe_ix (ix_tupK K) (pe_ix (ix_tupK K) (pv 0) pe_int (fun _ _ => rfl)) (pv 9) (fun _ _ => rfl)) pe_int (fun _ _ => rfl)) pa_nil)) (pv 6))))) pss_nil)
  (pss_one (ps_expr (pe_bmK K PySem.F.plainAttrs_list PySem.F.slot_list_append PySem.F.type_list_append mt_append (pv 7) (pa_cons (pe_tup (pa_cons (pe_ix (ix_tupK K) (pe_ix (ix_tupK K) (pe_ix (ix_tupK K) (pv 0) pe_int (fun _ _ => rfl)) (pv 9) (fun _ _ => rfl)) pe_int (fun _ _ => rfl)) (pa_cons (pv 10) pa_nil))) pa_nil)))))))))
  (pss_cons (ps_if (pt_val (pe_callB (cr_anyK K rfl) (by rfl) T.n_any (by decide +kernel) (pa_cons (pe_lc (own := [("weight", 8), ("outs", 4)]) rfl nd (pi_listK K (pv 7)) (blkOk_by (own := [("weight", 8), ("outs", 4)]) (N := ["e", "kind", "found", "lot", "outs", "longer", "one", "rows", "weight", "k", "inner", "row", "o"]) (by kernel_rfl)) (fun _ _ _ _ _ => (pg_tupK K 2 (by rfl) (pgs_cons (pg_name (i := 8) nd rfl (by first | exact .inl rfl | exact .inr rfl)) (pgs_cons (pg_name (i := 4) nd rfl (by first | exact .inl rfl | exact .inr rfl)) pgs_nil)))) (fun _ _ _ _ _ => pts_nil) (fun _ _ _ _ _ => (pe_cmpR op_isNn (pv 4) pe_non (nomark _)))) pa_nil)))
  (pss_one (ps_ret pe_non)) pss_nil)
  (pss_one (ps_ret (pe_callG G__law_mixed (hr.mono (by first | decide | omega)) (by rfl) (pa_cons (pv 7) pa_nil)))))))))))))))), ?_⟩
  try dsimp only [cxOf, Cx.wish]
  obtain ⟨e, he, him, qno, qok⟩ := hyp
  have line : (100000 : Nat) < sizeLine := by decide
  cases e with
  | sure x =>
    obtain ⟨a, _, rfl, ha, _, _, rfl, rfl, _, _, rfl, rfl, rfl⟩ := him
    kc_close
    refine s_if ?_
    kc_close
    refine ifTrue (by decide +kernel) ?_
    kc_close
    intro l H1 n1 s1 e1
    exact qok _ rfl H1 l s1 n1 ⟨_, e1, Ims.one rfl⟩
  | order xs =>
    obtain ⟨a, _, rfl, ha, _, _, rfl, rfl, nv, _, rfl, hnm, rfl⟩ := him
    obtain ⟨nd, n6, hx⟩ := he
    obtain ⟨na, nvs, rfl, hna, hni⟩ := hnm
    have env := ims_strsV hni
    subst env
    kc_close
    refine s_if ?_
    kc_close
    refine ifFalse (by decide +kernel) ?_
    kc_close
    refine s_if ?_
    kc_close
    refine ifTrue (by decide +kernel) ?_
    kc_close
    rw [List.length_map]
    refine ⟨na, (xs.length : Int), false, rfl, xs.map V.str, xs.length, rfl, hna, strs_pl xs, strs_nd nd, by rw [List.length_map]; exact n6, .inr ⟨rfl, by rw [List.length_map]; exact Nat.le_refl _⟩, fun H1 l s1 n1 hl => ?_⟩
    rw [tup_map str_inj] at hl
    exact qok _ rfl H1 l s1 n1 (tls_outs hl)
  | pick k s xs =>
    obtain ⟨a, _, rfl, ha, _, _, rfl, rfl, _, _, rfl, rfl, nv, _, rfl, hnm, rfl⟩ := him
    obtain ⟨nd, n0, n6, s0, k2, hk1, hk2, hx⟩ := he
    obtain ⟨na, nvs, rfl, hna, hni⟩ := hnm
    have env := ims_strsV hni
    subst env
    have es : s = ((s.toNat : Nat) : Int) := (Int.toNat_of_nonneg s0).symm
    rcases (show k = 0 ∨ k = 1 ∨ k = 2 by omega) with rfl | rfl | rfl
    · kc_close
      refine s_if ?_
      kc_close
      refine ifFalse (by decide +kernel) ?_
      kc_close
      refine s_if ?_
      kc_close
      refine ifFalse (by decide +kernel) ?_
      kc_close
      refine s_if ?_
      kc_close
      refine ifTrue (by decide +kernel) ?_
      kc_close
      have hs := hk1 (by omega)
      refine ⟨na, s, false, rfl, xs.map V.str, s.toNat, es, hna, strs_pl xs, strs_nd nd, by rw [List.length_map]; exact n6, .inr ⟨rfl, by rw [List.length_map]; omega⟩, fun H1 l s1 n1 hl => ?_⟩
      rw [tup_map str_inj] at hl
      exact qok _ rfl H1 l s1 n1 (tls_outs hl)
    · kc_close
      refine s_if ?_
      kc_close
      refine ifFalse (by decide +kernel) ?_
      kc_close
      refine s_if ?_
      kc_close
      refine ifFalse (by decide +kernel) ?_
      kc_close
      refine s_if ?_
      kc_close
      refine ifFalse (by decide +kernel) ?_
      kc_close
      refine s_if ?_
      kc_close
      refine ifTrue (by decide +kernel) ?_
      kc_close
      have hs := hk1 (by omega)
      refine ⟨na, s, rfl, xs.map V.str, s.toNat, es, hna, by rw [List.length_map]; exact n6, by rw [List.length_map]; omega, fun H1 l s1 n1 hl => ?_⟩
      rw [comb_map] at hl
      exact qok _ rfl H1 l s1 n1 (tls_outs hl)
    · kc_close
      refine s_if ?_
      kc_close
      refine ifFalse (by decide +kernel) ?_
      kc_close
      refine s_if ?_
      kc_close
      refine ifFalse (by decide +kernel) ?_
      kc_close
      refine s_if ?_
      kc_close
      refine ifFalse (by decide +kernel) ?_
      kc_close
      refine s_if ?_
      kc_close
      refine ifFalse (by decide +kernel) ?_
      kc_close
      refine s_if ?_
      kc_close
      refine ifTrue (by decide +kernel) ?_
      kc_close
      have hs := hk2 rfl
      refine ⟨na, s, true, rfl, xs.map V.str, s.toNat, es, hna, strs_pl xs, strs_nd nd, by rw [List.length_map]; exact n6, .inl ⟨rfl, by omega⟩, fun H1 l s1 n1 hl => ?_⟩
      rw [tup_map str_inj] at hl
      exact qok _ rfl H1 l s1 n1 (tls_outs hl)
  | seats s rows =>
    have him0 := him
    obtain ⟨l6, s0, s1, hr, hpos, h3000⟩ := he
    obtain ⟨a, _, rfl, ha, _, _, rfl, rfl, _, _, rfl, rfl, vr, _, rfl, hvr, rfl⟩ := him
    obtain ⟨ra, vs, rfl, hra, his⟩ := hvr
    have lvs := Ims.length his
    rw [List.length_map] at lvs
    have hrow := rows_im his
    kc_close
    refine s_if ?_
    kc_close
    refine ifFalse (by decide +kernel) ?_
    kc_close
    refine s_if ?_
    kc_close
    refine ifFalse (by decide +kernel) ?_
    kc_close
    refine s_if ?_
    kc_close
    refine ifFalse (by decide +kernel) ?_
    kc_close
    refine s_if ?_
    kc_close
    refine ifFalse (by decide +kernel) ?_
    kc_close
    refine s_if ?_
    kc_close
    refine ifFalse (by decide +kernel) ?_
    kc_close
    refine s_if ?_
    kc_close
    refine ifTrue (by decide +kernel) ?_
    kc_close
    refine s_itupv hra ?_
    refine l_mapT (fun i => V.int ((rows.map (·.2)).getD i 0)) hra (by omega) ?_ ?_
    · intro D N' i y H' e s' k'
      obtain ⟨r, b, er, rfl, hb⟩ := hrow i y e
      rw [List.getD_eq_getElem?_getD, List.getElem?_map, er] at k'
      have hb' := sqt_same s' hb
      kc_close
      exact k' _ (Same.refl _)
    intro B H2 nB s2 eB
    rw [lvs, row_ints (K := K)] at eB
    kc_close
    refine s_sum (SqL.of eB) ?_
    kc_close
    refine s_rng1v (by omega) (by omega) ?_
    generalize htot : (rows.map (·.2)).sum = tot at hpos h3000
    refine l_range (fun D i H' => H2 D = none ∧ Same H2 H' ∧ ∃ us : List V, H' D = some (.lst us) ∧ Ims K H' ((List.range i).map fun (j : Nat) => seatD s rows (j : Int)) us) (fun D H' n s e => ⟨n, s, [], e, rfl⟩) ?_ ?_
    · rintro D i H3 hi ⟨nD, s3, us, eD, iu⟩
      have lus := Ims.length iu
      rw [List.length_map, List.length_range] at lus
      kc_close
      refine ⟨.ref a, (i : Int), by rw [Int.zero_add], s, rows, Im.tk (TK.same (s2.trans s3)) _ _ him0, l6, s0, s1, fun r m => ⟨(hr r m).1, (hr r m).2.1⟩, by rw [htot]; exact hpos, by omega, by omega, fun H4 x s4 hx => ?_⟩
      refine s_lcEnd (s4 _ _ eD) (by omega) fun H5 b5 e5 => ⟨nD, But.same b5 (s3.trans s4) nD, _, e5, ?_⟩
      have tk := TK.but (K := K) b5 (s4 _ _ eD)
      rw [List.range_succ, List.map_append]
      exact ((Ims.tk tk _ _ (ims_sm s4 iu))).app (Ims.one (Im.tk tk _ _ hx))
    · rintro D H3 ⟨nD, s3, us, eD, iu⟩
      refine qok _ rfl H3 D (s2.trans s3) (s2.free nD) ⟨us, eD, ?_⟩
      rw [show (rows.map fun (r : Str × Int) => r.2).sum = tot from htot]
      exact iu
  | prizes s rows =>
    have he0 := he
    obtain ⟨l5, s0, s1, sn, hr⟩ := he
    obtain ⟨a, _, rfl, ha, _, _, rfl, rfl, _, _, rfl, rfl, vr, _, rfl, hvr, rfl⟩ := him
    obtain ⟨ra, vs, rfl, hra, his⟩ := hvr
    have lvs := Ims.length his
    rw [List.length_map] at lvs
    have hrow := rows_im his
    kc_close
    refine s_if ?_
    kc_close
    refine ifFalse (by decide +kernel) ?_
    kc_close
    refine s_if ?_
    kc_close
    refine ifFalse (by decide +kernel) ?_
    kc_close
    refine s_if ?_
    kc_close
    refine ifFalse (by decide +kernel) ?_
    kc_close
    refine s_if ?_
    kc_close
    refine ifFalse (by decide +kernel) ?_
    kc_close
    refine s_if ?_
    kc_close
    refine ifFalse (by decide +kernel) ?_
    kc_close
    refine s_if ?_
    kc_close
    refine ifFalse (by decide +kernel) ?_
    kc_close
    refine s_if ?_
    kc_close
    refine ifTrue (by decide +kernel) ?_
    kc_close
    refine ifI (fun h0 => ?_) (fun h0 => ?_)
    · subst h0
      kc_close
      intro t H1 n1 s1' e1
      kc_close
      intro l H2 n2 s2 e2
      exact qok [.tuple []] rfl H2 l (s1'.trans s2) (s1'.free n2) ⟨_, e2, Ims.one ⟨t, [], rfl, SqT.of (s2 _ _ e1), rfl⟩⟩
    kc_close
    refine s_if ?_
    kc_close
    refine ifFalse (by decide +kernel) ?_
    refine s_next ?_
    refine s_seq ?_
    refine s_cut (fun σ' H' => ∃ R, σ' = stA (some (.ref a)) (some (.str sPrizesL)) none none none none none (some (.ref R)) ∧ Same H H' ∧ H R = none ∧ H' R = some (.lst [])) (fun N hN => ?_) ?_
    · kc_close
      intro l H2 n2 s2 e2
      kc_close
      exact hN _ _ ⟨l, rfl, s2, n2, e2⟩
    rintro _ H1 ⟨R, rfl, s1', nR, eR0⟩
    generalize hrws : prizeRows (allF n) s rows = rws
    have lrw0 : rws.length = rows.length := by rw [← hrws]; unfold prizeRows; rw [List.length_map, List.length_range]
    have hgetP : ∀ i, i < rows.length → rws[i]? = some ((nthR rows i).2.toNat, Option.map (List.map (consD (nthR rows i).1)) (allF n (.prizes (s - 1) (rows.eraseIdx i)))) := fun i hi => by
      rw [← hrws]
      unfold prizeRows
      rw [List.getElem?_map, List.getElem?_range hi]
      rfl
    refine s_seq ?_
    refine s_cut (fun σ' HK => ∃ (y2 y3 y4 y5 y6 y8 y9 y10 : Option V), σ' = stA (some (.ref a)) (some (.str sPrizesL)) y2 y3 y4 y5 y6 (some (.ref R)) y8 y9 y10 ∧ Same H HK ∧ RowsO K HK R rws) (fun N hN => ?_) ?_
    · refine s_if ?_
      kc_close
      refine ifFalse (by decide +kernel) ?_
      have ha1 := sqt_same s1' ha
      have hra1 := sqt_same s1' hra
      kc_close
      rw [lvs]
      refine s_rng1v (by omega) (by omega) ?_
      rw [Int.toNat_natCast]
      refine w_range (fun i σ' H' => ∃ y9 y10 : Option V, σ' = stA (some (.ref a)) (some (.str sPrizesL)) none none none none none (some (.ref R)) none y9 y10 ∧ But R H1 H' ∧ ∃ bs : List Addr, H' R = some (.lst (bs.map V.ref)) ∧ Paired (fun b r => RowO K R H' b r) bs (rws.take i)) ⟨none, none, rfl, But.refl R H1, [], eR0, .nil⟩ ?_ ?_
      · rintro i _ H2 hi ⟨y9, y10, rfl, b2, bs, eR, pR⟩
        have s02 : TK K H H2 := (TK.same s1').trans (TK.but b2 eR0)
        have ha2 := s02 _ _ ha
        have hra2 := s02 _ _ hra
        obtain ⟨x, ex⟩ : ∃ x, vs[i]? = some x := ⟨_, List.getElem?_eq_getElem (by omega)⟩
        obtain ⟨r, b, er, rfl, hb⟩ := hrow i x ex
        have hb2 := s02 _ _ hb
        have enth : nthR rows i = r := by unfold nthR; rw [List.getD_eq_getElem?_getD, er]; rfl
        have hget := hgetP i hi
        rw [enth] at hget
        have hri := hr r (List.mem_of_getElem? er)
        have lbs := Paired.length pR
        rw [List.length_take] at lbs
        have e0 : (0 + (i : Int)) = (i : Int) := Int.zero_add _
        rw [e0]
        have hrec : ∀ out, allF n (.prizes (s - 1) (rows.eraseIdx i)) = some out → ∀ d ∈ out, ∃ ds, d = .tuple ds ∧ ds.length ≤ 5 := fun out ho d hd => by
          obtain ⟨ds, e1, e2⟩ := prizes_tup (erase_rok he0 h0 hi) ho d hd
          exact ⟨ds, e1, by omega⟩
        refine s_gname ?_
        refine s_seq ?_
        refine s_cut (fun σ' H' => ∃ ov : V, σ' = stA (some (.ref a)) (some (.str sPrizesL)) none none none none none (some (.ref R)) none (some (.int i)) (some ov) ∧ Same H2 H' ∧ ((ov = .non ∧ allF n (.prizes (s - 1) (rows.eraseIdx i)) = none) ∨ ∃ o outs, ov = .ref o ∧ o ≠ R ∧ allF n (.prizes (s - 1) (rows.eraseIdx i)) = some outs ∧ OutsAt K H' o outs)) (fun N' hN' => ?_) ?_
        · kc_close
          refine s_slT (xs := vs) hra2 fun q1 H3 s3 h3 => ?_
          rw [cut_to] at h3
          kc_close
          refine s_slT (xs := vs) (sqt_same s3 hra2) fun q2 H4 s4 h4 => ?_
          rw [show ((i : Int) + 1) = ((i + 1 : Nat) : Int) from by omega, cut_fromZ] at h4
          kc_close
          refine s_catA (sqt_same s4 h3) h4 (by rw [List.length_take, List.length_drop]; omega) fun q3 H5 s5 h5 => ?_
          kc_close
          intro T H6 n6 s6 e6
          kc_close
          have s26 := ((s3.trans s4).trans s5).trans s6
          have imE : Im K H6 (lotD (.prizes (s - 1) (rows.eraseIdx i))) (.ref T) := by
            refine ⟨T, _, rfl, SqT.of e6, _, _, rfl, rfl, _, _, rfl, rfl, _, _, rfl, ⟨q3, _, rfl, sqt_same s6 h5, ?_⟩, rfl⟩
            have h7 := (his.take i).app (his.drop (i + 1))
            rw [← List.eraseIdx_eq_take_drop_succ, ← map_eraseG] at h7
            exact Ims.tk (s02.trans (TK.same s26)) _ _ h7
          refine ⟨.ref T, rfl, _, erase_rok he0 h0 hi, imE, fun hn H7 s7 => ?_, fun outs ho H7 f s7 n7 hf => ?_⟩
          · kc_close
            exact hN' _ _ ⟨.non, rfl, s26.trans s7, .inl ⟨rfl, hn⟩⟩
          · kc_close
            exact hN' _ _ ⟨.ref f, rfl, s26.trans s7, .inr ⟨f, outs, rfl, (fun z => by rw [z, s26 _ _ eR] at n7; cases n7), ho, hf⟩⟩
        rintro _ H3 ⟨ov, rfl, s3, hov⟩
        have ha3 := sqt_same s3 ha2
        have hra3 := sqt_same s3 hra2
        have hb3 := sqt_same s3 hb2
        refine s_seq ?_
        refine s_cut (fun σ' H' => ∃ ov : V, σ' = stA (some (.ref a)) (some (.str sPrizesL)) none none none none none (some (.ref R)) none (some (.int i)) (some ov) ∧ Same H2 H' ∧ ((ov = .non ∧ allF n (.prizes (s - 1) (rows.eraseIdx i)) = none) ∨ ∃ o outs, ov = .ref o ∧ o ≠ R ∧ allF n (.prizes (s - 1) (rows.eraseIdx i)) = some outs ∧ OutsAt K H' o (outs.map (consD r.1)))) (fun N' hN' => ?_) ?_
        · rcases hov with ⟨rfl, hn⟩ | ⟨o, outs, rfl, no, ho, ous, eo, hou⟩
          · refine s_if ?_
            kc_close
            refine ifFalse (by decide) ?_
            exact hN' _ _ ⟨.non, rfl, s3, .inl ⟨rfl, hn⟩⟩
          · have lou := Ims.length hou
            have lsok := all_ok (erase_rok he0 h0 hi) ho
            have hle := lsok.le
            refine s_if ?_
            kc_close
            refine ifTrue rfl ?_
            kc_close
            refine s_ilistv (SqL.of eo) ?_
            refine l_list (xs := ous) (fun D m H' => H3 D = none ∧ Same H3 H' ∧ ∃ us : List V, H' D = some (.lst us) ∧ Ims K H' ((outs.take m).map (consD r.1)) us) (fun D H' n s e => ⟨n, s, [], e, rfl⟩) (fun D m H' _ p => SqL.of (p.2.1 _ _ eo)) ?_ ?_
            · rintro D m y H6 ey ⟨nD, s6, us, eD, iu⟩
              obtain ⟨od, eod, hod⟩ := Ims.get hou ey
              obtain ⟨dl, rfl, ldl⟩ := hrec outs ho od (List.mem_of_getElem? eod)
              obtain ⟨ta, tv, rfl, hta, hti⟩ := Im.tk (TK.same s6) _ _ hod
              have ltv := Ims.length hti
              have lus := Ims.length iu
              have lm := (List.getElem?_eq_some_iff.mp eod).1
              rw [List.length_map, List.length_take] at lus
              have ha6 := sqt_same s6 ha3
              have hra6 := sqt_same s6 hra3
              have hb6 := sqt_same s6 hb3
              kc_close
              refine s_ixT hra6 (at_of (j := i) rfl ex) ?_
              kc_close
              intro p1 H7 n7 s7 e7
              kc_close
              refine s_catA (SqT.of e7) (sqt_same s7 hta) (by rw [ltv]; show 1 + dl.length ≤ sizeLine; omega) fun q1 H8 s8 h8 => ?_
              refine s_lcEnd ((s7.trans s8) _ _ eD) (by omega) fun H9 b9 e9 => ⟨nD, But.same b9 ((s6.trans s7).trans s8) nD, _, e9, ?_⟩
              have tk := TK.but (K := K) b9 ((s7.trans s8) _ _ eD)
              rw [List.take_succ, eod, List.map_append]
              refine (Ims.tk tk _ _ (ims_sm (s7.trans s8) iu)).app (Ims.one ?_)
              exact ⟨q1, _, rfl, tk _ _ h8, _, _, rfl, rfl, Ims.tk tk _ _ (ims_sm (s7.trans s8) hti)⟩
            · rintro D H6 ⟨nD, s6, us, eD, iu⟩
              rw [lou, List.take_length] at iu
              kc_close
              refine hN' _ _ ⟨.ref D, rfl, s3.trans s6, .inr ⟨D, outs, rfl, (fun z => by rw [z, s3 _ _ eR] at nD; cases nD), ho, us, eD, iu⟩⟩
        clear hov
        rintro _ H4 ⟨ov, rfl, s4, hov⟩
        have ha4 := sqt_same s4 ha2
        have hra4 := sqt_same s4 hra2
        have hb4 := sqt_same s4 hb2
        kc_close
        refine s_ixT hra4 (at_of (j := i) rfl ex) ?_
        kc_close
        intro t H5 n5 s5 e5
        kc_close
        refine s_append ((s4.trans s5) _ _ eR) (by rw [List.length_map]; omega) fun H6 b6 e6 => ?_
        have s25 := s4.trans s5
        have tk := TK.but (K := K) b6 (s25 _ _ eR)
        have hstep : rws.take (i + 1) = rws.take i ++ [(r.2.toNat, Option.map (List.map (consD r.1)) (allF n (.prizes (s - 1) (rows.eraseIdx i))))] := by rw [List.take_succ, hget]; rfl
        have ew : r.2 = ((r.2.toNat : Nat) : Int) := (Int.toNat_of_nonneg (by omega)).symm
        refine ⟨_, _, rfl, (b2.trans (But.of s25)).trans b6, bs ++ [t], by rw [e6, List.map_append]; rfl, ?_⟩
        rw [hstep]
        refine paired_app (L2.Paired.mapP pR fun _ _ h => (h.same s25).but b6 (s25 _ _ eR)) (.cons ?_ .nil)
        rcases hov with ⟨rfl, hn⟩ | ⟨o, outs, rfl, no, ho, ous, eo, hou⟩
        · exact ⟨.non, by rw [← ew]; exact tk _ _ (SqT.of e5), .inl ⟨rfl, by rw [hn]; rfl⟩⟩
        · exact ⟨.ref o, by rw [← ew]; exact tk _ _ (SqT.of e5), .inr ⟨o, ous, outs.map (consD r.1), rfl, no, by rw [ho]; rfl, b6 _ _ no (s5 _ _ eo), Ims.tk tk _ _ (ims_sm s5 hou)⟩⟩
      · rintro _ H2 ⟨y9, y10, rfl, b2, bs, eR, pR⟩
        rw [← lrw0, List.take_length] at pR
        exact hN _ _ ⟨none, none, none, none, none, none, y9, y10, rfl, But.same b2 s1' nR, bs, eR, pR⟩
    rintro _ HK ⟨y2, y3, y4, y5, y6, y8, y9, y10, rfl, sk, hRows⟩
    have hall : allF (n + 1) (.prizes s rows) = mixO rws := by
      rw [← hrws]
      show (if s = 0 then some [.tuple []] else mixO (prizeRows (allF n) s rows)) = _
      rw [if_neg h0]
    have lrw : rws.length ≤ 6 := by omega
    have hmem : ∀ r ∈ rws, ∃ i, i < rows.length ∧ r = ((nthR rows i).2.toNat, Option.map (List.map (consD (nthR rows i).1)) (allF n (.prizes (s - 1) (rows.eraseIdx i)))) := fun r m => by
      obtain ⟨i, hi⟩ := List.getElem?_of_mem m
      have hlt := (List.getElem?_eq_some_iff.mp hi).1
      refine ⟨i, by omega, ?_⟩
      rw [hgetP i (by omega)] at hi
      injection hi with hi
      exact hi.symm
    have hw : ∀ r ∈ rws, r.1 ≤ 1000 := fun r m => by
      obtain ⟨i, hi, rfl⟩ := hmem r m
      have := hr _ (nth_mem hi)
      show (nthR rows i).2.toNat ≤ 1000
      omega
    have hso : ∀ r ∈ rws, ∀ o, r.2 = some o → LsOk o := fun r m o ho => by
      obtain ⟨i, hi, rfl⟩ := hmem r m
      have ho : Option.map (List.map (consD (nthR rows i).1)) (allF n (.prizes (s - 1) (rows.eraseIdx i))) = some o := ho
      cases hx : allF n (.prizes (s - 1) (rows.eraseIdx i)) with
      | none => rw [hx] at ho; cases ho
      | some q =>
        rw [hx] at ho
        have : o = q.map (consD (nthR rows i).1) := by injection ho with ho; exact ho.symm
        subst this
        exact (all_ok (erase_rok he0 h0 hi) hx).cons (hr _ (nth_mem hi)).2.2
    have hsum : 0 < (rws.map (·.1)).sum := by
      rw [← hrws]
      exact prize_pos hr (by omega)
    obtain ⟨bs, eR, pR⟩ := hRows
    have lbs := Paired.length pR
    refine s_seq ?_
    refine s_cut (fun σ' H' => σ' = stA (some (.ref a)) (some (.str sPrizesL)) y2 y3 y4 y5 y6 (some (.ref R)) y8 y9 y10 ∧ Same HK H' ∧ ∃ rs, optAll rws = some rs) (fun N hN => ?_) ?_
    · refine s_if ?_
      kc_close
      refine s_ilistv (SqL.of eR) ?_
      refine l_mapL (fun i => V.bl (((rws.map fun r => r.2.isNone)).getD i false)) (SqL.of eR) (by rw [List.length_map]; omega) ?_ ?_
      · intro D N' i y H' ey s' k'
        rw [List.getElem?_map] at ey
        cases hj : bs[i]? with
        | none => rw [hj] at ey; cases ey
        | some b =>
          rw [hj] at ey
          have : y = V.ref b := by injection ey with ey; exact ey.symm
          subst this
          obtain ⟨r, er, ov, hb, hov⟩ := paired_at pR hj
          have hb' := sqt_same s' hb
          rw [List.getD_eq_getElem?_getD, List.getElem?_map, er] at k'
          kc_close
          rcases hov with ⟨rfl, e2⟩ | ⟨o, us, ds, rfl, _, e2, _, _⟩
          · rw [show ((some r).map fun (r : Nat × Option (List PyData)) => r.2.isNone).getD false = true by show r.2.isNone = true; rw [e2]; rfl] at k'
            exact k' _ (Same.refl _)
          · rw [show ((some r).map fun (r : Nat × Option (List PyData)) => r.2.isNone).getD false = false by show r.2.isNone = false; rw [e2]; rfl] at k'
            exact k' _ (Same.refl _)
      intro B HB nB sB eB
      have eB2 : HB B = some (.lst ((rws.map fun r => r.2.isNone).map V.bl)) := by
        rw [eB, List.length_map, lbs]
        congr 2
        refine List.ext_getElem? fun i => ?_
        rw [List.getElem?_map, List.getElem?_map, List.getElem?_map]
        by_cases hi : i < rws.length
        · rw [List.getElem?_range hi, List.getElem?_eq_getElem hi]
          show some (V.bl (((rws.map fun r => r.2.isNone)).getD i false)) = _
          rw [List.getD_eq_getElem?_getD, List.getElem?_map, List.getElem?_eq_getElem hi]
          rfl
        · rw [List.getElem?_eq_none (by simpa using Nat.le_of_not_lt hi), List.getElem?_eq_none (Nat.le_of_not_lt hi)]
          rfl
      kc_close
      refine s_any (SqL.of eB2) ?_
      kc_close
      cases hany : (rws.map fun r => r.2.isNone).any id with
      | true =>
        refine iteT ?_
        kc_close
        refine qno ?_ HB (sk.trans sB)
        rw [hall]
        unfold mixO
        rw [optAll_none.mpr hany]
      | false =>
        refine iteF ?_
        refine hN _ _ ⟨rfl, sB, ?_⟩
        cases h : optAll rws with
        | none => rw [optAll_none.mp h] at hany; cases hany
        | some rs => exact ⟨rs, rfl⟩
    rintro _ HE ⟨rfl, sE, rs, hrs⟩
    have er := optAll_some hrs
    have hRs := L2.Paired.mapP (rowsO_at pR hrs) fun _ _ h => RowAt.same sE h
    have hmix : mixO rws = if mixC rs * (rs.map (·.1)).sum ≤ 3000 then some (mixL (mixC rs) rs) else none := by
      unfold mixO
      rw [hrs]
    have hsum' : 0 < (rs.map (·.1)).sum := by
      rw [er, List.map_map] at hsum
      exact hsum
    kc_close
    refine ⟨R, rfl, rs, ⟨bs, sE _ _ eR, hRs⟩, by rw [er, List.length_map] at lrw; exact lrw, fun r m => ?_, fun hbig H' s' => ?_, fun hsm _ H' f s' nf hf => ?_, hsum'⟩
    · have m' : (r.1, some r.2) ∈ rws := by rw [er]; exact List.mem_map_of_mem m
      have lo := hso _ m' r.2 rfl
      exact ⟨hw _ m', lo.pos, lo.le⟩
    · refine qno ?_ H' ((sk.trans sE).trans s')
      rw [hall, hmix, if_neg (by omega)]
    · refine qok _ ?_ H' f ((sk.trans sE).trans s') ((sk.trans sE).free nf) hf
      rw [hall, hmix, if_pos hsm]
  | both ls =>
    obtain ⟨l6, hls⟩ := he
    obtain ⟨a, _, rfl, ha, _, _, rfl, rfl, lv, _, rfl, hlv, rfl⟩ := him
    obtain ⟨la, vs, rfl, hla, his⟩ := hlv
    rw [lotDs_map] at his
    have lvs := Ims.length his
    rw [List.length_map] at lvs
    kc_close
    refine s_if ?_
    kc_close
    refine ifFalse (by decide +kernel) ?_
    kc_close
    refine s_if ?_
    kc_close
    refine ifFalse (by decide +kernel) ?_
    kc_close
    refine s_if ?_
    kc_close
    refine ifFalse (by decide +kernel) ?_
    kc_close
    refine s_if ?_
    kc_close
    refine ifFalse (by decide +kernel) ?_
    kc_close
    refine s_if ?_
    kc_close
    refine ifFalse (by decide +kernel) ?_
    kc_close
    refine s_if ?_
    kc_close
    refine ifFalse (by decide +kernel) ?_
    kc_close
    refine s_if ?_
    kc_close
    refine ifFalse (by decide +kernel) ?_
    refine iteF ?_
    kc_close
    refine s_if ?_
    kc_close
    refine ifTrue (by decide +kernel) ?_
    refine s_seq ?_
    refine s_cut (fun σ' H' => ∃ fo, σ' = stA (some (.ref a)) (some (.str sBothL)) (some (.ref fo)) ∧ Same H H' ∧ H fo = none ∧ OutsAt K H' fo [.tuple []]) (fun N hN => ?_) ?_
    · kc_close
      intro t H1 n1 s1 e1
      kc_close
      intro l H2 n2 s2 e2
      kc_close
      exact hN _ _ ⟨l, rfl, s1.trans s2, s1.free n2, _, e2, Ims.one ⟨t, [], rfl, SqT.of (s2 _ _ e1), rfl⟩⟩
    rintro _ H1 ⟨fo, rfl, s1, nfo, hfo⟩
    have hla1 := sqt_same s1 hla
    kc_close
    refine s_itupv hla1 ?_
    refine w_tup (xs := vs) (fun i σ' H' => ∃ (fo : Addr) (found : List (List PyData)) (y3 y4 y5 y6 : Option V), σ' = stA (some (.ref a)) (some (.str sBothL)) (some (.ref fo)) y3 y4 y5 y6 ∧ Same H H' ∧ H fo = none ∧ OutsAt K H' fo (found.map .tuple) ∧ 0 < found.length ∧ found.length ≤ 3000 ∧ (∀ q ∈ found, q.length ≤ i) ∧ bothF [[]] (ls.map (allF n)) = bothF found ((ls.drop i).map (allF n))) ⟨fo, [[]], none, none, none, none, rfl, s1, nfo, hfo, by show 0 < 1; decide, by show 1 ≤ 3000; decide, fun q hq => by rw [List.mem_singleton.mp hq]; exact Nat.zero_le _, rfl⟩ (fun i σ' H' _ z => by
      obtain ⟨_, _, _, _, _, _, _, s, _⟩ := z
      exact sqt_same s hla) ?_ ?_
    · rintro i x _ H2 ex ⟨fo, found, y3, y4, y5, y6, rfl, s2, nfo, ⟨fus, efo, hfu⟩, f0, f3000, fl, hb⟩
      obtain ⟨d, ed, hd⟩ := Ims.get his ex
      rw [List.getElem?_map] at ed
      cases hj : ls[i]? with
      | none => rw [hj] at ed; cases ed
      | some l =>
        rw [hj] at ed
        have : d = lotD l := by injection ed with ed; exact ed.symm
        subst this
        have hdrop : ls.drop i = l :: ls.drop (i + 1) := by
          have hi := (List.getElem?_eq_some_iff.mp hj)
          rw [List.drop_eq_getElem_cons hi.1, hi.2]
        rw [hdrop, List.map_cons] at hb
        have lfu := Ims.length hfu
        rw [List.length_map] at lfu
        have rok := hls l (List.mem_of_getElem? hj)
        refine s_gname ?_
        refine s_seq ?_
        refine s_cut (fun σ' H' => ∃ ov : V, σ' = stA (some (.ref a)) (some (.str sBothL)) (some (.ref fo)) (some x) (some ov) y5 y6 ∧ Same H2 H' ∧ ((ov = .non ∧ allF n l = none) ∨ ∃ o outs, ov = .ref o ∧ allF n l = some outs ∧ OutsAt K H' o outs)) (fun N hN => ?_) ?_
        · kc_close
          refine ⟨x, rfl, l, rok, Im.tk (TK.same s2) _ _ hd, fun hn H3 s3 => ?_, fun outs ho H3 f s3 n3 hf => ?_⟩
          · kc_close
            exact hN _ _ ⟨.non, rfl, s3, .inl ⟨rfl, hn⟩⟩
          · kc_close
            exact hN _ _ ⟨.ref f, rfl, s3, .inr ⟨f, outs, rfl, ho, hf⟩⟩
        rintro _ H3 ⟨ov, rfl, s3, hov⟩
        have efo3 := s3 _ _ efo
        rcases hov with ⟨rfl, hn⟩ | ⟨o, outs, rfl, ho, ous, eo, hou⟩
        · refine s_seq ?_
          refine s_if ?_
          kc_close
          refine ifTrue (by decide) ?_
          refine iteT ?_
          kc_close
          refine qno ?_ H3 (s2.trans s3)
          show (bothF [[]] (ls.map (allF n))).map (List.map PyData.tuple) = none
          rw [hb, hn]
          rfl
        have lsok := all_ok rok ho
        have lou := Ims.length hou
        rw [ho] at hb
        have hb' : bothF [[]] (ls.map (allF n)) = if 3000 < outs.length * found.length then none else bothF (found.flatMap fun one => outs.map fun o => one ++ [o]) ((ls.drop (i + 1)).map (allF n)) := hb
        refine s_seq ?_
        refine s_cut (fun σ' H' => σ' = stA (some (.ref a)) (some (.str sBothL)) (some (.ref fo)) (some x) (some (.ref o)) y5 y6 ∧ H' = H3 ∧ outs.length * found.length ≤ 3000) (fun N hN => ?_) ?_
        · refine s_if ?_
          kc_close
          refine ifFalse rfl ?_
          have hle := lsok.le
          kc_close
          rw [lou, lfu]
          refine ifP (fun h => ?_) (fun h => ?_)
          · kc_close
            refine qno ?_ H3 (s2.trans s3)
            show (bothF [[]] (ls.map (allF n))).map (List.map PyData.tuple) = none
            rw [hb', if_pos (by
              have : ((outs.length * found.length : Nat) : Int) > 3000 := by rw [Int.natCast_mul]; exact h
              omega)]
            rfl
          · refine hN _ _ ⟨rfl, rfl, ?_⟩
            have : ¬ ((outs.length * found.length : Nat) : Int) > 3000 := by rw [Int.natCast_mul]; exact h
            omega
        rintro _ H3 ⟨rfl, rfl, hsm⟩
        rw [if_neg (by omega)] at hb'
        have hfl : ∀ m, ((found.take m).flatMap fun one => outs.map fun o => one ++ [o]).length ≤ 3000 := fun m => by
          rw [ML.flat_len (b := outs.length) fun _ _ => List.length_map .., List.length_take]
          have : min m found.length * outs.length ≤ found.length * outs.length := Nat.mul_le_mul_right _ (Nat.min_le_right ..)
          rw [Nat.mul_comm found.length] at this
          omega
        refine s_seq ?_
        refine s_cut (fun σ' H' => ∃ lo, σ' = stA (some (.ref a)) (some (.str sBothL)) (some (.ref fo)) (some x) (some (.ref o)) (some (.ref lo)) y6 ∧ Same H3 H' ∧ H3 lo = none ∧ OutsAt K H' lo []) (fun N hN => ?_) ?_
        · kc_close
          intro l' H4 n4 s4 e4
          kc_close
          exact hN _ _ ⟨l', rfl, s4, n4, [], e4, rfl⟩
        rintro _ H4 ⟨lo, rfl, s4, nlo, hlo⟩
        refine s_seq ?_
        refine s_cut (fun σ' H' => ∃ (lo : Addr) (y6 : Option V), σ' = stA (some (.ref a)) (some (.str sBothL)) (some (.ref fo)) (some x) (some (.ref o)) (some (.ref lo)) y6 ∧ Same H3 H' ∧ H3 lo = none ∧ OutsAt K H' lo ((found.flatMap fun one => outs.map fun o => one ++ [o]).map .tuple)) (fun N hN => ?_) ?_
        · kc_close
          refine s_ilistv (SqL.of (s4 _ _ efo3)) ?_
          refine w_list (xs := fus) (fun j σ' H' => ∃ (lo : Addr) (y6 : Option V), σ' = stA (some (.ref a)) (some (.str sBothL)) (some (.ref fo)) (some x) (some (.ref o)) (some (.ref lo)) y6 ∧ Same H3 H' ∧ H3 lo = none ∧ OutsAt K H' lo (((found.take j).flatMap fun one => outs.map fun o => one ++ [o]).map .tuple)) ⟨lo, y6, rfl, s4, nlo, hlo⟩ (fun j σ' H' _ z => by
            obtain ⟨_, _, _, s, _⟩ := z
            exact SqL.of (s _ _ efo3)) ?_ ?_
          · rintro j x' _ H5 ex' ⟨lo, y6, rfl, s5, nlo, lus, elo, hlu⟩
            obtain ⟨dq, eq', hq⟩ := Ims.get hfu ex'
            rw [List.getElem?_map] at eq'
            cases hjj : found[j]? with
            | none => rw [hjj] at eq'; cases eq'
            | some one =>
              rw [hjj] at eq'
              have : dq = .tuple one := by injection eq' with eq'; exact eq'.symm
              subst this
              obtain ⟨ta, tv, rfl, hta, hti⟩ := Im.tk (TK.same (s3.trans s5)) _ _ hq
              have eo5 := s5 _ _ eo
              have hou5 := ims_sm s5 hou
              have llu := Ims.length hlu
              rw [List.length_map] at llu
              have hj1 := hfl j
              have ltv := Ims.length hti
              refine s_gname ?_
              kc_close
              refine s_ilistv (SqL.of eo5) ?_
              refine l_list (xs := ous) (fun D m H' => H5 D = none ∧ Same H5 H' ∧ ∃ us : List V, H' D = some (.lst us) ∧ Ims K H' ((outs.take m).map fun o => .tuple (one ++ [o])) us) (fun D H' n s e => ⟨n, s, [], e, rfl⟩) (fun D m H' _ p => SqL.of (p.2.1 _ _ eo5)) ?_ ?_
              · rintro D m y H6 ey ⟨nD, s6, us, eD, iu⟩
                obtain ⟨od, eod, hod⟩ := Ims.get hou5 ey
                have lus := Ims.length iu
                have lm := (List.getElem?_eq_some_iff.mp eod).1
                rw [List.length_map, List.length_take] at lus
                have hle := lsok.le
                kc_close
                intro p1 H7 n7 s7 e7
                kc_close
                refine s_catA (sqt_same (s6.trans s7) hta) (SqT.of e7) (by have := fl one (List.mem_of_getElem? hjj); have := (List.getElem?_eq_some_iff.mp hj).1; rw [ltv]; show one.length + 1 ≤ sizeLine; omega) fun q1 H8 s8 h8 => ?_
                refine s_lcEnd ((s7.trans s8) _ _ eD) (by omega) fun H9 b9 e9 => ⟨nD, But.same b9 ((s6.trans s7).trans s8) nD, _, e9, ?_⟩
                have tk := TK.but (K := K) b9 ((s7.trans s8) _ _ eD)
                rw [List.take_succ, eod, List.map_append]
                refine (Ims.tk tk _ _ (ims_sm (s7.trans s8) iu)).app (Ims.one ?_)
                exact ⟨q1, _, rfl, tk _ _ h8, Ims.tk tk _ _ ((ims_sm ((s6.trans s7).trans s8) hti).app (Ims.one (Im.tk (TK.same ((s6.trans s7).trans s8)) _ _ hod)))⟩
              · rintro D H6 ⟨nD, s6, us, eD, iu⟩
                rw [lou, List.take_length] at iu
                have lus := Ims.length iu
                rw [List.length_map] at lus
                have hle := lsok.le
                kc_close
                refine s_catL (s6 _ _ elo) eD (by omega) fun l2 H7 n7 s7 e7 => ?_
                kc_close
                refine ⟨l2, _, rfl, (s5.trans s6).trans s7, (s5.trans s6).free n7, _, e7, ?_⟩
                rw [take_flatG hjj, List.map_append, List.map_map]
                exact (ims_sm (s6.trans s7) hlu).app (ims_sm s7 iu)
          · rintro _ H5 ⟨lo, y6, rfl, s5, nlo, hlo⟩
            rw [lfu, List.take_length] at hlo
            exact hN _ _ ⟨lo, y6, rfl, s5, nlo, hlo⟩
        rintro _ H5 ⟨lo, y6, rfl, s5, nlo, hlo⟩
        kc_close
        refine ⟨lo, _, _, _, _, _, rfl, (s2.trans s3).trans s5, (s2.trans s3).free nlo, hlo, ?_, ?_, fun q hq => ?_, hb'⟩
        · rw [ML.flat_len (b := outs.length) fun _ _ => List.length_map ..]
          exact Nat.mul_pos f0 lsok.pos
        · rw [ML.flat_len (b := outs.length) fun _ _ => List.length_map .., Nat.mul_comm]
          exact hsm
        · obtain ⟨one, h1, hq⟩ := List.mem_flatMap.mp hq
          obtain ⟨o', _, rfl⟩ := List.mem_map.mp hq
          rw [List.length_append]
          have := fl one h1
          show one.length + 1 ≤ i + 1
          omega
    · rintro _ H2 ⟨fo, found, y3, y4, y5, y6, rfl, s2, nfo, hfo, f0, f3000, fl, hb⟩
      rw [lvs, List.drop_length] at hb
      kc_close
      refine qok (found.map .tuple) ?_ H2 fo s2 nfo hfo
      show (bothF [[]] (ls.map (allF n))).map (List.map PyData.tuple) = _
      rw [hb]
      rfl
  | among ws ls =>
    have he0 := he
    obtain ⟨hwl, l6, hws, hwsum, hls⟩ := he
    obtain ⟨a, _, rfl, ha, _, _, rfl, rfl, lv, _, rfl, hlv, rfl⟩ := him
    obtain ⟨la, vs, rfl, hla, his⟩ := hlv
    have lvs := Ims.length his
    rw [pairDs_len hwl] at lvs
    kc_close
    refine s_if ?_
    kc_close
    refine ifFalse (by decide +kernel) ?_
    kc_close
    refine s_if ?_
    kc_close
    refine ifFalse (by decide +kernel) ?_
    kc_close
    refine s_if ?_
    kc_close
    refine ifFalse (by decide +kernel) ?_
    kc_close
    refine s_if ?_
    kc_close
    refine ifFalse (by decide +kernel) ?_
    kc_close
    refine s_if ?_
    kc_close
    refine ifFalse (by decide +kernel) ?_
    kc_close
    refine s_if ?_
    kc_close
    refine ifFalse (by decide +kernel) ?_
    kc_close
    refine s_if ?_
    kc_close
    refine ifFalse (by decide +kernel) ?_
    refine iteF ?_
    kc_close
    refine s_if ?_
    kc_close
    refine ifFalse (by decide +kernel) ?_
    refine s_next ?_
    refine s_seq ?_
    refine s_cut (fun σ' H' => ∃ R, σ' = stA (some (.ref a)) (some (.str sAmongL)) none none none none none (some (.ref R)) ∧ Same H H' ∧ H R = none ∧ H' R = some (.lst [])) (fun N hN => ?_) ?_
    · kc_close
      intro l H2 n2 s2 e2
      kc_close
      exact hN _ _ ⟨l, rfl, s2, n2, e2⟩
    rintro _ H1 ⟨R, rfl, s1, nR, eR0⟩
    have hla1 := sqt_same s1 hla
    generalize hrws : amongRows (allF n) ws ls = rws
    have lrw0 : rws.length = ls.length := by rw [← hrws]; exact amongR_len hwl
    refine s_seq ?_
    refine s_cut (fun σ' HK => ∃ (y2 y3 y4 y5 y6 y8 y9 y10 : Option V), σ' = stA (some (.ref a)) (some (.str sAmongL)) y2 y3 y4 y5 y6 (some (.ref R)) y8 y9 y10 ∧ Same H HK ∧ RowsO K HK R rws) (fun N hN => ?_) ?_
    · refine s_if ?_
      kc_close
      refine ifTrue (by decide +kernel) ?_
      kc_close
      refine s_itupv hla1 ?_
      refine w_tup (xs := vs) (fun i σ' H' => ∃ y3 y8 : Option V, σ' = stA (some (.ref a)) (some (.str sAmongL)) none y3 none none none (some (.ref R)) y8 ∧ But R H1 H' ∧ ∃ bs : List Addr, H' R = some (.lst (bs.map V.ref)) ∧ Paired (fun b r => RowO K R H' b r) bs (rws.take i)) ⟨none, none, rfl, But.refl R H1, [], eR0, .nil⟩ (fun i σ' H' _ z => by
        obtain ⟨_, _, _, b, _⟩ := z
        exact sqt_but b eR0 hla1) ?_ ?_
      · rintro i x _ H2 ex ⟨y3, y8, rfl, b2, bs, eR, pR⟩
        obtain ⟨w', l, bb, lv, hwi, hli, rfl, hbb, hlv⟩ := pairs_imL his ex
        have s02 : TK K H H2 := (TK.same s1).trans (TK.but b2 eR0)
        have hbb2 := s02 _ _ hbb
        have hlv2 := Im.tk s02 _ _ hlv
        have hget := among_get (f := allF n) hwi hli
        rw [hrws] at hget
        have hstep : rws.take (i + 1) = rws.take i ++ [(w'.toNat, allF n l)] := by rw [List.take_succ, hget]; rfl
        have hw0 := hws w' (List.mem_of_getElem? hwi)
        have ew : (w' : Int) = ((w'.toNat : Nat) : Int) := (Int.toNat_of_nonneg hw0.1).symm
        have lbs := Paired.length pR
        rw [List.length_take] at lbs
        kc_close
        refine ⟨lv, rfl, l, hls l (List.mem_of_getElem? hli), hlv2, fun hn H3 s3 => ?_, fun outs ho H3 f s3 n3 hf => ?_⟩
        · kc_close
          intro t H4 n4 s4 e4
          kc_close
          refine s_append ((s3.trans s4) _ _ eR) (by rw [List.length_map]; omega) fun H5 b5 e5 => ?_
          refine ⟨_, _, rfl, (b2.trans (But.of (s3.trans s4))).trans b5, bs ++ [t], by rw [e5, List.map_append]; rfl, ?_⟩
          rw [hstep]
          refine paired_app (L2.Paired.mapP pR fun _ _ h => (h.same (s3.trans s4)).but b5 ((s3.trans s4) _ _ eR)) (.cons ?_ .nil)
          exact ⟨.non, by rw [← ew]; exact (TK.but (K := K) b5 ((s3.trans s4) _ _ eR)) _ _ (SqT.of e4), .inl ⟨rfl, hn⟩⟩
        · have nfR : f ≠ R := fun z => by rw [z, eR] at n3; cases n3
          obtain ⟨ous, eo, hou⟩ := hf
          kc_close
          intro t H4 n4 s4 e4
          kc_close
          refine s_append ((s3.trans s4) _ _ eR) (by rw [List.length_map]; omega) fun H5 b5 e5 => ?_
          refine ⟨_, _, rfl, (b2.trans (But.of (s3.trans s4))).trans b5, bs ++ [t], by rw [e5, List.map_append]; rfl, ?_⟩
          rw [hstep]
          have tk := TK.but (K := K) b5 ((s3.trans s4) _ _ eR)
          refine paired_app (L2.Paired.mapP pR fun _ _ h => (h.same (s3.trans s4)).but b5 ((s3.trans s4) _ _ eR)) (.cons ?_ .nil)
          exact ⟨.ref f, by rw [← ew]; exact tk _ _ (SqT.of e4), .inr ⟨f, ous, outs, rfl, nfR, ho, b5 _ _ nfR (s4 _ _ eo), Ims.tk tk _ _ (ims_sm s4 hou)⟩⟩
      · rintro _ H2 ⟨y3, y8, rfl, b2, bs, eR, pR⟩
        rw [lvs, ← lrw0, List.take_length] at pR
        exact hN _ _ ⟨none, y3, none, none, none, y8, none, none, rfl, But.same b2 s1 nR, bs, eR, pR⟩
    rintro _ HK ⟨y2, y3, y4, y5, y6, y8, y9, y10, rfl, sk, hRows⟩
    have hall : allF (n + 1) (.among ws ls) = mixO rws := by rw [← hrws]; rfl
    have lrw : rws.length ≤ 6 := by omega
    have hw : ∀ r ∈ rws, r.1 ≤ 1000 := fun r m => by
      rw [← hrws] at m
      obtain ⟨w', l, h1, _, rfl⟩ := among_mem m
      have := hws w' h1
      show w'.toNat ≤ 1000
      omega
    have hso : ∀ r ∈ rws, ∀ o, r.2 = some o → LsOk o := fun r m o ho => by
      rw [← hrws] at m
      obtain ⟨w', l, _, h2, rfl⟩ := among_mem m
      exact all_ok (hls l h2) ho
    have hsum : 0 < (rws.map (·.1)).sum := by
      rw [← hrws, among_fst hwl]
      have := toNat_sum (ws := ws) fun w m => (hws w m).1
      omega
    obtain ⟨bs, eR, pR⟩ := hRows
    have lbs := Paired.length pR
    refine s_seq ?_
    refine s_cut (fun σ' H' => σ' = stA (some (.ref a)) (some (.str sAmongL)) y2 y3 y4 y5 y6 (some (.ref R)) y8 y9 y10 ∧ Same HK H' ∧ ∃ rs, optAll rws = some rs) (fun N hN => ?_) ?_
    · refine s_if ?_
      kc_close
      refine s_ilistv (SqL.of eR) ?_
      refine l_mapL (fun i => V.bl (((rws.map fun r => r.2.isNone)).getD i false)) (SqL.of eR) (by rw [List.length_map]; omega) ?_ ?_
      · intro D N' i y H' ey s' k'
        rw [List.getElem?_map] at ey
        cases hj : bs[i]? with
        | none => rw [hj] at ey; cases ey
        | some b =>
          rw [hj] at ey
          have : y = V.ref b := by injection ey with ey; exact ey.symm
          subst this
          obtain ⟨r, er, ov, hb, hov⟩ := paired_at pR hj
          have hb' := sqt_same s' hb
          rw [List.getD_eq_getElem?_getD, List.getElem?_map, er] at k'
          kc_close
          rcases hov with ⟨rfl, e2⟩ | ⟨o, us, ds, rfl, _, e2, _, _⟩
          · rw [show ((some r).map fun (r : Nat × Option (List PyData)) => r.2.isNone).getD false = true by show r.2.isNone = true; rw [e2]; rfl] at k'
            exact k' _ (Same.refl _)
          · rw [show ((some r).map fun (r : Nat × Option (List PyData)) => r.2.isNone).getD false = false by show r.2.isNone = false; rw [e2]; rfl] at k'
            exact k' _ (Same.refl _)
      intro B HB nB sB eB
      have eB2 : HB B = some (.lst ((rws.map fun r => r.2.isNone).map V.bl)) := by
        rw [eB, List.length_map, lbs]
        congr 2
        refine List.ext_getElem? fun i => ?_
        rw [List.getElem?_map, List.getElem?_map, List.getElem?_map]
        by_cases hi : i < rws.length
        · rw [List.getElem?_range hi, List.getElem?_eq_getElem hi]
          show some (V.bl (((rws.map fun r => r.2.isNone)).getD i false)) = _
          rw [List.getD_eq_getElem?_getD, List.getElem?_map, List.getElem?_eq_getElem hi]
          rfl
        · rw [List.getElem?_eq_none (by simpa using Nat.le_of_not_lt hi), List.getElem?_eq_none (Nat.le_of_not_lt hi)]
          rfl
      kc_close
      refine s_any (SqL.of eB2) ?_
      kc_close
      cases hany : (rws.map fun r => r.2.isNone).any id with
      | true =>
        refine iteT ?_
        kc_close
        refine qno ?_ HB (sk.trans sB)
        rw [hall]
        unfold mixO
        rw [optAll_none.mpr hany]
      | false =>
        refine iteF ?_
        refine hN _ _ ⟨rfl, sB, ?_⟩
        cases h : optAll rws with
        | none => rw [optAll_none.mp h] at hany; cases hany
        | some rs => exact ⟨rs, rfl⟩
    rintro _ HE ⟨rfl, sE, rs, hrs⟩
    have er := optAll_some hrs
    have hRs := L2.Paired.mapP (rowsO_at pR hrs) fun _ _ h => RowAt.same sE h
    have hmix : mixO rws = if mixC rs * (rs.map (·.1)).sum ≤ 3000 then some (mixL (mixC rs) rs) else none := by
      unfold mixO
      rw [hrs]
    have hsum' : 0 < (rs.map (·.1)).sum := by
      rw [er, List.map_map] at hsum
      exact hsum
    kc_close
    refine ⟨R, rfl, rs, ⟨bs, sE _ _ eR, hRs⟩, by rw [er, List.length_map] at lrw; exact lrw, fun r m => ?_, fun hbig H' s' => ?_, fun hsm _ H' f s' nf hf => ?_, hsum'⟩
    · have m' : (r.1, some r.2) ∈ rws := by rw [er]; exact List.mem_map_of_mem m
      have lo := hso _ m' r.2 rfl
      exact ⟨hw _ m', lo.pos, lo.le⟩
    · refine qno ?_ H' ((sk.trans sE).trans s')
      rw [hall, hmix, if_neg (by omega)]
    · refine qok _ ?_ H' f ((sk.trans sE).trans s') ((sk.trans sE).free nf) hf
      rw [hall, hmix, if_pos hsm]
end
end K1
end
section
open PySem PySem.Spec PyProof.Rows L2 Z
local macro_rules | `(tactic| ktr_room) => `(tactic| first
  | assumption
  | (apply SqT.of; assumption)
  | (apply SqL.of; assumption)
  | (apply sqt_same; assumption; ktr_room)
  | (apply sql_same; assumption; ktr_room)
  | (apply sqt_but; assumption; assumption; ktr_room)
  | (apply sql_but; assumption; assumption; ktr_room)
  | (apply Same.of_; assumption; ktr_room)
  | (apply But.of_; assumption; assumption; ktr_room)
  | exact same_refl
  | exact but_refl
  | (apply same_tr; assumption; ktr_room)
  | (apply same_but; assumption; ktr_room; assumption)
  | (apply but_tr; assumption; ktr_room)
  | (apply but_trB; assumption; ktr_room))
local macro_rules | `(tactic| ktr_units) => `(tactic| first | with_reducible assumption | omega | rfl | exact ⟨by omega, by omega⟩ | exact .inl ⟨by omega, by omega⟩ | exact .inr ⟨by omega, by omega⟩ | exact ⟨by decide, by decide, by decide⟩ | exact Nat.le_of_ble_eq_true rfl | decide)
local macro_rules | `(tactic| kc_close) => `(tactic| repeat (with_reducible first
  | refine s_var (by with_unfolding_all rfl) ?_
  | refine s_c ?_
  | refine s_op ?_
  | refine s_rI0 ?_
  | refine s_asg ?_
  | refine s_gname ?_
  | refine s_seq ?_
  | refine s_cons ?_
  | refine s_nil ?_
  | refine s_call ?_
  | refine s_ret ?_
  | o_fieldsN
  | refine s_test ?_
  | refine s_bl ?_
  | refine s_rI (by with_unfolding_all (ktr_units)) ?_
  | refine s_rEq rfl ?_
  | refine s_rNe rfl ?_
  | refine s_cb ?_
  | refine s_int1 ?_
  | refine s_intB ?_
  | refine s_max2 ?_
  | refine s_min2 ?_
  | refine s_tup ?_
  | refine s_lst ?_
  | refine s_newT (by with_unfolding_all first | decide | exact Nat.le_of_ble_eq_true rfl) ?_
  | refine s_newL (by with_unfolding_all first | decide | exact Nat.le_of_ble_eq_true rfl) ?_
  | refine s_ixT (by ktr_room) (by with_unfolding_all rfl) ?_
  | refine s_ixL (by ktr_room) (by with_unfolding_all rfl) ?_
  | refine s_lenT (by ktr_room) ?_
  | refine s_lenL (by ktr_room) ?_
  | refine s_un ?_
  | refine s_rU ?_
  | refine s_and ?_
  | refine s_or ?_
  | refine s_not ?_
  | refine s_tB ?_
  | refine s_tru ?_
  | refine s_drop ?_
  | refine s_next ?_
  | refine s_for ?_
  | refine s_rng1 ?_
  | refine s_rng2 ?_
  | refine s_rng3 ?_
  | refine s_ilist ?_
  | refine s_itup ?_
  | refine s_iany ?_
  | refine s_ienum ?_
  | refine s_irev ?_
  | refine s_gcons ?_
  | refine s_gnil ?_
  | refine s_gtup (by ktr_room) (by with_unfolding_all rfl) ?_
  | refine s_gsub ?_
  | refine s_augS ?_
  | refine s_aug (by with_unfolding_all rfl) ?_
  | refine s_ipI ?_
  | refine s_bm ?_
  | refine s_bm0 ?_
  | refine s_tyL (by ktr_room) ?_
  | refine s_tyL0 (by ktr_room) ?_
  | refine s_sl ?_
  | refine s_part ?_
  | refine s_partv ?_
  | refine s_noPart ?_
  | refine s_lc ?_
  | refine s_yes ?_
  | refine s_wipe (by with_unfolding_all rfl) ?_
  | refine iteT ?_
  | refine s_retN ?_
  | refine s_isN ?_
  | refine s_truB ?_
  | refine s_isB2 ?_
  | refine s_notB2 ?_
  | refine s_revT ?_
  | refine s_andV ?_
  | refine s_orV ?_
  | refine s_ifE ?_
  | refine s_notK ?_
  | refine s_notN ?_
  | refine s_truL (by ktr_room) ?_
  | refine s_truT (by ktr_room) ?_))
open K1
local macro_rules | `(tactic| ktr_room) => `(tactic| first
  | (apply DR.same; assumption; ktr_room)
  | (apply sqt_butD; assumption; ktr_room; ktr_room))
open K1
local macro_rules | `(tactic| o_fieldsN) => `(tactic| with_reducible first
  | refine s_tyS ?_)
namespace K1
open TL ML
theorem seats_ht {s tot : Int} : ∀ (b : Int) (rows : List (Str × Int)), hts (seatsL s tot b rows) ≤ 2
  | _, [] => Nat.zero_le _
  | b, r :: rows => by
    have := seats_ht (s := s) (tot := tot) (b + r.2 * s) rows
    show max (1 + max 1 (max 1 0)) (hts (seatsL s tot _ rows)) ≤ 2
    omega
theorem hts_mem {ds : List PyData} {n : Nat} (h : ∀ d ∈ ds, ht d ≤ n) : hts ds ≤ n := by
  induction ds with
  | nil => exact Nat.zero_le _
  | cons a r ih =>
    have h1 := h a (List.mem_cons_self ..)
    have h2 := ih fun x m => h x (List.mem_cons_of_mem _ m)
    show max (ht a) (hts r) ≤ n
    omega
theorem mem_hts {ds : List PyData} {d : PyData} (h : d ∈ ds) : ht d ≤ hts ds := by
  induction ds with
  | nil => cases h
  | cons a r ih =>
    show ht d ≤ max (ht a) (hts r)
    rcases List.mem_cons.mp h with h | h
    · rw [h]; omega
    · have := ih h; omega
theorem names_ht (xs : List Str) : ht (namesD xs) ≤ 2 := by
  have : hts (xs.map PyData.str) ≤ 1 := hts_mem fun d hd => by
    obtain ⟨x, _, rfl⟩ := List.mem_map.mp hd
    exact Nat.le_refl _
  show 1 + hts (xs.map PyData.str) ≤ 2
  omega
theorem cons_ht {x : Str} {d : PyData} : ht (consD x d) ≤ max 2 (ht d) := by
  cases d with
  | tuple ds =>
    show 1 + max 1 (hts ds) ≤ max 2 (1 + hts ds)
    omega
  | _ => exact Nat.le_max_right _ _
theorem mixO_mem {rows : List (Nat × Option (List PyData))} {out : List PyData} (h : mixO rows = some out) {d : PyData} (hd : d ∈ out) : ∃ r ∈ rows, ∃ o, r.2 = some o ∧ d ∈ o := by
  unfold mixO at h
  cases hx : optAll rows with
  | none => rw [hx] at h; cases h
  | some rs =>
    rw [hx] at h
    have er := optAll_some hx
    dsimp only at h
    by_cases hb : mixC rs * (rs.map (·.1)).sum ≤ 3000
    · rw [if_pos hb] at h
      have : out = mixL (mixC rs) rs := by injection h with h; exact h.symm
      subst this
      obtain ⟨o, ho, hd⟩ := List.mem_flatMap.mp hd
      obtain ⟨r, hm, ho⟩ := List.mem_flatMap.mp ho
      rw [(List.mem_replicate.mp ho).2] at hd
      obtain ⟨j, _, hj⟩ := List.mem_filterMap.mp hd
      exact ⟨(r.1, some r.2), by rw [er]; exact List.mem_map_of_mem hm, r.2, rfl, List.mem_of_getElem? hj⟩
    · rw [if_neg hb] at h
      cases h
theorem bothF_mem {m : Nat} : ∀ {ls : List (Option (List PyData))} {found out : List (List PyData)}, bothF found ls = some out → (∀ o ∈ ls, ∀ ds, o = some ds → ∀ d ∈ ds, ht d ≤ m) → (∀ q ∈ found, hts q ≤ m) → ∀ q ∈ out, hts q ≤ m
  | [], found, out, h, _, hf => by
    have : found = out := by injection h
    subst this
    exact hf
  | none :: _, found, out, h, _, _ => by cases h
  | some outs :: r, found, out, h, ho, hf => by
    have h' : (if 3000 < outs.length * found.length then none else bothF (found.flatMap fun one => outs.map fun o => one ++ [o]) r) = some out := h
    by_cases hb : 3000 < outs.length * found.length
    · rw [if_pos hb] at h'; cases h'
    · rw [if_neg hb] at h'
      refine bothF_mem h' (fun o hm => ho o (List.mem_cons_of_mem _ hm)) fun q hq => ?_
      obtain ⟨one, h4, hq⟩ := List.mem_flatMap.mp hq
      obtain ⟨o, h5, rfl⟩ := List.mem_map.mp hq
      rw [hts_app]
      have h1 := hf one h4
      have h2 := ho _ (List.mem_cons_self ..) outs rfl o h5
      show max (hts one) (max (ht o) 0) ≤ m
      omega
theorem all_ht : ∀ {n : Nat} {e : Lot} {out : List PyData}, allF n e = some out → ∀ d ∈ out, ht d ≤ n + 3
  | 0, _, _, h => by cases h
  | n + 1, e, out, ha => fun d hd => by
    cases e with
    | sure x =>
      have : out = [.str x] := by injection ha with ha; exact ha.symm
      subst this
      rw [List.mem_singleton.mp hd]
      show 1 ≤ _
      omega
    | order xs =>
      have : out = (tupL xs false xs.length).map namesD := by injection ha with ha; exact ha.symm
      subst this
      obtain ⟨t, _, rfl⟩ := List.mem_map.mp hd
      have := names_ht t
      omega
    | pick k s xs =>
      have ha' : (if k = 1 then some ((combL xs s.toNat).map namesD) else some ((tupL xs (decide (k = 2)) s.toNat).map namesD)) = some out := ha
      by_cases hk : k = 1
      · rw [if_pos hk] at ha'
        have : out = (combL xs s.toNat).map namesD := by injection ha' with ha'; exact ha'.symm
        subst this
        obtain ⟨t, _, rfl⟩ := List.mem_map.mp hd
        have := names_ht t
        omega
      · rw [if_neg hk] at ha'
        have : out = (tupL xs (decide (k = 2)) s.toNat).map namesD := by injection ha' with ha'; exact ha'.symm
        subst this
        obtain ⟨t, _, rfl⟩ := List.mem_map.mp hd
        have := names_ht t
        omega
    | seats s rows =>
      have e1 : (List.range (Int.toNat (rows.map fun (r : Str × Int) => r.2).sum)).map (fun (i : Nat) => seatD s rows (i : Int)) = out := by injection ha
      subst e1
      obtain ⟨i, _, rfl⟩ := List.mem_map.mp hd
      have := seats_ht (s := s) (tot := (rows.map (·.2)).sum) (i : Int) rows
      show 1 + _ ≤ _
      omega
    | prizes s rows =>
      have ha' : (if s = 0 then some [.tuple []] else mixO (prizeRows (allF n) s rows)) = some out := ha
      by_cases h0 : s = 0
      · rw [if_pos h0] at ha'
        have : out = [.tuple []] := by injection ha' with ha'; exact ha'.symm
        subst this
        rw [List.mem_singleton.mp hd]
        show 1 + 0 ≤ _
        omega
      · rw [if_neg h0] at ha'
        obtain ⟨r, hr, o, ho, hd⟩ := mixO_mem ha' hd
        obtain ⟨k, _, rfl⟩ := List.mem_map.mp hr
        have ho : Option.map (List.map (consD (nthR rows k).1)) (allF n (.prizes (s - 1) (rows.eraseIdx k))) = some o := ho
        cases hi : allF n (.prizes (s - 1) (rows.eraseIdx k)) with
        | none => rw [hi] at ho; cases ho
        | some i =>
          rw [hi] at ho
          have : o = i.map (consD (nthR rows k).1) := by injection ho with ho; exact ho.symm
          subst this
          obtain ⟨d', hd', rfl⟩ := List.mem_map.mp hd
          have h1 := all_ht hi d' hd'
          have h2 := cons_ht (x := (nthR rows k).1) (d := d')
          omega
    | both ls =>
      have ha' : (bothF [[]] (ls.map (allF n))).map (List.map .tuple) = some out := ha
      cases hb : bothF [[]] (ls.map (allF n)) with
      | none => rw [hb] at ha'; cases ha'
      | some q =>
        rw [hb] at ha'
        have : out = q.map .tuple := by injection ha' with ha'; exact ha'.symm
        subst this
        obtain ⟨t, ht', rfl⟩ := List.mem_map.mp hd
        have := bothF_mem (m := n + 3) hb (fun o ho ds hd => by
          obtain ⟨l, hl, rfl⟩ := List.mem_map.mp ho
          exact all_ht hd) (fun q hq => by rw [List.mem_singleton.mp hq]; exact Nat.zero_le _) t ht'
        show 1 + hts t ≤ _
        omega
    | among ws ls =>
      have ha' : mixO (amongRows (allF n) ws ls) = some out := ha
      obtain ⟨r, hr, o, ho, hd⟩ := mixO_mem ha' hd
      obtain ⟨w, l, _, hl, rfl⟩ := among_mem hr
      have := all_ht (show allF n l = some o from ho) d hd
      omega
mutual
def lens : PyData → Bool
  | .tuple ds => decide (ds.length ≤ 1000) && lenss ds
  | _ => true
def lenss : List PyData → Bool
  | [] => true
  | d :: ds => lens d && lenss ds
end
theorem lenss_mem {ds : List PyData} (h : lenss ds = true) : ∀ d ∈ ds, lens d = true := by
  induction ds with
  | nil => exact fun d m => by cases m
  | cons a r ih =>
    have h' : (lens a && lenss r) = true := h
    rw [Bool.and_eq_true] at h'
    intro d m
    rcases List.mem_cons.mp m with m | m
    · exact m ▸ h'.1
    · exact ih h'.2 d m
section
variable {P : Program} {w : World} {K : PySem.W.Frag} {mg : Str → Option Value} {base : Heap}
def spExact (K : PySem.W.Frag) (n : Nat) : Sp := fun vs H Q _ => ∃ v : V, vs = [v] ∧ ∃ d, Im K H d v ∧ pl d = true ∧ ht d ≤ n ∧ lens d = true ∧ ∀ H', Same H H' → Q (.bl true) H'
theorem rec__law_exact (T : NoB mg) (n : Nat) (h : Has K mg "_law_exact" (topS 39) ["value"]) (G__law_exact : Good P w K mg base (n + 1) "_law_exact" ["value"] (spExact K n)) : Good P w K mg base (n + 1 + 1) "_law_exact" ["value"] (spExact K (n + 1)) := by
  have sc : FnScope ["value", "part"] ["value"] (defScope (topS 39)) := ⟨rfl, rfl, rfl, by decide +kernel, rfl, by decide +kernel, by decide +kernel⟩
  have nd := sc.nd
  refine h.good sc (fun vs H Q E h => by obtain ⟨v, rfl, _⟩ := h; rfl) (fun f cdv A outer s H vs Q E hr h => ?_)
  obtain ⟨v, rfl, hyp⟩ := h
  refine ⟨_, (pss_cons (ps_if (pt_val (pe_callB (c_isiK K) (by rfl) T.n_isinstance (by decide +kernel) (pa_cons (pv 0) (pa_cons (pe_bltn (v := .ty "tuple") (by rfl) T.n_tuple (by decide +kernel) rfl) pa_nil))))
  (pss_one (ps_ret (pe_callB (cr_allK K rfl) (by rfl) T.n_all (by decide +kernel) (pa_cons (pe_lc (own := [("part", 1)]) rfl nd (pi_tupK K (pv 0)) (blkOk_by (own := [("part", 1)]) (N := ["value", "part"]) (by kernel_rfl)) (fun _ _ _ _ _ => (pg_name (i := 1) nd rfl (by first | exact .inl rfl | exact .inr rfl))) (fun _ _ _ _ _ => pts_nil) (fun _ _ _ _ _ => (pe_callG G__law_exact (hr.mono (by first | decide | omega)) (by rfl) (pa_cons (pv 1) pa_nil)))) pa_nil)))) pss_nil)
  (pss_one (ps_ret (pe_or (pe_cmpR op_isNn (pv 0) pe_non (nomark _)) (pe_or (pe_callB (c_isiK K) (by rfl) T.n_isinstance (by decide +kernel) (pa_cons (pv 0) (pa_cons (pe_bltn (v := .ty "str") (by rfl) T.n_str (by decide +kernel) rfl) pa_nil))) (pe_one (pe_and (pe_callB (c_isiK K) (by rfl) T.n_isinstance (by decide +kernel) (pa_cons (pv 0) (pa_cons (pe_bltn (v := .ty "int") (by rfl) T.n_int (by decide +kernel) rfl) pa_nil))) (pe_one (pe_notK K (pe_callB (c_isiK K) (by rfl) T.n_isinstance (by decide +kernel) (pa_cons (pv 0) (pa_cons (pe_bltn (v := .ty "bool") (by rfl) T.n_bool (by decide +kernel) rfl) pa_nil)))))))))))), ?_⟩
  try dsimp only [cxOf, Cx.wish]
  obtain ⟨d, hd, pd, hh, hl, q⟩ := hyp
  kc_close
  refine s_if ?_
  kc_close
  refine s_isT hd ?_
  kc_close
  cases d with
  | tuple ds =>
    obtain ⟨a, vs, rfl, hv, his⟩ := hd
    have lvs := Ims.length his
    have pds : pls ds = true := pd
    have hl' : (decide (ds.length ≤ 1000) && lenss ds) = true := hl
    rw [Bool.and_eq_true, decide_eq_true_eq] at hl'
    have hh' : 1 + hts ds ≤ n + 1 := hh
    refine ifTrue rfl ?_
    kc_close
    refine s_itupv hv ?_
    refine l_mapT (fun _ => V.bl true) hv (by omega) ?_ ?_
    · intro D N' i y H' e s' k'
      obtain ⟨e1, ee, he⟩ := Ims.get his e
      have pe := pls_mem.mp pds e1 (List.mem_of_getElem? ee)
      have hm := mem_hts (List.mem_of_getElem? ee)
      kc_close
      exact ⟨y, rfl, e1, Im.tk (TK.same s') _ _ he, pe, by omega, lenss_mem hl'.2 e1 (List.mem_of_getElem? ee), fun H4 s4 => k' H4 s4⟩
    intro B H2 nB s2 eB
    rw [range_all] at eB
    kc_close
    refine s_all (SqL.of eB) ?_
    rw [all_true]
    exact q H2 s2
  | bool b => cases pd
  | none =>
    have e : v = .non := hd
    subst e
    refine ifFalse rfl ?_
    kc_close
    refine ifTrue (by decide) ?_
    exact q H (Same.refl _)
  | str z =>
    have e : v = .str z := hd
    subst e
    refine ifFalse rfl ?_
    kc_close
    refine ifFalse rfl ?_
    kc_close
    refine s_isS hd ?_
    kc_close
    refine ifTrue rfl ?_
    exact q H (Same.refl _)
  | int i =>
    have e : v = .int i := hd
    subst e
    refine ifFalse rfl ?_
    kc_close
    refine ifFalse rfl ?_
    kc_close
    refine s_isS hd ?_
    kc_close
    refine ifFalse rfl ?_
    kc_close
    refine s_isI hd ?_
    kc_close
    refine ifTrue rfl ?_
    kc_close
    refine s_isi (b := false) (by decide +kernel) ?_
    kc_close
    exact q H (Same.refl _)
  | list _ => cases pd
  | dict _ => cases pd
end
end K1
end
section
open PySem PySem.Spec PyProof.Rows L2 Z
local macro_rules | `(tactic| ktr_room) => `(tactic| first
  | assumption
  | (apply SqT.of; assumption)
  | (apply SqL.of; assumption)
  | (apply sqt_same; assumption; ktr_room)
  | (apply sql_same; assumption; ktr_room)
  | (apply sqt_but; assumption; assumption; ktr_room)
  | (apply sql_but; assumption; assumption; ktr_room)
  | (apply Same.of_; assumption; ktr_room)
  | (apply But.of_; assumption; assumption; ktr_room)
  | exact same_refl
  | exact but_refl
  | (apply same_tr; assumption; ktr_room)
  | (apply same_but; assumption; ktr_room; assumption)
  | (apply but_tr; assumption; ktr_room)
  | (apply but_trB; assumption; ktr_room))
local macro_rules | `(tactic| ktr_units) => `(tactic| first | with_reducible assumption | omega | rfl | exact ⟨by omega, by omega⟩ | exact .inl ⟨by omega, by omega⟩ | exact .inr ⟨by omega, by omega⟩ | exact ⟨by decide, by decide, by decide⟩ | exact Nat.le_of_ble_eq_true rfl | decide)
local macro_rules | `(tactic| kc_close) => `(tactic| repeat (with_reducible first
  | refine s_var (by with_unfolding_all rfl) ?_
  | refine s_c ?_
  | refine s_op ?_
  | refine s_rI0 ?_
  | refine s_asg ?_
  | refine s_gname ?_
  | refine s_seq ?_
  | refine s_cons ?_
  | refine s_nil ?_
  | refine s_call ?_
  | refine s_ret ?_
  | o_fieldsN
  | refine s_test ?_
  | refine s_bl ?_
  | refine s_rI (by with_unfolding_all (ktr_units)) ?_
  | refine s_rEq rfl ?_
  | refine s_rNe rfl ?_
  | refine s_cb ?_
  | refine s_int1 ?_
  | refine s_intB ?_
  | refine s_max2 ?_
  | refine s_min2 ?_
  | refine s_tup ?_
  | refine s_lst ?_
  | refine s_newT (by with_unfolding_all first | decide | exact Nat.le_of_ble_eq_true rfl) ?_
  | refine s_newL (by with_unfolding_all first | decide | exact Nat.le_of_ble_eq_true rfl) ?_
  | refine s_ixT (by ktr_room) (by with_unfolding_all rfl) ?_
  | refine s_ixL (by ktr_room) (by with_unfolding_all rfl) ?_
  | refine s_lenT (by ktr_room) ?_
  | refine s_lenL (by ktr_room) ?_
  | refine s_un ?_
  | refine s_rU ?_
  | refine s_and ?_
  | refine s_or ?_
  | refine s_not ?_
  | refine s_tB ?_
  | refine s_tru ?_
  | refine s_drop ?_
  | refine s_next ?_
  | refine s_for ?_
  | refine s_rng1 ?_
  | refine s_rng2 ?_
  | refine s_rng3 ?_
  | refine s_ilist ?_
  | refine s_itup ?_
  | refine s_iany ?_
  | refine s_ienum ?_
  | refine s_irev ?_
  | refine s_gcons ?_
  | refine s_gnil ?_
  | refine s_gtup (by ktr_room) (by with_unfolding_all rfl) ?_
  | refine s_gsub ?_
  | refine s_augS ?_
  | refine s_aug (by with_unfolding_all rfl) ?_
  | refine s_ipI ?_
  | refine s_bm ?_
  | refine s_bm0 ?_
  | refine s_tyL (by ktr_room) ?_
  | refine s_tyL0 (by ktr_room) ?_
  | refine s_sl ?_
  | refine s_part ?_
  | refine s_partv ?_
  | refine s_noPart ?_
  | refine s_lc ?_
  | refine s_yes ?_
  | refine s_wipe (by with_unfolding_all rfl) ?_
  | refine iteT ?_
  | refine s_retN ?_
  | refine s_isN ?_
  | refine s_truB ?_
  | refine s_isB2 ?_
  | refine s_notB2 ?_
  | refine s_revT ?_
  | refine s_andV ?_
  | refine s_orV ?_
  | refine s_ifE ?_
  | refine s_notK ?_
  | refine s_notN ?_
  | refine s_truL (by ktr_room) ?_
  | refine s_truT (by ktr_room) ?_))
open K1
local macro_rules | `(tactic| ktr_room) => `(tactic| first
  | (apply DR.same; assumption; ktr_room)
  | (apply sqt_butD; assumption; ktr_room; ktr_room))
open K1
local macro_rules | `(tactic| o_fieldsN) => `(tactic| with_reducible first
  | refine s_tyS ?_)
namespace K1
open TL ML
theorem lenss_of {ds : List PyData} (h : ∀ d ∈ ds, lens d = true) : lenss ds = true := by
  induction ds with
  | nil => rfl
  | cons a r ih =>
    show (lens a && lenss r) = true
    rw [h a (List.mem_cons_self ..), ih fun d m => h d (List.mem_cons_of_mem _ m)]
    rfl
theorem lens_tup {ds : List PyData} (l : ds.length ≤ 1000) (h : ∀ d ∈ ds, lens d = true) : lens (.tuple ds) = true := by
  show (decide (ds.length ≤ 1000) && lenss ds) = true
  rw [decide_eq_true l, lenss_of h]
  rfl
theorem names_lens {xs : List Str} (l : xs.length ≤ 1000) : lens (namesD xs) = true := lens_tup (by rw [List.length_map]; exact l) fun d hd => by
  obtain ⟨x, _, rfl⟩ := List.mem_map.mp hd
  rfl
theorem comb_short {α : Type} : ∀ {xs : List α} {s : Nat} {t : List α}, t ∈ combL xs s → t.length = s
  | xs, 0, t, h => by
    have : t = [] := by cases xs <;> simpa [combL] using h
    subst this
    rfl
  | [], s + 1, t, h => by simp [combL] at h
  | a :: xs, s + 1, t, h => by
    rw [combL] at h
    rcases List.mem_append.mp h with h | h
    · obtain ⟨q, hq, rfl⟩ := List.mem_map.mp h
      rw [List.length_cons, comb_short hq]
    · exact comb_short h
theorem seats_lens {s tot : Int} : ∀ (b : Int) (rows : List (Str × Int)), ∀ d ∈ seatsL s tot b rows, lens d = true
  | _, [], d, h => by cases h
  | b, r :: rows, d, h => by
    rcases List.mem_cons.mp h with h | h
    · rw [h]; rfl
    · exact seats_lens _ rows d h
theorem bothF_lens : ∀ {ls : List (Option (List PyData))} {found out : List (List PyData)} {m : Nat}, bothF found ls = some out → (∀ o ∈ ls, ∀ ds, o = some ds → ∀ d ∈ ds, lens d = true) → (∀ q ∈ found, q.length ≤ m ∧ ∀ d ∈ q, lens d = true) → ∀ q ∈ out, q.length ≤ m + ls.length ∧ ∀ d ∈ q, lens d = true
  | [], found, out, m, h, _, hf => by
    have : found = out := by injection h
    subst this
    exact hf
  | none :: _, found, out, m, h, _, _ => by cases h
  | some outs :: r, found, out, m, h, ho, hf => by
    have h' : (if 3000 < outs.length * found.length then none else bothF (found.flatMap fun one => outs.map fun o => one ++ [o]) r) = some out := h
    by_cases hb : 3000 < outs.length * found.length
    · rw [if_pos hb] at h'; cases h'
    · rw [if_neg hb] at h'
      intro q hq
      have := bothF_lens (m := m + 1) h' (fun o hm => ho o (List.mem_cons_of_mem _ hm)) (fun q hq => by
        obtain ⟨one, h4, hq⟩ := List.mem_flatMap.mp hq
        obtain ⟨o, h5, rfl⟩ := List.mem_map.mp hq
        refine ⟨by rw [List.length_append]; have := (hf one h4).1; show one.length + 1 ≤ m + 1; omega, fun d hd => ?_⟩
        rcases List.mem_append.mp hd with hd | hd
        · exact (hf one h4).2 d hd
        · rw [List.mem_singleton.mp hd]
          exact ho _ (List.mem_cons_self ..) outs rfl o h5) q hq
      exact ⟨by rw [List.length_cons]; omega, this.2⟩
theorem all_lens : ∀ {n : Nat} {e : Lot} {out : List PyData}, ROk n e → allF n e = some out → ∀ d ∈ out, lens d = true
  | 0, _, _, h, _ => h.elim
  | n + 1, e, out, h, ha => fun d hd => by
    cases e with
    | sure x =>
      have : out = [.str x] := by injection ha with ha; exact ha.symm
      subst this
      rw [List.mem_singleton.mp hd]
      rfl
    | order xs =>
      have : out = (tupL xs false xs.length).map namesD := by injection ha with ha; exact ha.symm
      subst this
      obtain ⟨t, ht, rfl⟩ := List.mem_map.mp hd
      exact names_lens (by rw [(tup_memG ht).1]; have := h.2.1; omega)
    | pick k s xs =>
      obtain ⟨nd, n0, n6, s0, k2, hk1, hk2, hx⟩ := h
      have ha' : (if k = 1 then some ((combL xs s.toNat).map namesD) else some ((tupL xs (decide (k = 2)) s.toNat).map namesD)) = some out := ha
      by_cases hk : k = 1
      · rw [if_pos hk] at ha'
        have : out = (combL xs s.toNat).map namesD := by injection ha' with ha'; exact ha'.symm
        subst this
        obtain ⟨t, ht, rfl⟩ := List.mem_map.mp hd
        exact names_lens (by rw [comb_short ht]; have := hk1 (by omega); omega)
      · rw [if_neg hk] at ha'
        have : out = (tupL xs (decide (k = 2)) s.toNat).map namesD := by injection ha' with ha'; exact ha'.symm
        subst this
        obtain ⟨t, ht, rfl⟩ := List.mem_map.mp hd
        refine names_lens ?_
        rw [(tup_memG ht).1]
        by_cases h2 : k = 2
        · have := hk2 h2; omega
        · have := hk1 (by omega); omega
    | seats s rows =>
      have e1 : (List.range (Int.toNat (rows.map fun (r : Str × Int) => r.2).sum)).map (fun (i : Nat) => seatD s rows (i : Int)) = out := by injection ha
      subst e1
      obtain ⟨i, _, rfl⟩ := List.mem_map.mp hd
      exact lens_tup (by rw [seats_len]; have := h.1; omega) (seats_lens _ rows)
    | prizes s rows =>
      have ha' : (if s = 0 then some [.tuple []] else mixO (prizeRows (allF n) s rows)) = some out := ha
      by_cases h0 : s = 0
      · rw [if_pos h0] at ha'
        have : out = [.tuple []] := by injection ha' with ha'; exact ha'.symm
        subst this
        rw [List.mem_singleton.mp hd]
        rfl
      · rw [if_neg h0] at ha'
        obtain ⟨r, hr, o, ho, hd⟩ := mixO_mem ha' hd
        obtain ⟨k, hk, rfl⟩ := List.mem_map.mp hr
        have hk := List.mem_range.mp hk
        have ho : Option.map (List.map (consD (nthR rows k).1)) (allF n (.prizes (s - 1) (rows.eraseIdx k))) = some o := ho
        cases hi : allF n (.prizes (s - 1) (rows.eraseIdx k)) with
        | none => rw [hi] at ho; cases ho
        | some i =>
          rw [hi] at ho
          have : o = i.map (consD (nthR rows k).1) := by injection ho with ho; exact ho.symm
          subst this
          obtain ⟨d', hd', rfl⟩ := List.mem_map.mp hd
          have h1 := all_lens (erase_rok h h0 hk) hi d' hd'
          obtain ⟨ds, rfl, hl⟩ := prizes_tup (erase_rok h h0 hk) hi d' hd'
          have h1' : (decide (ds.length ≤ 1000) && lenss ds) = true := h1
          rw [Bool.and_eq_true] at h1'
          have := h.2.2.1
          have := h.1
          refine lens_tup (by rw [List.length_cons]; omega) fun d hd => ?_
          rcases List.mem_cons.mp hd with hd | hd
          · rw [hd]; rfl
          · exact lenss_mem h1'.2 d hd
    | both ls =>
      have ha' : (bothF [[]] (ls.map (allF n))).map (List.map .tuple) = some out := ha
      cases hb : bothF [[]] (ls.map (allF n)) with
      | none => rw [hb] at ha'; cases ha'
      | some q =>
        rw [hb] at ha'
        have : out = q.map .tuple := by injection ha' with ha'; exact ha'.symm
        subst this
        obtain ⟨t, ht', rfl⟩ := List.mem_map.mp hd
        have := bothF_lens (m := 0) hb (fun o ho ds hd => by
          obtain ⟨l, hl, rfl⟩ := List.mem_map.mp ho
          exact all_lens (h.2 l hl) hd) (fun q hq => by
          rw [List.mem_singleton.mp hq]
          exact ⟨Nat.le_refl _, fun d hd => by cases hd⟩) t ht'
        rw [List.length_map] at this
        exact lens_tup (by have := h.1; omega) this.2
    | among ws ls =>
      have ha' : mixO (amongRows (allF n) ws ls) = some out := ha
      obtain ⟨r, hr, o, ho, hd⟩ := mixO_mem ha' hd
      obtain ⟨w, l, _, hl, rfl⟩ := among_mem hr
      exact all_lens (h.2.2.2.2 l hl) (show allF n l = some o from ho) d hd
theorem good_noA {P : Program} {w : World} {K : PySem.W.Frag} {mg : Str → Option Value} {base : Heap} {x : Str} {st : Stmt} {ps : List Str} {sp : Sp} {k : Nat} (h : Has K mg x st ps) (no : ∀ vs H Q E, ¬ sp vs H Q E) : Good P w K mg base k x ps sp := by
  obtain ⟨f, fd, F, hm, hb⟩ := h.ex
  exact ⟨f, fd, hm, F.kp, hb, ⟨fun vs H Q E h => absurd h (no vs H Q E), fun A outer s H args us vs Q E hr he hbt hv h => absurd h (no vs H Q E)⟩⟩
section
variable {P : Program} {w : World} {K : PySem.W.Frag} {mg : Str → Option Value} {base : Heap}
theorem ok__law_all (T : NoB mg) (h : Has K mg "_law_all" (topS 38) ["e"]) (G__law_tuples : Good P w K mg base 1 "_law_tuples" ["names", "s", "again"] (spTuples K)) (G__law_sets : Good P w K mg base 2 "_law_sets" ["names", "s"] (spSets K)) (G__law_seats : Good P w K mg base 1 "_law_seats" ["e", "k"] (spSeatsL K)) (G__law_mixed : Good P w K mg base 2 "_law_mixed" ["rows"] (spMixed K)) : Good P w K mg base 12 "_law_all" ["e"] (spAll K 10) := by
  have : ∀ n, Good P w K mg base (n + 2) "_law_all" ["e"] (spAll K n) := fun n => by
    induction n with
    | zero =>
      refine good_noA h fun vs H Q E z => ?_
      obtain ⟨v, _, e, h, _⟩ := z
      exact h.elim
    | succ n ih => exact rec__law_all T n h G__law_tuples G__law_sets G__law_seats G__law_mixed ih
  exact this 10
theorem ht_pos (d : PyData) : 0 < ht d := by
  cases d <;> (show 0 < _; first | exact Nat.one_pos | (show 0 < 1 + _; omega))
theorem ok__law_exact (T : NoB mg) (h : Has K mg "_law_exact" (topS 39) ["value"]) : Good P w K mg base 14 "_law_exact" ["value"] (spExact K 13) := by
  have : ∀ n, Good P w K mg base (n + 1) "_law_exact" ["value"] (spExact K n) := fun n => by
    induction n with
    | zero =>
      refine good_noA h fun vs H Q E z => ?_
      obtain ⟨v, _, d, _, _, hh, _⟩ := z
      have := ht_pos d
      omega
    | succ n ih => exact rec__law_exact T n h ih
  exact this 13
def spSize (K : PySem.W.Frag) : Sp := fun vs H Q _ => ∃ v : V, vs = [v] ∧ ∃ e out, ROk 10 e ∧ allF 10 e = some out ∧ Im K H (lotD e) v ∧ ∀ H', Same H H' → Q (.int (out.length : Int)) H'
def spUnrank (K : PySem.W.Frag) : Sp := fun vs H Q _ => ∃ (v : V) (k : Int), vs = [v, .int k] ∧ ∃ e out d, ROk 10 e ∧ allF 10 e = some out ∧ Im K H (lotD e) v ∧ 0 ≤ k ∧ out[k.toNat]? = some d ∧ ∀ H' x, Same H H' → Im K H' d x → Q x H'
end
end K1
end
section
open PySem PySem.Spec PyProof.Rows L2 Z
local macro_rules | `(tactic| ktr_room) => `(tactic| first
  | assumption
  | (apply SqT.of; assumption)
  | (apply SqL.of; assumption)
  | (apply sqt_same; assumption; ktr_room)
  | (apply sql_same; assumption; ktr_room)
  | (apply sqt_but; assumption; assumption; ktr_room)
  | (apply sql_but; assumption; assumption; ktr_room)
  | (apply Same.of_; assumption; ktr_room)
  | (apply But.of_; assumption; assumption; ktr_room)
  | exact same_refl
  | exact but_refl
  | (apply same_tr; assumption; ktr_room)
  | (apply same_but; assumption; ktr_room; assumption)
  | (apply but_tr; assumption; ktr_room)
  | (apply but_trB; assumption; ktr_room))
local macro_rules | `(tactic| ktr_units) => `(tactic| first | with_reducible assumption | omega | rfl | exact ⟨by omega, by omega⟩ | exact .inl ⟨by omega, by omega⟩ | exact .inr ⟨by omega, by omega⟩ | exact ⟨by decide, by decide, by decide⟩ | exact Nat.le_of_ble_eq_true rfl | decide)
local macro_rules | `(tactic| kc_close) => `(tactic| repeat (with_reducible first
  | refine s_var (by with_unfolding_all rfl) ?_
  | refine s_c ?_
  | refine s_op ?_
  | refine s_rI0 ?_
  | refine s_asg ?_
  | refine s_gname ?_
  | refine s_seq ?_
  | refine s_cons ?_
  | refine s_nil ?_
  | refine s_call ?_
  | refine s_ret ?_
  | o_fieldsN
  | refine s_test ?_
  | refine s_bl ?_
  | refine s_rI (by with_unfolding_all (ktr_units)) ?_
  | refine s_rEq rfl ?_
  | refine s_rNe rfl ?_
  | refine s_cb ?_
  | refine s_int1 ?_
  | refine s_intB ?_
  | refine s_max2 ?_
  | refine s_min2 ?_
  | refine s_tup ?_
  | refine s_lst ?_
  | refine s_newT (by with_unfolding_all first | decide | exact Nat.le_of_ble_eq_true rfl) ?_
  | refine s_newL (by with_unfolding_all first | decide | exact Nat.le_of_ble_eq_true rfl) ?_
  | refine s_ixT (by ktr_room) (by with_unfolding_all rfl) ?_
  | refine s_ixL (by ktr_room) (by with_unfolding_all rfl) ?_
  | refine s_lenT (by ktr_room) ?_
  | refine s_lenL (by ktr_room) ?_
  | refine s_un ?_
  | refine s_rU ?_
  | refine s_and ?_
  | refine s_or ?_
  | refine s_not ?_
  | refine s_tB ?_
  | refine s_tru ?_
  | refine s_drop ?_
  | refine s_next ?_
  | refine s_for ?_
  | refine s_rng1 ?_
  | refine s_rng2 ?_
  | refine s_rng3 ?_
  | refine s_ilist ?_
  | refine s_itup ?_
  | refine s_iany ?_
  | refine s_ienum ?_
  | refine s_irev ?_
  | refine s_gcons ?_
  | refine s_gnil ?_
  | refine s_gtup (by ktr_room) (by with_unfolding_all rfl) ?_
  | refine s_gsub ?_
  | refine s_augS ?_
  | refine s_aug (by with_unfolding_all rfl) ?_
  | refine s_ipI ?_
  | refine s_bm ?_
  | refine s_bm0 ?_
  | refine s_tyL (by ktr_room) ?_
  | refine s_tyL0 (by ktr_room) ?_
  | refine s_sl ?_
  | refine s_part ?_
  | refine s_partv ?_
  | refine s_noPart ?_
  | refine s_lc ?_
  | refine s_yes ?_
  | refine s_wipe (by with_unfolding_all rfl) ?_
  | refine iteT ?_
  | refine s_retN ?_
  | refine s_isN ?_
  | refine s_truB ?_
  | refine s_isB2 ?_
  | refine s_notB2 ?_
  | refine s_revT ?_
  | refine s_andV ?_
  | refine s_orV ?_
  | refine s_ifE ?_
  | refine s_notK ?_
  | refine s_notN ?_
  | refine s_truL (by ktr_room) ?_
  | refine s_truT (by ktr_room) ?_))
open K1
local macro_rules | `(tactic| ktr_room) => `(tactic| first
  | (apply DR.same; assumption; ktr_room)
  | (apply sqt_butD; assumption; ktr_room; ktr_room))
open K1
local macro_rules | `(tactic| o_fieldsN) => `(tactic| with_reducible first
  | refine s_tyS ?_)
namespace K1
open TL ML
mutual
theorem pl_dep : ∀ d : PyData, pl d = true → d.depth ≤ ht d
  | .tuple ds, h => by
    have := pls_dep ds (show pls ds = true from h)
    show PyData.depth (.tuple ds) ≤ 1 + hts ds
    rw [PyData.depth]
    omega
  | .none, _ => Nat.zero_le _
  | .int _, _ => Nat.zero_le _
  | .str _, _ => Nat.zero_le _
  | .bool _, h => by cases h
  | .list _, h => by cases h
  | .dict _, h => by cases h
theorem pls_dep : ∀ ds : List PyData, pls ds = true → PyData.depthAll ds ≤ hts ds
  | [], _ => Nat.zero_le _
  | d :: ds, h => by
    have h' : (pl d && pls ds) = true := h
    rw [Bool.and_eq_true] at h'
    have h1 := pl_dep d h'.1
    have h2 := pls_dep ds h'.2
    show PyData.depthAll (d :: ds) ≤ max (ht d) (hts ds)
    rw [PyData.depthAll]
    omega
end
theorem s_neMs {K : PySem.W.Frag} {H : Hp} {Q : VK} {x y : V} {d : PyData} (hx : Im K H d x) (hy : Im K H d y) (pd : pl d = true) (hd : ht d ≤ 64) (h : Q (.bl false) H) : rNeM K x y H Q :=
  ⟨d, d, Im.dp _ _ hx, Im.dp _ _ hy, pl_lay d pd, pl_lay d pd, by have := pl_dep d pd; omega, by rw [SeqAt.eqv_refl d (pl_lay d pd)]; exact h⟩
theorem at4 {a b c d k : Int} {n : Int} (hk : 0 ≤ k ∧ k < 4) (ha : 0 ≤ a ∧ a < n) (hb : 0 ≤ b ∧ b < n) (hc : 0 ≤ c ∧ c < n) (hd : 0 ≤ d ∧ d < n) : ∃ z : Int, 0 ≤ z ∧ z < n ∧ atI [V.int a, V.int b, V.int c, V.int d] k = some (.int z) := by
  rcases (show k = 0 ∨ k = 1 ∨ k = 2 ∨ k = 3 by omega) with rfl | rfl | rfl | rfl
  · exact ⟨a, ha.1, ha.2, rfl⟩
  · exact ⟨b, hb.1, hb.2, rfl⟩
  · exact ⟨c, hc.1, hc.2, rfl⟩
  · exact ⟨d, hd.1, hd.2, rfl⟩
section
variable {P : Program} {w : World} {K : PySem.W.Frag} {mg : Str → Option Value} {base : Heap}
abbrev stW1 (s c e due told k at' : Option V := none) : L2.St := [s, c, e, due, told, k, at']
theorem ok_law (T : NoB mg) {f : Addr} {fd : FuncData} (F : Fun K "law" "law" (topS 40) f fd) (G__law_start : Good P w K mg base 1 "_law_start" ["script"] (spStart K)) (G__law_drawn_lot : Good P w K mg base 10 "_law_drawn_lot" ["c"] (spDrawn K)) (G__law_all : Good P w K mg base 12 "_law_all" ["e"] (spAll K 10)) (G_size : Good P w K mg base 140 "size" ["e"] (spSize K)) (G__law_take : Good P w K mg base 2 "_law_take" ["c", "many"] (spTake)) (G__law_exact : Good P w K mg base 14 "_law_exact" ["value"] (spExact K 13)) (G_unrank : Good P w K mg base 140 "unrank" ["e", "k"] (spUnrank K)) : FnOk P w K mg base CX0 141 f fd ["script"] (spLaw K) := by
  have sc : FnScope ["script", "c", "e", "due", "told", "k", "at"] ["script"] (defScope (topS 40)) := ⟨rfl, rfl, rfl, by decide +kernel, rfl, by decide +kernel, by decide +kernel⟩
  have nd := sc.nd
  refine F.ok sc (fun vs H Q E h => by obtain ⟨s0, rfl, _⟩ := h; rfl) (fun cdv A outer s H vs Q E hr h => ?_)
  obtain ⟨s0, rfl, hyp⟩ := h
  refine ⟨_, (pss_cons (ps_set (i := 1) nd rfl (by first | exact .inl rfl | exact .inr rfl) (pe_callG G__law_start (hr.mono (by first | decide | omega)) (by rfl) (pa_cons (pv 0) pa_nil)))
  (pss_cons (ps_set (i := 2) nd rfl (by first | exact .inl rfl | exact .inr rfl) (pe_callG G__law_drawn_lot (hr.mono (by first | decide | omega)) (by rfl) (pa_cons (pv 1) pa_nil)))
  (pss_cons (ps_set (i := 3) nd rfl (by first | exact .inl rfl | exact .inr rfl) (pe_callG G__law_all (hr.mono (by first | decide | omega)) (by rfl) (pa_cons (pv 2) pa_nil)))
  (pss_cons (ps_if (pt_cmpR op_isNn (pv 3) pe_non (nomark _))
  (pss_one (ps_ret pe_bl)) pss_nil)
  (pss_cons (ps_set (i := 4) nd rfl (by first | exact .inl rfl | exact .inr rfl) (pe_callG G_size (hr.mono (by first | decide | omega)) (by rfl) (pa_cons (pv 2) pa_nil)))
  (pss_cons (ps_if (PW.pt (pw_or (pt_cmpR op_ne (pv 4) (pe_callB (c_lenK K) (by rfl) T.n_len (by decide +kernel) (pa_cons (pv 3) pa_nil)) (nomark _)) (pw_or1 (pt_val (pe_callB (c_isiK K) (by rfl) T.n_isinstance (by decide +kernel) (pa_cons (pv 4) (pa_cons (pe_bltn (v := .ty "bool") (by rfl) T.n_bool (by decide +kernel) rfl) pa_nil)))))))
  (pss_one (ps_ret pe_bl)) pss_nil)
  (pss_cons (ps_for PassesOwn.never rfl (pi_range1 rfl T.n_range (pa_cons (pe_callB (c_min2 rfl) (by rfl) T.n_min (by decide +kernel) (pa_cons (pe_callB (c_lenK K) (by rfl) T.n_len (by decide +kernel) (pa_cons (pv 3) pa_nil)) (pa_cons pe_int pa_nil))) pa_nil)) (pg_name (i := 5) nd rfl (by first | exact .inl rfl | exact .inr rfl))
  (pss_cons (ps_set (i := 6) nd rfl (by first | exact .inl rfl | exact .inr rfl) (pv 5))
  (pss_cons (ps_if (pt_cmpR op_gt (pe_callB (c_lenK K) (by rfl) T.n_len (by decide +kernel) (pa_cons (pv 3) pa_nil)) pe_int (nomark _))
  (pss_one (ps_set (i := 6) nd rfl (by first | exact .inl rfl | exact .inr rfl) (pe_ix (ix_listK K) (pe_lst (pa_cons pe_int (pa_cons (pe_op op_sub (pe_callB (c_lenK K) (by rfl) T.n_len (by decide +kernel) (pa_cons (pv 3) pa_nil)) pe_int) (pa_cons (pe_callG G__law_take (hr.mono (by first | decide | omega)) (by rfl) (pa_cons (pv 1) (pa_cons (pe_callB (c_lenK K) (by rfl) T.n_len (by decide +kernel) (pa_cons (pv 3) pa_nil)) pa_nil))) (pa_cons (pe_callG G__law_take (hr.mono (by first | decide | omega)) (by rfl) (pa_cons (pv 1) (pa_cons (pe_callB (c_lenK K) (by rfl) T.n_len (by decide +kernel) (pa_cons (pv 3) pa_nil)) pa_nil))) pa_nil))))) (pe_op op_mod (pe_callTy c_int1 (by rfl) T.n_int (by decide +kernel) (pa_cons (pv 5) pa_nil)) pe_int) (fun _ _ => rfl)))) pss_nil)
  (pss_one (ps_if (PW.pt (pw_or (pt_cmpR (op_neMK K hr.units) (pe_callG G_unrank (hr.mono (by first | decide | omega)) (by rfl) (pa_cons (pv 2) (pa_cons (pv 6) pa_nil))) (pe_ix (ix_listK K) (pv 3) (pv 6) (fun _ _ => rfl)) (nomark _)) (pw_or1 (pt_not (pt_val (pe_callG G__law_exact (hr.mono (by first | decide | omega)) (by rfl) (pa_cons (pe_callG G_unrank (hr.mono (by first | decide | omega)) (by rfl) (pa_cons (pv 2) (pa_cons (pv 6) pa_nil))) pa_nil)))))))
  (pss_one (ps_ret pe_bl)) pss_nil)))))
  (pss_one (ps_ret pe_bl))))))))), ?_⟩
  try dsimp only [cxOf, Cx.wish]
  obtain ⟨⟨ns, hsc, hns⟩, q⟩ := hyp
  kc_close
  refine u_start hsc hns fun H1 c L s1 d1 => ?_
  refine s_seq ?_
  refine s_cut (fun σ' H' => ∃ (ev : V) (e : Lot), σ' = stW1 (some (.ref s0)) (some (.ref c)) (some ev) ∧ DR H' c L ∧ Im K H' (lotD e) ev ∧ LotOk 3 e ∧ nodes e ≤ 25) (fun N hN => ?_) ?_
  · kc_close
    refine u_drawn d1 fun H3 v e b3 d3 im ok nd => ?_
    kc_close
    exact hN _ _ ⟨v, e, rfl, d3, im, ok, nd⟩
  rintro _ H3 ⟨ev, e, rfl, d3, im, ok, nd⟩
  have rok : ROk 10 e := lot_rok ok
  refine s_seq ?_
  refine s_cut (fun σ' H' => ∃ due : V, σ' = stW1 (some (.ref s0)) (some (.ref c)) (some ev) (some due) ∧ Same H3 H' ∧ ((due = .non) ∨ ∃ f out, due = .ref f ∧ H3 f = none ∧ allF 10 e = some out ∧ OutsAt K H' f out)) (fun N hN => ?_) ?_
  · kc_close
    refine ⟨ev, rfl, e, rok, im, fun hn H4 s4 => ?_, fun outs ho H4 f s4 n4 hf => ?_⟩
    · kc_close
      exact hN _ _ ⟨.non, rfl, s4, .inl rfl⟩
    · kc_close
      exact hN _ _ ⟨.ref f, rfl, s4, .inr ⟨f, outs, rfl, n4, ho, hf⟩⟩
  rintro _ H4 ⟨due, rfl, s4, hdue⟩
  rcases hdue with rfl | ⟨f, out, rfl, nf, ho, ous, ef, hou⟩
  · refine s_seq ?_
    refine s_if ?_
    kc_close
    refine ifTrue (by decide) ?_
    kc_close
    exact q H4
  have lsok := all_ok rok ho
  have hle := lsok.le
  have hpos := lsok.pos
  have lou := Ims.length hou
  have d4 := d3.same s4
  have im4 := im.tk (TK.same s4)
  have nfc : f ≠ c := fun z => by
    obtain ⟨_, _, _, _, _, ec, _⟩ := d3
    rw [z, ec] at nf
    cases nf
  refine s_seq ?_
  refine s_if ?_
  kc_close
  refine ifFalse rfl ?_
  kc_close
  refine ⟨ev, rfl, e, out, rok, ho, im4, fun H5 s5 => ?_⟩
  have ef5 := s5 _ _ ef
  kc_close
  refine s_if ?_
  kc_close
  rw [lou]
  refine ifN (fun h => absurd rfl h) (fun _ => ?_)
  kc_close
  refine s_isi (b := false) (by decide +kernel) ?_
  kc_close
  refine ifFalse (by decide) ?_
  have im5 := im4.tk (TK.same s5)
  have d5 := d4.same s5
  have hou5 := Ims.tk (TK.same s5) _ _ hou
  refine s_seq ?_
  kc_close
  rw [lou]
  refine s_rng1v (by split <;> omega) (by split <;> omega) ?_
  refine w_range (fun i σ' H' => ∃ y5 y6, σ' = stW1 (some (.ref s0)) (some (.ref c)) (some ev) (some (.ref f)) (some (.int (out.length : Int))) y5 y6 ∧ DR H' c L ∧ Im K H' (lotD e) ev ∧ Ims K H' out ous ∧ H' f = some (.lst ous)) ⟨none, none, rfl, d5, im5, hou5, ef5⟩ ?_ ?_
  · rintro i _ H6 hi ⟨y5, y6, rfl, d6, im6, hou6, ef6⟩
    have hi' : (i : Int) < out.length := by
      revert hi
      split <;> omega
    refine s_gname ?_
    refine s_seq ?_
    refine s_cut (fun σ' H' => σ' = stW1 (some (.ref s0)) (some (.ref c)) (some ev) (some (.ref f)) (some (.int (out.length : Int))) (some (.int (0 + (i : Nat)))) (some (.int (0 + (i : Nat)))) ∧ H' = H6) (fun N hN => ?_) ?_
    · kc_close
      exact hN _ _ ⟨rfl, rfl⟩
    rintro _ H6 ⟨rfl, rfl⟩
    refine s_seq ?_
    refine s_cut (fun σ' H' => ∃ z : Int, σ' = stW1 (some (.ref s0)) (some (.ref c)) (some ev) (some (.ref f)) (some (.int (out.length : Int))) (some (.int (0 + (i : Nat)))) (some (.int z)) ∧ 0 ≤ z ∧ z < out.length ∧ DR H' c L ∧ Im K H' (lotD e) ev ∧ Ims K H' out ous ∧ H' f = some (.lst ous)) (fun N hN => ?_) ?_
    · refine s_if ?_
      kc_close
      rw [lou]
      by_cases h0 : (60 : Int) < out.length
      · refine ifTrue (decide_eq_true h0) ?_
        kc_close
        rw [lou]
        refine u_take d6 (by omega) (by omega) fun H7 t1 b7 d7 g0 g1 => ?_
        have ef7 := b7 _ _ nfc ef6
        kc_close
        rw [lou]
        refine u_take d7 (by omega) (by omega) fun H8 t2 b8 d8 g2 g3 => ?_
        kc_close
        intro p9 H9 n9 s9 e9
        have ne9 : p9 ≠ f := fun z => by
          have := b8 _ _ nfc ef7
          rw [z, this] at n9
          cases n9
        kc_close
        obtain ⟨z, z0, z1, hat⟩ := at4 (k := (0 + (i : Int)) % 4) (n := (out.length : Int)) (a := 0) (b := out.length - 1) (c := t1) (d := t2) (by omega) (by omega) (by omega) (by omega) (by omega)
        refine s_ixL (SqL.of e9) hat ?_
        kc_close
        have k9 : TK K H6 H9 := fun _ _ h => (TK.same s9) _ _ (sqt_butD b8 d7 (sqt_butD b7 d6 h))
        exact hN _ _ ⟨z, rfl, z0, z1, d8.same s9, im6.tk k9, Ims.tk k9 _ _ hou6, s9 _ _ (b8 _ _ nfc ef7)⟩
      · refine ifFalse (by rw [decide_eq_false h0]) ?_
        kc_close
        exact hN _ _ ⟨0 + (i : Nat), rfl, by omega, by omega, d6, im6, hou6, ef6⟩
    rintro _ H7 ⟨z, rfl, z0, z1, d7, im7, hou7, ef7⟩
    obtain ⟨zd, hzd⟩ : ∃ d, out[z.toNat]? = some d := ⟨_, List.getElem?_eq_getElem (by omega)⟩
    have hm := List.mem_of_getElem? hzd
    have hzp := pls_mem.mp lsok.pl zd hm
    have hzh := all_ht ho zd hm
    have hzl := all_lens rok ho zd hm
    refine s_if ?_
    kc_close
    refine ⟨ev, z, rfl, e, out, zd, rok, ho, im7, z0, hzd, fun H8 x s8 ix => ?_⟩
    kc_close
    have imsz : Ims K H8 out ous := Ims.tk (TK.same s8) _ _ hou7
    obtain ⟨w8, e8, i8⟩ := Ims.at imsz hzd
    have ef8 := s8 _ _ ef7
    refine s_ixL (SqL.of ef8) (at_gen (k := z.toNat) (by omega) e8) ?_
    kc_close
    refine s_neMs ix i8 hzp (by omega) ?_
    kc_close
    refine ifFalse (by decide) ?_
    kc_close
    refine ⟨ev, z, rfl, e, out, zd, rok, ho, im7.tk (TK.same s8), z0, hzd, fun H9 x9 s9 ix9 => ?_⟩
    kc_close
    refine ⟨x9, rfl, zd, ix9, hzp, hzh, hzl, fun H10 s10 => ?_⟩
    kc_close
    refine ifFalse (by decide) ?_
    kc_close
    exact ⟨_, _, rfl, d7.same ((s8.trans s9).trans s10), im7.tk (TK.same ((s8.trans s9).trans s10)), Ims.tk (TK.same ((s8.trans s9).trans s10)) _ _ hou7, (s10 _ _ (s9 _ _ ef8))⟩
  · rintro _ H6 ⟨y5, y6, rfl, d6, im6, hou6, ef6⟩
    kc_close
    exact q _
end
end K1
end
section
open PySem PySem.Spec PyProof.Rows L2 Z
local macro_rules | `(tactic| ktr_room) => `(tactic| first
  | assumption
  | (apply SqT.of; assumption)
  | (apply SqL.of; assumption)
  | (apply sqt_same; assumption; ktr_room)
  | (apply sql_same; assumption; ktr_room)
  | (apply sqt_but; assumption; assumption; ktr_room)
  | (apply sql_but; assumption; assumption; ktr_room)
  | (apply Same.of_; assumption; ktr_room)
  | (apply But.of_; assumption; assumption; ktr_room)
  | exact same_refl
  | exact but_refl
  | (apply same_tr; assumption; ktr_room)
  | (apply same_but; assumption; ktr_room; assumption)
  | (apply but_tr; assumption; ktr_room)
  | (apply but_trB; assumption; ktr_room))
local macro_rules | `(tactic| ktr_units) => `(tactic| first | with_reducible assumption | omega | rfl | exact ⟨by omega, by omega⟩ | exact .inl ⟨by omega, by omega⟩ | exact .inr ⟨by omega, by omega⟩ | exact ⟨by decide, by decide, by decide⟩ | exact Nat.le_of_ble_eq_true rfl | decide)
local macro_rules | `(tactic| kc_close) => `(tactic| repeat (with_reducible first
  | refine s_var (by with_unfolding_all rfl) ?_
  | refine s_c ?_
  | refine s_op ?_
  | refine s_rI0 ?_
  | refine s_asg ?_
  | refine s_gname ?_
  | refine s_seq ?_
  | refine s_cons ?_
  | refine s_nil ?_
  | refine s_call ?_
  | refine s_ret ?_
  | o_fieldsN
  | refine s_test ?_
  | refine s_bl ?_
  | refine s_rI (by with_unfolding_all (ktr_units)) ?_
  | refine s_rEq rfl ?_
  | refine s_rNe rfl ?_
  | refine s_cb ?_
  | refine s_int1 ?_
  | refine s_intB ?_
  | refine s_max2 ?_
  | refine s_min2 ?_
  | refine s_tup ?_
  | refine s_lst ?_
  | refine s_newT (by with_unfolding_all first | decide | exact Nat.le_of_ble_eq_true rfl) ?_
  | refine s_newL (by with_unfolding_all first | decide | exact Nat.le_of_ble_eq_true rfl) ?_
  | refine s_ixT (by ktr_room) (by with_unfolding_all rfl) ?_
  | refine s_ixL (by ktr_room) (by with_unfolding_all rfl) ?_
  | refine s_lenT (by ktr_room) ?_
  | refine s_lenL (by ktr_room) ?_
  | refine s_un ?_
  | refine s_rU ?_
  | refine s_and ?_
  | refine s_or ?_
  | refine s_not ?_
  | refine s_tB ?_
  | refine s_tru ?_
  | refine s_drop ?_
  | refine s_next ?_
  | refine s_for ?_
  | refine s_rng1 ?_
  | refine s_rng2 ?_
  | refine s_rng3 ?_
  | refine s_ilist ?_
  | refine s_itup ?_
  | refine s_iany ?_
  | refine s_ienum ?_
  | refine s_irev ?_
  | refine s_gcons ?_
  | refine s_gnil ?_
  | refine s_gtup (by ktr_room) (by with_unfolding_all rfl) ?_
  | refine s_gsub ?_
  | refine s_augS ?_
  | refine s_aug (by with_unfolding_all rfl) ?_
  | refine s_ipI ?_
  | refine s_bm ?_
  | refine s_bm0 ?_
  | refine s_tyL (by ktr_room) ?_
  | refine s_tyL0 (by ktr_room) ?_
  | refine s_sl ?_
  | refine s_part ?_
  | refine s_partv ?_
  | refine s_noPart ?_
  | refine s_lc ?_
  | refine s_yes ?_
  | refine s_wipe (by with_unfolding_all rfl) ?_
  | refine iteT ?_
  | refine s_retN ?_
  | refine s_isN ?_
  | refine s_truB ?_
  | refine s_isB2 ?_
  | refine s_notB2 ?_
  | refine s_revT ?_
  | refine s_andV ?_
  | refine s_orV ?_
  | refine s_ifE ?_
  | refine s_notK ?_
  | refine s_notN ?_
  | refine s_truL (by ktr_room) ?_
  | refine s_truT (by ktr_room) ?_))
open K1
local macro_rules | `(tactic| ktr_room) => `(tactic| first
  | (apply DR.same; assumption; ktr_room)
  | (apply sqt_butD; assumption; ktr_room; ktr_room))
open K1
local macro_rules | `(tactic| o_fieldsN) => `(tactic| with_reducible first
  | refine s_tyS ?_
  | refine s_fld ?_)
namespace K1
open TL ML
/-- what stands in a Measured -/
def mF (l t w p s : V) : List (Str × V) := putF "stride" s (putF "parts" p (putF "weights" w (putF "total" t (putF "lot" l []))))
theorem mF_lot (l t w p s : V) : (mF l t w p s).lookup ("lot" : Str) = some l := by
  unfold mF
  rw [lookup_putF, if_neg (by decide +kernel), lookup_putF, if_neg (by decide +kernel), lookup_putF, if_neg (by decide +kernel), lookup_putF, if_neg (by decide +kernel), lookup_putF, if_pos rfl]
theorem mF_total (l t w p s : V) : (mF l t w p s).lookup ("total" : Str) = some t := by
  unfold mF
  rw [lookup_putF, if_neg (by decide +kernel), lookup_putF, if_neg (by decide +kernel), lookup_putF, if_neg (by decide +kernel), lookup_putF, if_pos rfl]
theorem mF_weights (l t w p s : V) : (mF l t w p s).lookup ("weights" : Str) = some w := by
  unfold mF
  rw [lookup_putF, if_neg (by decide +kernel), lookup_putF, if_neg (by decide +kernel), lookup_putF, if_pos rfl]
theorem mF_parts (l t w p s : V) : (mF l t w p s).lookup ("parts" : Str) = some p := by
  unfold mF
  rw [lookup_putF, if_neg (by decide +kernel), lookup_putF, if_pos rfl]
theorem mF_stride (l t w p s : V) : (mF l t w p s).lookup ("stride" : Str) = some s := by
  unfold mF
  rw [lookup_putF, if_pos rfl]
def mAs : List Str := ["lot", "total", "weights", "parts", "stride"]
theorem mF_no {l t w p s v : V} {f : Str} (h : (mF l t w p s).lookup f = some v) : f ∈ mAs := by
  unfold mF at h
  rw [lookup_putF, lookup_putF, lookup_putF, lookup_putF, lookup_putF] at h
  unfold mAs
  by_cases h1 : f = "stride"
  · subst h1; simp
  rw [if_neg h1] at h
  by_cases h2 : f = "parts"
  · subst h2; simp
  rw [if_neg h2] at h
  by_cases h3 : f = "weights"
  · subst h3; simp
  rw [if_neg h3] at h
  by_cases h4 : f = "total"
  · subst h4; simp
  rw [if_neg h4] at h
  by_cases h5 : f = "lot"
  · subst h5; simp
  rw [if_neg h5] at h
  cases h
section
variable {P : Program} {w : World} {K : PySem.W.Frag} {mg : Str → Option Value} {base : Heap}
/-- what __init__ promises -/
def spMInit (C : Addr) : Sp := fun vs H Q _ => ∃ (p dx : Addr) (l t w pt s : V), vs = [.ref p, l, t, w, pt, s] ∧ H p = some (.ins C dx []) ∧ ∀ H', (∀ b o, H b = some o → b ≠ p → H' b = some o) → H' p = some (.ins C dx (mF l t w pt s)) → Q .non H'
abbrev mN : List Str := ["self", "lot", "total", "weights", "parts", "stride"]
abbrev sMInit : Stmt := inClass (topS 6) 0
theorem scM : FnScope mN mN (defScope sMInit) := ⟨rfl, rfl, rfl, by decide +kernel, rfl, by decide +kernel, by decide +kernel⟩
theorem ok_MInit {f C : Addr} {fd : FuncData} (F : Fun K "__init__" "Measured.__init__" sMInit f fd) (cl : Cls K C) (na : ∀ a ∈ mAs, NoAttr K C a) : FnOk P w K mg base CX0 1 f fd mN (spMInit C) := by
  refine F.ok scM (fun vs H Q E h => ?_) (fun cdv A outer s H vs Q E hr h => ?_)
  · obtain ⟨p, dx, l, t, w, pt, s, rfl, _⟩ := h
    rfl
  · obtain ⟨p, dx, l, t, w, pt, s, rfl, hp, q⟩ := h
    refine ⟨_, pss_cons (ps_fld (pv 0) (pv 1) rfl) (pss_cons (ps_fld (pv 0) (pv 2) rfl) (pss_cons (ps_fld (pv 0) (pv 3) rfl) (pss_cons (ps_fld (pv 0) (pv 4) rfl) (pss_one (ps_fld (pv 0) (pv 5) rfl))))), ?_⟩
    refine ⟨_, rfl, _, rfl, p, C, dx, _, rfl, hp, cl, na _ (by simp [mAs]), (by show 0 < 1000; decide), ?_⟩
    refine ⟨_, rfl, _, rfl, p, C, dx, _, rfl, upd_same, cl, na _ (by simp [mAs]), (by show 1 < 1000; decide), ?_⟩
    refine ⟨_, rfl, _, rfl, p, C, dx, _, rfl, upd_same, cl, na _ (by simp [mAs]), (by show 2 < 1000; decide), ?_⟩
    refine ⟨_, rfl, _, rfl, p, C, dx, _, rfl, upd_same, cl, na _ (by simp [mAs]), (by show 3 < 1000; decide), ?_⟩
    refine ⟨_, rfl, _, rfl, p, C, dx, _, rfl, upd_same, cl, na _ (by simp [mAs]), (by show 4 < 1000; decide), ?_⟩
    refine q _ (fun b o e ne => ?_) upd_same
    rw [upd_ne ne, upd_ne ne, upd_ne ne, upd_ne ne, upd_ne ne]
    exact e
end
end K1
end
section
open PySem PySem.Spec PyProof.Rows L2 Z
local macro_rules | `(tactic| ktr_room) => `(tactic| first
  | assumption
  | (apply SqT.of; assumption)
  | (apply SqL.of; assumption)
  | (apply sqt_same; assumption; ktr_room)
  | (apply sql_same; assumption; ktr_room)
  | (apply sqt_but; assumption; assumption; ktr_room)
  | (apply sql_but; assumption; assumption; ktr_room)
  | (apply Same.of_; assumption; ktr_room)
  | (apply But.of_; assumption; assumption; ktr_room)
  | exact same_refl
  | exact but_refl
  | (apply same_tr; assumption; ktr_room)
  | (apply same_but; assumption; ktr_room; assumption)
  | (apply but_tr; assumption; ktr_room)
  | (apply but_trB; assumption; ktr_room))
local macro_rules | `(tactic| ktr_units) => `(tactic| first | with_reducible assumption | omega | rfl | exact ⟨by omega, by omega⟩ | exact .inl ⟨by omega, by omega⟩ | exact .inr ⟨by omega, by omega⟩ | exact ⟨by decide, by decide, by decide⟩ | exact Nat.le_of_ble_eq_true rfl | decide)
local macro_rules | `(tactic| kc_close) => `(tactic| repeat (with_reducible first
  | refine s_var (by with_unfolding_all rfl) ?_
  | refine s_c ?_
  | refine s_op ?_
  | refine s_rI0 ?_
  | refine s_asg ?_
  | refine s_gname ?_
  | refine s_seq ?_
  | refine s_cons ?_
  | refine s_nil ?_
  | refine s_call ?_
  | refine s_ret ?_
  | o_fieldsN
  | refine s_test ?_
  | refine s_bl ?_
  | refine s_rI (by with_unfolding_all (ktr_units)) ?_
  | refine s_rEq rfl ?_
  | refine s_rNe rfl ?_
  | refine s_cb ?_
  | refine s_int1 ?_
  | refine s_intB ?_
  | refine s_max2 ?_
  | refine s_min2 ?_
  | refine s_tup ?_
  | refine s_lst ?_
  | refine s_newT (by with_unfolding_all first | decide | exact Nat.le_of_ble_eq_true rfl) ?_
  | refine s_newL (by with_unfolding_all first | decide | exact Nat.le_of_ble_eq_true rfl) ?_
  | refine s_ixT (by ktr_room) (by with_unfolding_all rfl) ?_
  | refine s_ixL (by ktr_room) (by with_unfolding_all rfl) ?_
  | refine s_lenT (by ktr_room) ?_
  | refine s_lenL (by ktr_room) ?_
  | refine s_un ?_
  | refine s_rU ?_
  | refine s_and ?_
  | refine s_or ?_
  | refine s_not ?_
  | refine s_tB ?_
  | refine s_tru ?_
  | refine s_drop ?_
  | refine s_next ?_
  | refine s_for ?_
  | refine s_rng1 ?_
  | refine s_rng2 ?_
  | refine s_rng3 ?_
  | refine s_ilist ?_
  | refine s_itup ?_
  | refine s_iany ?_
  | refine s_ienum ?_
  | refine s_irev ?_
  | refine s_gcons ?_
  | refine s_gnil ?_
  | refine s_gtup (by ktr_room) (by with_unfolding_all rfl) ?_
  | refine s_gsub ?_
  | refine s_augS ?_
  | refine s_aug (by with_unfolding_all rfl) ?_
  | refine s_ipI ?_
  | refine s_bm ?_
  | refine s_bm0 ?_
  | refine s_tyL (by ktr_room) ?_
  | refine s_tyL0 (by ktr_room) ?_
  | refine s_sl ?_
  | refine s_part ?_
  | refine s_partv ?_
  | refine s_noPart ?_
  | refine s_lc ?_
  | refine s_yes ?_
  | refine s_wipe (by with_unfolding_all rfl) ?_
  | refine iteT ?_
  | refine s_retN ?_
  | refine s_isN ?_
  | refine s_truB ?_
  | refine s_isB2 ?_
  | refine s_notB2 ?_
  | refine s_revT ?_
  | refine s_andV ?_
  | refine s_orV ?_
  | refine s_ifE ?_
  | refine s_notK ?_
  | refine s_notN ?_
  | refine s_truL (by ktr_room) ?_
  | refine s_truT (by ktr_room) ?_))
open K1
local macro_rules | `(tactic| ktr_room) => `(tactic| first
  | (apply DR.same; assumption; ktr_room)
  | (apply sqt_butD; assumption; ktr_room; ktr_room))
open K1
local macro_rules | `(tactic| o_fieldsN) => `(tactic| with_reducible first
  | refine s_tyS ?_
  | refine s_fld ?_)
namespace K1
open TL ML
section
variable {P : Program} {w : World} {K : PySem.W.Frag} {mg : Str → Option Value} {base : Heap}
def spChecked : Sp := fun vs H Q _ => ∃ t : Int, vs = [.int t] ∧ t ≤ 1000000000000 ∧ Q (.int t) H
theorem ok__checked (W : Gs K mg) (h : Has K mg "_checked" (topS 15) ["total"]) : Good P w K mg base 1 "_checked" ["total"] (spChecked) := by
  have sc : FnScope ["total"] ["total"] (defScope (topS 15)) := ⟨rfl, rfl, rfl, by decide +kernel, rfl, by decide +kernel, by decide +kernel⟩
  have nd := sc.nd
  refine h.good sc (fun vs H Q E h => by obtain ⟨i, rfl, _⟩ := h; rfl) (fun f cdv A outer s H vs Q E hr h => ?_)
  obtain ⟨i, rfl, hyp⟩ := h
  refine ⟨_, (pss_cons (ps_if (pt_cmpR op_gt (pv 0) (pe_globE (by rfl) W.g_GREATEST_SIZE) (nomark _))
  (pss_one ps_never) pss_nil)
  (pss_one (ps_ret (pv 0)))), ?_⟩
  try dsimp only [cxOf, Cx.wish]
  obtain ⟨tt, q⟩ := hyp
  kc_close
  refine s_if ?_
  kc_close
  refine ifFalse (decide_eq_false (by omega)) ?_
  kc_close
  exact q
def prodI : List Int → Int
  | [] => 1
  | n :: ns => n * prodI ns
theorem prodI_app : ∀ a b : List Int, prodI (a ++ b) = prodI a * prodI b
  | [], b => by show prodI b = 1 * prodI b; omega
  | n :: a, b => by
    show n * prodI (a ++ b) = n * prodI a * prodI b
    rw [prodI_app a b, Int.mul_assoc]
theorem prodI_pos : ∀ {a : List Int}, (∀ n ∈ a, 1 ≤ n) → 1 ≤ prodI a
  | [], _ => Int.le_refl _
  | n :: a, h => by
    have h1 := h n (List.mem_cons_self ..)
    have h2 := prodI_pos fun m hm => h m (List.mem_cons_of_mem _ hm)
    have := Int.mul_le_mul h1 h2 (by omega) (by omega)
    show 1 ≤ n * prodI a
    omega
theorem prodI_take {ns : List Int} (h : ∀ n ∈ ns, 1 ≤ n) (i : Nat) : 1 ≤ prodI (ns.take i) ∧ prodI (ns.take i) ≤ prodI ns := by
  have e := prodI_app (ns.take i) (ns.drop i)
  rw [List.take_append_drop] at e
  have h1 := prodI_pos (a := ns.take i) fun m hm => h m (List.mem_of_mem_take hm)
  have h2 := prodI_pos (a := ns.drop i) fun m hm => h m (List.mem_of_mem_drop hm)
  refine ⟨h1, ?_⟩
  have := Int.mul_le_mul_of_nonneg_left h2 (by omega : (0 : Int) ≤ prodI (ns.take i))
  omega
theorem prodI_succ {ns : List Int} {i : Nat} {n : Int} (h : ns[i]? = some n) : prodI (ns.take (i + 1)) = prodI (ns.take i) * n := by
  rw [List.take_add_one, h, prodI_app]
  show prodI (ns.take i) * (n * 1) = _
  rw [Int.mul_one]
def spProduct (K : PySem.W.Frag) : Sp := fun vs H Q _ => ∃ a : Addr, vs = [.ref a] ∧ ∃ ns : List Int, SqL K H a (ns.map V.int) ∧ (∀ n ∈ ns, 1 ≤ n) ∧ prodI ns ≤ 1000000000000 ∧ Q (.int (prodI ns)) H
abbrev stPr (numbers total number : Option V := none) : L2.St := [numbers, total, number]
theorem ok__product (h : Has K mg "_product" (topS 14) ["numbers"]) (G__checked : Good P w K mg base 1 "_checked" ["total"] (spChecked)) : Good P w K mg base 2 "_product" ["numbers"] (spProduct K) := by
  have sc : FnScope ["numbers", "total", "number"] ["numbers"] (defScope (topS 14)) := ⟨rfl, rfl, rfl, by decide +kernel, rfl, by decide +kernel, by decide +kernel⟩
  have nd := sc.nd
  refine h.good sc (fun vs H Q E h => by obtain ⟨l, rfl, _⟩ := h; rfl) (fun f cdv A outer s H vs Q E hr h => ?_)
  obtain ⟨l, rfl, hyp⟩ := h
  refine ⟨_, (pss_cons (ps_set (i := 1) nd rfl (by first | exact .inl rfl | exact .inr rfl) pe_int)
  (pss_cons (ps_for PassesOwn.never rfl (pi_listK K (pv 0)) (pg_name (i := 2) nd rfl (by first | exact .inl rfl | exact .inr rfl))
  (pss_one (ps_set (i := 1) nd rfl (by first | exact .inl rfl | exact .inr rfl) (pe_callG G__checked (hr.mono (by first | decide | omega)) (by rfl) (pa_cons (pe_op op_mul (pv 1) (pv 2)) pa_nil)))))
  (pss_one (ps_ret (pv 1))))), ?_⟩
  try dsimp only [cxOf, Cx.wish]
  obtain ⟨ns, hn, h1, hp, q⟩ := hyp
  kc_close
  refine s_ilistv hn ?_
  refine w_list (xs := ns.map V.int) (fun i σ' H' => ∃ y, σ' = stPr (some (.ref l)) (some (.int (prodI (ns.take i)))) y ∧ H' = H) ⟨none, rfl, rfl⟩ (fun i σ' H' _ z => by
    obtain ⟨_, _, rfl⟩ := z
    exact hn) ?_ ?_
  · rintro i x _ _ ex ⟨y, rfl, rfl⟩
    rw [List.getElem?_map] at ex
    cases hj : ns[i]? with
    | none => rw [hj] at ex; cases ex
    | some n =>
      rw [hj] at ex
      have : x = V.int n := by injection ex with ex; exact ex.symm
      subst this
      have e := prodI_succ hj
      have t0 := prodI_take h1 i
      have t1 := prodI_take h1 (i + 1)
      have hm := List.mem_of_getElem? hj
      have n1 := h1 n hm
      kc_close
      refine ⟨_, rfl, by rw [← e]; omega, ?_⟩
      kc_close
      exact ⟨_, by rw [e]; rfl, rfl⟩
  · rintro _ _ ⟨y, rfl, rfl⟩
    kc_close
    rw [List.length_map, List.take_length]
    exact q
theorem w_revL {σ : L2.St} {H : Hp} {r : VK} {n : L2.St → Hp → Prop} {g : TG} {tb : TS} {a : Addr} {xs : List V} (Pv : Nat → L2.St → Hp → Prop) (h0 : Pv 0 σ H) (hq : ∀ i σ H, Pv i σ H → SqL K H a xs)
    (hs : ∀ (i : Nat) (x : V) (σ : L2.St) (H : Hp), i < xs.length → xs[xs.length - 1 - i]? = some x → Pv i σ H → g x σ H fun σ2 H2 => tb ⟨Pv (i + 1), r, n, Pv (i + 1)⟩ σ2 H2) (hd : ∀ σ H, Pv xs.length σ H → n σ H) : ForW g tb r n (Itv K a xs.length) σ H :=
  RT.for_Itv (D := ⟨n, r, fun _ _ => False, fun _ _ => False⟩) Pv h0 hq hs hd
/-- what is left of k behind the digits -/
def restN : Nat → List Nat → Nat
  | k, [] => k
  | k, b :: r => restN (k / b) r
theorem digR_app : ∀ (k : Nat) (a : List Nat) (b : Nat), digR k (a ++ [b]) = digR k a ++ [restN k a % b] ∧ restN k (a ++ [b]) = restN k a / b
  | k, [], b => ⟨rfl, rfl⟩
  | k, x :: a, b => by
    have := digR_app (k / x) a b
    exact ⟨by show k % x :: digR (k / x) (a ++ [b]) = _; rw [this.1]; rfl, this.2⟩
theorem rev_at {α : Type} {xs : List α} {i : Nat} (hi : i < xs.length) : xs[xs.length - 1 - i]? = xs.reverse[i]? := by
  rw [List.getElem?_reverse hi]
def spDigits (K : PySem.W.Frag) : Sp := fun vs H Q _ => ∃ (k : Nat) (b : Addr), vs = [.int (k : Int), .ref b] ∧ ∃ bs : List Nat, SqL K H b (bs.map fun (n : Nat) => V.int (n : Int)) ∧ bs.length ≤ 1000 ∧ (∀ n ∈ bs, 1 ≤ n ∧ n ≤ 1000000) ∧ ∀ H' p, Same H H' → H p = none → H' p = some (.lst ((digs k bs).map fun (n : Nat) => V.int (n : Int))) → Q (.ref p) H'
abbrev stDg (k bases digits base : Option V := none) : L2.St := [k, bases, digits, base]
theorem ok__digits (T : NoB mg) (h : Has K mg "_digits" (topS 21) ["k", "bases"]) : Good P w K mg base 1 "_digits" ["k", "bases"] (spDigits K) := by
  have sc : FnScope ["k", "bases", "digits", "base"] ["k", "bases"] (defScope (topS 21)) := ⟨rfl, rfl, rfl, by decide +kernel, rfl, by decide +kernel, by decide +kernel⟩
  have nd := sc.nd
  refine h.good sc (fun vs H Q E h => by obtain ⟨k, l, rfl, _⟩ := h; rfl) (fun f cdv A outer s H vs Q E hr h => ?_)
  obtain ⟨k, l, rfl, hyp⟩ := h
  refine ⟨_, (pss_cons (ps_set (i := 2) nd rfl (by first | exact .inl rfl | exact .inr rfl) (pe_lst pa_nil))
  (pss_cons (ps_for PassesOwn.never rfl (pi_revK K (by rfl) T.n_reversed (pv 1)) (pg_name (i := 3) nd rfl (by first | exact .inl rfl | exact .inr rfl))
  (pss_cons (ps_expr (pe_bmK K PySem.F.plainAttrs_list PySem.F.slot_list_append PySem.F.type_list_append mt_append (pv 2) (pa_cons (pe_op op_mod (pv 0) (pv 3)) pa_nil)))
  (pss_one (ps_set (i := 0) nd rfl (by first | exact .inl rfl | exact .inr rfl) (pe_op op_fdiv (pv 0) (pv 3))))))
  (pss_cons (ps_expr (pe_bm0K K PySem.F.plainAttrs_list PySem.F.slot_list_reverse PySem.F.type_list_reverse mt_reverse (pv 2)))
  (pss_one (ps_ret (pv 2)))))), ?_⟩
  try dsimp only [cxOf, Cx.wish]
  obtain ⟨bs, hb, hl, h1, q⟩ := hyp
  kc_close
  intro p2 H2 n2 s2 e2
  kc_close
  refine s_irevL (sql_same s2 hb) ?_
  refine w_revL (xs := bs.map fun (n : Nat) => V.int (n : Int)) (fun i σ' H' => ∃ y, σ' = stDg (some (.int (restN k (bs.reverse.take i) : Nat))) (some (.ref l)) (some (.ref p2)) y ∧ Same H H' ∧ H' p2 = some (.lst ((digR k (bs.reverse.take i)).map fun (n : Nat) => V.int (n : Int)))) ⟨none, rfl, s2, e2⟩ (fun i σ' H' z => by
    obtain ⟨_, _, s, _⟩ := z
    exact sql_same s hb) ?_ ?_
  · rintro i x _ H3 hi ex ⟨y, rfl, s3, e3⟩
    rw [List.length_map] at hi
    rw [List.length_map, List.getElem?_map, rev_at hi] at ex
    cases hj : bs.reverse[i]? with
    | none => rw [hj] at ex; cases ex
    | some n =>
      rw [hj] at ex
      have : x = V.int (n : Int) := by injection ex with ex; exact ex.symm
      subst this
      have hm := h1 n (List.mem_reverse.mp (List.mem_of_getElem? hj))
      have ha := digR_app k (bs.reverse.take i) n
      rw [show bs.reverse.take i ++ [n] = bs.reverse.take (i + 1) by rw [List.take_add_one, hj]; rfl] at ha
      have hlen : (digR k (bs.reverse.take i)).length ≤ 1000 := by
        rw [digR_len, List.length_take, List.length_reverse]
        omega
      have line : (1000 : Nat) < sizeLine := by decide
      kc_close
      refine s_append e3 (by rw [List.length_map]; omega) fun H4 b4 e4 => ?_
      kc_close
      refine ⟨some (.int (n : Int)), ?_, But.same b4 s3 n2, ?_⟩
      · rw [ha.2]; rfl
      · rw [e4, ha.1, List.map_append]; rfl
  · rintro _ H3 ⟨y, rfl, s3, e3⟩
    kc_close
    refine ⟨p2, _, rfl, rfl, e3, ?_⟩
    kc_close
    refine q _ p2 (But.same (c := p2) (fun b o ne e => by rw [upd_ne ne]; exact e) s3 n2) n2 ?_
    rw [upd_same, ← List.map_reverse]
    unfold digs
    rw [List.length_map, ← List.length_reverse, List.take_length]
end
end K1
end
section
open PySem PySem.Spec PyProof.Rows L2 Z
local macro_rules | `(tactic| ktr_room) => `(tactic| first
  | assumption
  | (apply SqT.of; assumption)
  | (apply SqL.of; assumption)
  | (apply sqt_same; assumption; ktr_room)
  | (apply sql_same; assumption; ktr_room)
  | (apply sqt_but; assumption; assumption; ktr_room)
  | (apply sql_but; assumption; assumption; ktr_room)
  | (apply Same.of_; assumption; ktr_room)
  | (apply But.of_; assumption; assumption; ktr_room)
  | exact same_refl
  | exact but_refl
  | (apply same_tr; assumption; ktr_room)
  | (apply same_but; assumption; ktr_room; assumption)
  | (apply but_tr; assumption; ktr_room)
  | (apply but_trB; assumption; ktr_room))
local macro_rules | `(tactic| ktr_units) => `(tactic| first | with_reducible assumption | omega | rfl | exact ⟨by omega, by omega⟩ | exact .inl ⟨by omega, by omega⟩ | exact .inr ⟨by omega, by omega⟩ | exact ⟨by decide, by decide, by decide⟩ | exact Nat.le_of_ble_eq_true rfl | decide)
local macro_rules | `(tactic| kc_close) => `(tactic| repeat (with_reducible first
  | refine s_var (by with_unfolding_all rfl) ?_
  | refine s_c ?_
  | refine s_op ?_
  | refine s_rI0 ?_
  | refine s_asg ?_
  | refine s_gname ?_
  | refine s_seq ?_
  | refine s_cons ?_
  | refine s_nil ?_
  | refine s_call ?_
  | refine s_ret ?_
  | o_fieldsN
  | refine s_test ?_
  | refine s_bl ?_
  | refine s_rI (by with_unfolding_all (ktr_units)) ?_
  | refine s_rEq rfl ?_
  | refine s_rNe rfl ?_
  | refine s_cb ?_
  | refine s_int1 ?_
  | refine s_intB ?_
  | refine s_max2 ?_
  | refine s_min2 ?_
  | refine s_tup ?_
  | refine s_lst ?_
  | refine s_newT (by with_unfolding_all first | decide | exact Nat.le_of_ble_eq_true rfl) ?_
  | refine s_newL (by with_unfolding_all first | decide | exact Nat.le_of_ble_eq_true rfl) ?_
  | refine s_ixT (by ktr_room) (by with_unfolding_all rfl) ?_
  | refine s_ixL (by ktr_room) (by with_unfolding_all rfl) ?_
  | refine s_lenT (by ktr_room) ?_
  | refine s_lenL (by ktr_room) ?_
  | refine s_un ?_
  | refine s_rU ?_
  | refine s_and ?_
  | refine s_or ?_
  | refine s_not ?_
  | refine s_tB ?_
  | refine s_tru ?_
  | refine s_drop ?_
  | refine s_next ?_
  | refine s_for ?_
  | refine s_rng1 ?_
  | refine s_rng2 ?_
  | refine s_rng3 ?_
  | refine s_ilist ?_
  | refine s_itup ?_
  | refine s_iany ?_
  | refine s_ienum ?_
  | refine s_irev ?_
  | refine s_gcons ?_
  | refine s_gnil ?_
  | refine s_gtup (by ktr_room) (by with_unfolding_all rfl) ?_
  | refine s_gsub ?_
  | refine s_augS ?_
  | refine s_aug (by with_unfolding_all rfl) ?_
  | refine s_ipI ?_
  | refine s_bm ?_
  | refine s_bm0 ?_
  | refine s_tyL (by ktr_room) ?_
  | refine s_tyL0 (by ktr_room) ?_
  | refine s_sl ?_
  | refine s_part ?_
  | refine s_partv ?_
  | refine s_noPart ?_
  | refine s_lc ?_
  | refine s_yes ?_
  | refine s_wipe (by with_unfolding_all rfl) ?_
  | refine iteT ?_
  | refine s_retN ?_
  | refine s_isN ?_
  | refine s_truB ?_
  | refine s_isB2 ?_
  | refine s_notB2 ?_
  | refine s_revT ?_
  | refine s_andV ?_
  | refine s_orV ?_
  | refine s_ifE ?_
  | refine s_notK ?_
  | refine s_notN ?_
  | refine s_truL (by ktr_room) ?_
  | refine s_truT (by ktr_room) ?_))
open K1
local macro_rules | `(tactic| ktr_room) => `(tactic| first
  | (apply DR.same; assumption; ktr_room)
  | (apply sqt_butD; assumption; ktr_room; ktr_room))
open K1
local macro_rules | `(tactic| o_fieldsN) => `(tactic| with_reducible first
  | refine s_tyS ?_
  | refine s_fld ?_)
namespace K1
open TL ML
def nmL : Lot → Option (Int × List Str)
  | .order xs => some (xs.length, xs)
  | .pick _ s xs => some (s, xs)
  | _ => none
section
variable {P : Program} {w : World} {K : PySem.W.Frag} {mg : Str → Option Value} {base : Heap}
def spNamesOf (K : PySem.W.Frag) : Sp := fun vs H Q _ => ∃ v : V, vs = [v] ∧ ∃ e s xs, nmL e = some (s, xs) ∧ Im K H (lotD e) v ∧ (∀ k s xs, e = .pick k s xs → k ≤ 2) ∧
  ∀ H' T nv, Same H H' → H T = none → H' T = some (.tup [.int s, .ref nv]) → SqT K H' nv (xs.map V.str) → Q (.ref T) H'
theorem ok_names_of (T : NoB mg) (h : Has K mg "names_of" (topS 8) ["e"]) : Good P w K mg base 1 "names_of" ["e"] (spNamesOf K) := by
  have sc : FnScope ["e"] ["e"] (defScope (topS 8)) := ⟨rfl, rfl, rfl, by decide +kernel, rfl, by decide +kernel, by decide +kernel⟩
  have nd := sc.nd
  refine h.good sc (fun vs H Q E h => by obtain ⟨v, rfl, _⟩ := h; rfl) (fun f cdv A outer s H vs Q E hr h => ?_)
  obtain ⟨v, rfl, hyp⟩ := h
  refine ⟨_, (pss_cons (ps_if (pt_cmpR op_eq (pe_ix (ix_tupK K) (pv 0) pe_int (fun _ _ => rfl)) pe_str (nomark _))
  (pss_one (ps_ret (pe_tup (pa_cons (pe_callB (c_lenK K) (by rfl) T.n_len (by decide +kernel) (pa_cons (pe_ix (ix_tupK K) (pv 0) pe_int (fun _ _ => rfl)) pa_nil)) (pa_cons (pe_ix (ix_tupK K) (pv 0) pe_int (fun _ _ => rfl)) pa_nil))))) pss_nil)
  (pss_one (ps_ret (pe_tup (pa_cons (pe_ix (ix_tupK K) (pv 0) pe_int (fun _ _ => rfl)) (pa_cons (pe_ix (ix_tupK K) (pv 0) pe_int (fun _ _ => rfl)) pa_nil)))))), ?_⟩
  try dsimp only [cxOf, Cx.wish]
  obtain ⟨e, s, xs, he, him, hk, q⟩ := hyp
  cases e with
  | order ys =>
    injection he with he
    injection he with h1 h2
    subst h1 h2
    obtain ⟨a, _, rfl, ha, _, _, rfl, rfl, nv, _, rfl, hnm, rfl⟩ := him
    obtain ⟨na, nvs, rfl, hna, hni⟩ := hnm
    have env := ims_strsV hni
    subst env
    kc_close
    refine s_if ?_
    kc_close
    refine ifTrue (by decide +kernel) ?_
    kc_close
    intro p H' n1 s1 e1
    rw [List.length_map] at e1
    exact q H' p na s1 n1 e1 (sqt_same s1 hna)
  | pick k s' ys =>
    injection he with he
    injection he with h1 h2
    subst h1 h2
    obtain ⟨a, _, rfl, ha, _, _, rfl, rfl, _, _, rfl, rfl, nv, _, rfl, hnm, rfl⟩ := him
    obtain ⟨na, nvs, rfl, hna, hni⟩ := hnm
    have env := ims_strsV hni
    subst env
    have k2 := hk _ _ _ rfl
    rcases (show k = 0 ∨ k = 1 ∨ k = 2 by omega) with rfl | rfl | rfl
    all_goals
      kc_close
      refine s_if ?_
      kc_close
      refine ifFalse (by decide +kernel) ?_
      kc_close
      intro p H' n1 s1 e1
      exact q H' p na s1 n1 e1 (sqt_same s1 hna)
  | sure _ => cases he
  | prizes _ _ => cases he
  | seats _ _ => cases he
  | both _ => cases he
  | among _ _ => cases he
def agL : Lot → Bool
  | .pick k _ _ => decide (k = 2)
  | _ => false
def headL : Lot → Str
  | .order _ => Str.ofString "order"
  | .pick k _ _ => kindS k
  | _ => Str.ofString ""
theorem nm_head {K : PySem.W.Frag} {H : Hp} {e : Lot} {s : Int} {xs : List Str} {v : V} (h : nmL e = some (s, xs)) (i : Im K H (lotD e) v) : ∃ a r, v = .ref a ∧ SqT K H a (.str (headL e) :: r) := by
  cases e with
  | order ys =>
    obtain ⟨a, _, rfl, ha, _, _, rfl, rfl, _⟩ := i
    exact ⟨a, _, rfl, ha⟩
  | pick k s' ys =>
    obtain ⟨a, _, rfl, ha, _, _, rfl, rfl, _⟩ := i
    exact ⟨a, _, rfl, ha⟩
  | sure _ => cases h
  | prizes _ _ => cases h
  | seats _ _ => cases h
  | both _ => cases h
  | among _ _ => cases h
theorem head_ag {e : Lot} {s : Int} {xs : List Str} (h : nmL e = some (s, xs)) (hk : ∀ k s xs, e = .pick k s xs → k ≤ 2) : decide (headL e = Str.ofString "again") = agL e := by
  cases e with
  | order ys =>
    show decide (Str.ofString "order" = Str.ofString "again") = false
    decide +kernel
  | pick k s' ys =>
    have := hk _ _ _ rfl
    show decide (kindS k = Str.ofString "again") = decide (k = 2)
    clear h hk
    rcases (show k = 0 ∨ k = 1 ∨ k = 2 by omega) with rfl | rfl | rfl <;> decide +kernel
  | sure _ => cases h
  | prizes _ _ => cases h
  | seats _ _ => cases h
  | both _ => cases h
  | among _ _ => cases h
theorem rep_flat (x : V) (m : Nat) : (List.replicate m [x]).flatten = (List.range m).map fun _ => x := by
  induction m with
  | zero => rfl
  | succ m ih =>
    rw [List.replicate_succ', List.flatten_append, ih, List.range_succ, List.map_append]
    rfl
theorem none_back {H H' : Hp} {p : Addr} (s : Same H H') (n : H' p = none) : H p = none := by
  cases h : H p with
  | none => rfl
  | some o => rw [s _ _ h] at n; cases n
def spBasesOf (K : PySem.W.Frag) : Sp := fun vs H Q _ => ∃ v : V, vs = [v] ∧ ∃ e s xs, nmL e = some (s, xs) ∧ Im K H (lotD e) v ∧ (∀ k s xs, e = .pick k s xs → k ≤ 2) ∧ 0 ≤ s ∧ s ≤ 6 ∧ xs.length ≤ 12 ∧ (agL e = false → s.toNat ≤ xs.length) ∧
  ∀ H' p, Same H H' → H p = none → H' p = some (.lst ((basesN (agL e) xs.length s.toNat).map fun (n : Nat) => V.int (n : Int))) → Q (.ref p) H'
theorem ok_bases_of (T : NoB mg) (h : Has K mg "bases_of" (topS 9) ["e"]) (G_names_of : Good P w K mg base 1 "names_of" ["e"] (spNamesOf K)) : Good P w K mg base 2 "bases_of" ["e"] (spBasesOf K) := by
  have sc : FnScope ["e", "s", "names", "at"] ["e"] (defScope (topS 9)) := ⟨rfl, rfl, rfl, by decide +kernel, rfl, by decide +kernel, by decide +kernel⟩
  have nd := sc.nd
  refine h.good sc (fun vs H Q E h => by obtain ⟨v, rfl, _⟩ := h; rfl) (fun f cdv A outer s H vs Q E hr h => ?_)
  obtain ⟨v, rfl, hyp⟩ := h
  refine ⟨_, (pss_cons (ps_asg (pe_callG G_names_of (hr.mono (by first | decide | omega)) (by rfl) (pa_cons (pv 0) pa_nil)) (pg_tupK K 2 (by rfl) (pgs_cons (pg_name (i := 1) nd rfl (by first | exact .inl rfl | exact .inr rfl)) (pgs_cons (pg_name (i := 2) nd rfl (by first | exact .inl rfl | exact .inr rfl)) pgs_nil))))
  (pss_cons (ps_if (pt_cmpR op_eq (pe_ix (ix_tupK K) (pv 0) pe_int (fun _ _ => rfl)) pe_str (nomark _))
  (pss_one (ps_ret (pe_op op_rep (pe_lst (pa_cons (pe_callB (c_lenK K) (by rfl) T.n_len (by decide +kernel) (pa_cons (pv 2) pa_nil)) pa_nil)) (pv 1)))) pss_nil)
  (pss_one (ps_ret (pe_lc (own := [("at", 3)]) rfl nd (pi_range1 rfl T.n_range (pa_cons (pv 1) pa_nil)) (blkOk_by (own := [("at", 3)]) (N := ["e", "s", "names", "at"]) (by kernel_rfl)) (fun _ _ _ _ _ => (pg_name (i := 3) nd rfl (by first | exact .inl rfl | exact .inr rfl))) (fun _ _ _ _ _ => pts_nil) (fun _ _ _ _ _ => (pe_op op_sub (pe_callB (c_lenK K) (by rfl) T.n_len (by decide +kernel) (pa_cons (pv 2) pa_nil)) (pv 3)))))))), ?_⟩
  try dsimp only [cxOf, Cx.wish]
  obtain ⟨e, s, xs, he, him, hk, s0, s6, n12, hsn, q⟩ := hyp
  kc_close
  refine ⟨_, rfl, e, s, xs, he, him, hk, fun H1 T nv s1 n1 eT hnv => ?_⟩
  obtain ⟨a, r, rfl, ha⟩ := nm_head he him
  have hag := head_ag he hk
  have ha1 := sqt_same s1 ha
  kc_close
  refine s_if ?_
  kc_close
  refine s_ixT ha1 (at_gen (k := 0) rfl rfl) ?_
  kc_close
  rw [show decide (V.str (headL e) = V.str (Str.ofString "again")) = agL e by rw [← hag]; exact decide_eq_decide.mpr ⟨fun z => by injection z, fun z => by rw [z]⟩]
  have line : (1000 : Nat) < sizeLine := by decide
  cases hg : agL e with
  | true =>
    refine ifTrue rfl ?_
    kc_close
    rw [List.length_map]
    intro p2 H2 n2 s2 e2
    kc_close
    refine s_rep e2 (by omega) (by omega) (by show 1 * s.toNat ≤ _; omega) fun p3 H3 n3 s3 e3 => ?_
    refine q H3 p3 ((s1.trans s2).trans s3) (none_back ((s1.trans s2)) n3) ?_
    rw [e3, hg]
    unfold basesN
    rw [List.map_map]
    show some (HO.lst _) = some (HO.lst _)
    congr 2
    exact rep_flat _ _
  | false =>
    refine ifFalse (by decide) ?_
    kc_close
    have hsn := hsn hg
    refine s_rng1v (by omega) (by omega) ?_
    refine l_mapR (fun j => V.int ((xs.length - j : Nat) : Int)) (by omega) ?_ ?_
    · intro D' N' i H' hi s' k'
      have hnv' := sqt_same s' hnv
      kc_close
      rw [List.length_map, show (xs.length : Int) - (0 + (i : Int)) = ((xs.length - i : Nat) : Int) by omega]
      exact k' _ (Same.refl _)
    intro Lf H2 nLf s2 eLf
    kc_close
    refine q H2 Lf (s1.trans s2) (none_back s1 nLf) ?_
    rw [eLf, hg]
    unfold basesN
    rw [List.map_map]
    rfl
def spSetsOf : Sp := fun vs H Q _ => ∃ m s : Int, vs = [.int m, .int s] ∧ 0 ≤ m ∧ m ≤ 100 ∧ s ≤ 100 ∧ Q (.int (PySem.W.mcComb m (if 0 < s then s else 0))) H
theorem ok_sets_of (T : NoB mg) (h : Has K mg "sets_of" (topS 10) ["many", "s"]) : Good P w K mg base 1 "sets_of" ["many", "s"] (spSetsOf) := by
  have sc : FnScope ["many", "s"] ["many", "s"] (defScope (topS 10)) := ⟨rfl, rfl, rfl, by decide +kernel, rfl, by decide +kernel, by decide +kernel⟩
  have nd := sc.nd
  refine h.good sc (fun vs H Q E h => by obtain ⟨a, b, rfl, _⟩ := h; rfl) (fun f cdv A outer s H vs Q E hr h => ?_)
  obtain ⟨a, b, rfl, hyp⟩ := h
  refine ⟨_, (pss_one (ps_ret (pe_callBfun cr_comb (by rfl) T.c_comb (pa_cons (pv 0) (pa_cons (pe_callB (c_max2 rfl) (by rfl) T.n_max (by decide +kernel) (pa_cons pe_int (pa_cons (pv 1) pa_nil))) pa_nil))))), ?_⟩
  try dsimp only [cxOf, Cx.wish]
  obtain ⟨m0, m1, s1, q⟩ := hyp
  kc_close
  refine s_comb (by omega) (by split <;> omega) (by omega) (by split <;> omega) ?_
  kc_close
  exact q
end
end K1
end
section
open PySem PySem.Spec PyProof.Rows L2 Z
local macro_rules | `(tactic| ktr_room) => `(tactic| first
  | assumption
  | (apply SqT.of; assumption)
  | (apply SqL.of; assumption)
  | (apply sqt_same; assumption; ktr_room)
  | (apply sql_same; assumption; ktr_room)
  | (apply sqt_but; assumption; assumption; ktr_room)
  | (apply sql_but; assumption; assumption; ktr_room)
  | (apply Same.of_; assumption; ktr_room)
  | (apply But.of_; assumption; assumption; ktr_room)
  | exact same_refl
  | exact but_refl
  | (apply same_tr; assumption; ktr_room)
  | (apply same_but; assumption; ktr_room; assumption)
  | (apply but_tr; assumption; ktr_room)
  | (apply but_trB; assumption; ktr_room))
local macro_rules | `(tactic| ktr_units) => `(tactic| first | with_reducible assumption | omega | rfl | exact ⟨by omega, by omega⟩ | exact .inl ⟨by omega, by omega⟩ | exact .inr ⟨by omega, by omega⟩ | exact ⟨by decide, by decide, by decide⟩ | exact Nat.le_of_ble_eq_true rfl | decide)
local macro_rules | `(tactic| kc_close) => `(tactic| repeat (with_reducible first
  | refine s_var (by with_unfolding_all rfl) ?_
  | refine s_c ?_
  | refine s_op ?_
  | refine s_rI0 ?_
  | refine s_asg ?_
  | refine s_gname ?_
  | refine s_seq ?_
  | refine s_cons ?_
  | refine s_nil ?_
  | refine s_call ?_
  | refine s_ret ?_
  | o_fieldsN
  | refine s_test ?_
  | refine s_bl ?_
  | refine s_rI (by with_unfolding_all (ktr_units)) ?_
  | refine s_rEq rfl ?_
  | refine s_rNe rfl ?_
  | refine s_cb ?_
  | refine s_int1 ?_
  | refine s_intB ?_
  | refine s_max2 ?_
  | refine s_min2 ?_
  | refine s_tup ?_
  | refine s_lst ?_
  | refine s_newT (by with_unfolding_all first | decide | exact Nat.le_of_ble_eq_true rfl) ?_
  | refine s_newL (by with_unfolding_all first | decide | exact Nat.le_of_ble_eq_true rfl) ?_
  | refine s_ixT (by ktr_room) (by with_unfolding_all rfl) ?_
  | refine s_ixL (by ktr_room) (by with_unfolding_all rfl) ?_
  | refine s_lenT (by ktr_room) ?_
  | refine s_lenL (by ktr_room) ?_
  | refine s_un ?_
  | refine s_rU ?_
  | refine s_and ?_
  | refine s_or ?_
  | refine s_not ?_
  | refine s_tB ?_
  | refine s_tru ?_
  | refine s_drop ?_
  | refine s_next ?_
  | refine s_for ?_
  | refine s_rng1 ?_
  | refine s_rng2 ?_
  | refine s_rng3 ?_
  | refine s_ilist ?_
  | refine s_itup ?_
  | refine s_iany ?_
  | refine s_ienum ?_
  | refine s_irev ?_
  | refine s_gcons ?_
  | refine s_gnil ?_
  | refine s_gtup (by ktr_room) (by with_unfolding_all rfl) ?_
  | refine s_gsub ?_
  | refine s_augS ?_
  | refine s_aug (by with_unfolding_all rfl) ?_
  | refine s_ipI ?_
  | refine s_bm ?_
  | refine s_bm0 ?_
  | refine s_tyL (by ktr_room) ?_
  | refine s_tyL0 (by ktr_room) ?_
  | refine s_sl ?_
  | refine s_part ?_
  | refine s_partv ?_
  | refine s_noPart ?_
  | refine s_lc ?_
  | refine s_yes ?_
  | refine s_wipe (by with_unfolding_all rfl) ?_
  | refine iteT ?_
  | refine s_retN ?_
  | refine s_isN ?_
  | refine s_truB ?_
  | refine s_isB2 ?_
  | refine s_notB2 ?_
  | refine s_revT ?_
  | refine s_andV ?_
  | refine s_orV ?_
  | refine s_ifE ?_
  | refine s_notK ?_
  | refine s_notN ?_
  | refine s_truL (by ktr_room) ?_
  | refine s_truT (by ktr_room) ?_))
open K1
local macro_rules | `(tactic| ktr_room) => `(tactic| first
  | (apply DR.same; assumption; ktr_room)
  | (apply sqt_butD; assumption; ktr_room; ktr_room))
open K1
local macro_rules | `(tactic| o_fieldsN) => `(tactic| with_reducible first
  | refine s_tyS ?_
  | refine s_fld ?_)
namespace K1
open TL ML
theorem ch_zero : ∀ {n s : Nat}, n < s → ch n s = 0
  | _, 0, h => absurd h (Nat.not_lt_zero _)
  | 0, s + 1, _ => rfl
  | n + 1, s + 1, h => by
    show ch n s + ch n (s + 1) = 0
    rw [ch_zero (by omega), ch_zero (by omega)]
theorem mc_small : ∀ n : Fin 13, ∀ s : Fin 13, PySem.W.mcComb ((n.val : Nat) : Int) ((s.val : Nat) : Int) = (ch n.val s.val : Nat) := by decide +kernel
theorem mc_ch {n s : Nat} (h : n ≤ 12) : PySem.W.mcComb (n : Int) (s : Int) = (ch n s : Nat) := by
  by_cases hs : s ≤ 12
  · exact mc_small ⟨n, by omega⟩ ⟨s, by omega⟩
  · rw [ch_zero (by omega)]
    unfold PySem.W.mcComb
    rw [if_pos (by omega)]
    rfl
def MkR (C : Addr) (sp : Sp) (vs : List V) (H1 : Hp) (Q : VK) : Prop := ∀ x dx, H1 x = none → H1 dx = none → dx ≠ x → sp (.ref x :: (vs ++ [])) (upd (upd H1 dx (.own x)) x (.ins C dx [])) (fun v H2 => v = .non ∧ Q (.ref x) H2) E0
section
variable {K : PySem.W.Frag} {σ : L2.St} {H : Hp} {Q : VK}
theorem s_mkG {as : List Str} {sp : Addr → Sp} {t : TA} (h : ∀ C, Cls K C → (∀ a ∈ as, NoAttr K C a) → t σ H fun vs H1 => MkR C (sp C) vs H1 Q) : tMakeG K as sp t σ H Q := h
theorem s_mkM {C : Addr} (cl : Cls K C) (na : ∀ a ∈ mAs, NoAttr K C a) {l t w pt s : V} (h : ∀ x H', H x = none → Same H H' → OAt K H' x (mF l t w pt s) → Q (.ref x) H') : MkR C (spMInit C) [l, t, w, pt, s] H Q := by
  intro x dx nx nd ne
  refine ⟨x, dx, l, t, w, pt, s, rfl, upd_same, fun H' hb hx => ⟨rfl, h x H' nx (fun b o e => ?_) ⟨C, dx, cl, fun f v e => na f (mF_no e), hx⟩⟩⟩
  have bx : b ≠ x := fun z => by rw [z, nx] at e; cases e
  have bd : b ≠ dx := fun z => by rw [z, nd] at e; cases e
  exact hb b o (by rw [upd_ne bx, upd_ne bd]; exact e) bx
end
/-- how many outcomes a lot that stands by itself has -/
def sizeF : Lot → Int
  | .sure _ => 1
  | .seats _ rows => (rows.map fun (r : Str × Int) => r.2).sum
  | .pick k s xs => if k = 1 then (ch xs.length s.toNat : Nat) else prodI ((basesN (decide (k = 2)) xs.length s.toNat).map Int.ofNat)
  | .order xs => prodI ((basesN false xs.length xs.length).map Int.ofNat)
  | _ => 0
section
variable {P : Program} {w : World} {K : PySem.W.Frag} {mg : Str → Option Value} {base : Heap}
theorem bases_pos {ag : Bool} {n s : Nat} (h : ag = false → s ≤ n) (h2 : ag = true → 0 < n) : ∀ x ∈ (basesN ag n s).map Int.ofNat, 1 ≤ x := by
  intro x hx
  obtain ⟨b, hb, rfl⟩ := List.mem_map.mp hx
  unfold basesN at hb
  obtain ⟨i, hi, rfl⟩ := List.mem_map.mp hb
  have hi := List.mem_range.mp hi
  cases ag with
  | true => have := h2 rfl; show (1 : Int) ≤ ((n : Nat) : Int); omega
  | false => have := h rfl; show (1 : Int) ≤ ((n - i : Nat) : Int); omega
def spSizeSelf (K : PySem.W.Frag) : Sp := fun vs H Q _ => ∃ v : V, vs = [v] ∧ ∃ e, ROk 1 e ∧ Im K H (lotD e) v ∧ 1 ≤ sizeF e ∧ sizeF e ≤ 3000 ∧ ((∃ s r, e = .prizes s r) → False) ∧ ((∃ ls, e = .both ls) → False) ∧ ((∃ ws ls, e = .among ws ls) → False) ∧ ∀ H', Same H H' → Q (.int (sizeF e)) H'
theorem ok__size_by_itself (T : NoB mg) (h : Has K mg "_size_by_itself" (topS 11) ["e"]) (G__checked : Good P w K mg base 1 "_checked" ["total"] (spChecked)) (G_names_of : Good P w K mg base 1 "names_of" ["e"] (spNamesOf K)) (G_sets_of : Good P w K mg base 1 "sets_of" ["many", "s"] (spSetsOf)) (G__product : Good P w K mg base 2 "_product" ["numbers"] (spProduct K)) (G_bases_of : Good P w K mg base 2 "bases_of" ["e"] (spBasesOf K)) : Good P w K mg base 3 "_size_by_itself" ["e"] (spSizeSelf K) := by
  have sc : FnScope ["e", "s", "names", "_", "votes"] ["e"] (defScope (topS 11)) := ⟨rfl, rfl, rfl, by decide +kernel, rfl, by decide +kernel, by decide +kernel⟩
  have nd := sc.nd
  refine h.good sc (fun vs H Q E h => by obtain ⟨v, rfl, _⟩ := h; rfl) (fun f cdv A outer s H vs Q E hr h => ?_)
  obtain ⟨v, rfl, hyp⟩ := h
  refine ⟨_, (pss_cons (ps_if (pt_cmpR op_eq (pe_ix (ix_tupK K) (pv 0) pe_int (fun _ _ => rfl)) pe_str (nomark _))
  (pss_one (ps_ret pe_int)) pss_nil)
  (pss_cons (ps_if (pt_cmpR op_eq (pe_ix (ix_tupK K) (pv 0) pe_int (fun _ _ => rfl)) pe_str (nomark _))
  (pss_one (ps_ret (pe_callG G__checked (hr.mono (by first | decide | omega)) (by rfl) (pa_cons (pe_callB (cr_sumK K rfl) (by rfl) T.n_sum (by decide +kernel) (pa_cons (pe_lc (own := [("_", 3), ("votes", 4)]) rfl nd (pi_tupK K (pe_ix (ix_tupK K) (pv 0) pe_int (fun _ _ => rfl))) (blkOk_by (own := [("_", 3), ("votes", 4)]) (N := ["e", "s", "names", "_", "votes"]) (by kernel_rfl)) (fun _ _ _ _ _ => (pg_tupK K 2 (by rfl) (pgs_cons (pg_name (i := 3) nd rfl (by first | exact .inl rfl | exact .inr rfl)) (pgs_cons (pg_name (i := 4) nd rfl (by first | exact .inl rfl | exact .inr rfl)) pgs_nil)))) (fun _ _ _ _ _ => pts_nil) (fun _ _ _ _ _ => (pv 4))) pa_nil)) pa_nil)))) pss_nil)
  (pss_cons (ps_if (pt_cmpR op_eq (pe_ix (ix_tupK K) (pv 0) pe_int (fun _ _ => rfl)) pe_str (nomark _))
  (pss_cons (ps_asg (pe_callG G_names_of (hr.mono (by first | decide | omega)) (by rfl) (pa_cons (pv 0) pa_nil)) (pg_tupK K 2 (by rfl) (pgs_cons (pg_name (i := 1) nd rfl (by first | exact .inl rfl | exact .inr rfl)) (pgs_cons (pg_name (i := 2) nd rfl (by first | exact .inl rfl | exact .inr rfl)) pgs_nil))))
  (pss_one (ps_ret (pe_callG G__checked (hr.mono (by first | decide | omega)) (by rfl) (pa_cons (pe_callG G_sets_of (hr.mono (by first | decide | omega)) (by rfl) (pa_cons (pe_callB (c_lenK K) (by rfl) T.n_len (by decide +kernel) (pa_cons (pv 2) pa_nil)) (pa_cons (pv 1) pa_nil))) pa_nil))))) pss_nil)
  (pss_one (ps_ret (pe_callG G__product (hr.mono (by first | decide | omega)) (by rfl) (pa_cons (pe_callG G_bases_of (hr.mono (by first | decide | omega)) (by rfl) (pa_cons (pv 0) pa_nil)) pa_nil))))))), ?_⟩
  try dsimp only [cxOf, Cx.wish]
  obtain ⟨e, he, him, z1, z2, np, nb, na, q⟩ := hyp
  cases e with
  | sure x =>
    obtain ⟨a, _, rfl, ha, _, _, rfl, rfl, _, _, rfl, rfl, rfl⟩ := him
    kc_close
    refine s_if ?_
    kc_close
    refine ifTrue (by decide +kernel) ?_
    kc_close
    exact q _ (Same.refl _)
  | seats s rows =>
    obtain ⟨l6, s0, s1, hr, hpos, hmax⟩ := he
    have line : (100000 : Nat) < sizeLine := by decide
    obtain ⟨a, _, rfl, ha, _, _, rfl, rfl, _, _, rfl, rfl, vr, _, rfl, hvr, rfl⟩ := him
    obtain ⟨ra, vs, rfl, hra, his⟩ := hvr
    have lvs := Ims.length his
    rw [List.length_map] at lvs
    have hrow := rows_im his
    kc_close
    refine s_if ?_
    kc_close
    refine ifFalse (by decide +kernel) ?_
    kc_close
    refine s_if ?_
    kc_close
    refine ifTrue (by decide +kernel) ?_
    kc_close
    refine s_itupv hra ?_
    refine l_mapT (fun i => V.int ((rows.map (·.2)).getD i 0)) hra (by omega) ?_ ?_
    · intro D N' i y H' e s' k'
      obtain ⟨r, b, er, rfl, hb⟩ := hrow i y e
      rw [List.getD_eq_getElem?_getD, List.getElem?_map, er] at k'
      have hb' := sqt_same s' hb
      kc_close
      exact k' _ (Same.refl _)
    intro B H2 nB s2 eB
    rw [lvs, row_ints (K := K)] at eB
    kc_close
    refine s_sum (SqL.of eB) ?_
    have e : sizeF (.seats s rows) = (rows.map (·.2)).sum := rfl
    kc_close
    refine ⟨_, rfl, by omega, ?_⟩
    kc_close
    rw [← e]
    exact q _ s2
  | order xs =>
    obtain ⟨nd, n6, hx⟩ := he
    have him0 := him
    obtain ⟨a, _, rfl, ha, _, _, rfl, rfl, nv, _, rfl, hnm, rfl⟩ := him
    kc_close
    refine s_if ?_
    kc_close
    refine ifFalse (by decide +kernel) ?_
    kc_close
    refine s_if ?_
    kc_close
    refine ifFalse (by decide +kernel) ?_
    kc_close
    refine s_if ?_
    kc_close
    refine ifFalse (by decide +kernel) ?_
    kc_close
    refine ⟨_, rfl, .order xs, _, xs, rfl, him0, (by intro k s xs h; cases h), by omega, by omega, by omega, (by intro _; omega), fun H1 p s1 n1 e1 => ?_⟩
    kc_close
    have agf : agL (.order xs) = false := rfl
    rw [agf, Int.toNat_natCast] at e1
    refine ⟨p, rfl, (basesN false xs.length xs.length).map Int.ofNat, ?_, bases_pos (fun _ => Nat.le_refl _) (fun h => by cases h), by have : sizeF (.order xs) = prodI ((basesN false xs.length xs.length).map Int.ofNat) := rfl; omega, ?_⟩
    · rw [List.map_map]
      exact SqL.of e1
    · exact q _ s1
  | pick k s xs =>
    obtain ⟨nd, n0, n6, s0, k2, hk1, hk2, hx⟩ := he
    have him0 := him
    obtain ⟨a, _, rfl, ha, _, _, rfl, rfl, _, _, rfl, rfl, nv, _, rfl, hnm, rfl⟩ := him
    rcases (show k = 0 ∨ k = 1 ∨ k = 2 by omega) with rfl | rfl | rfl
    · kc_close
      refine s_if ?_
      kc_close
      refine ifFalse (by decide +kernel) ?_
      kc_close
      refine s_if ?_
      kc_close
      refine ifFalse (by decide +kernel) ?_
      kc_close
      refine s_if ?_
      kc_close
      refine ifFalse (by decide +kernel) ?_
      kc_close
      have hs := hk1 (by omega)
      refine ⟨_, rfl, .pick 0 s xs, _, xs, rfl, him0, (by intro k s xs h; injection h; omega), by omega, by omega, by omega, (by intro _; omega), fun H1 p s1 n1 e1 => ?_⟩
      kc_close
      refine ⟨p, rfl, (basesN false xs.length s.toNat).map Int.ofNat, ?_, bases_pos (fun _ => by omega) (fun h => by cases h), by have : sizeF (.pick 0 s xs) = prodI ((basesN false xs.length s.toNat).map Int.ofNat) := rfl; omega, ?_⟩
      · rw [List.map_map]
        exact SqL.of e1
      · exact q _ s1
    · kc_close
      refine s_if ?_
      kc_close
      refine ifFalse (by decide +kernel) ?_
      kc_close
      refine s_if ?_
      kc_close
      refine ifFalse (by decide +kernel) ?_
      kc_close
      refine s_if ?_
      kc_close
      refine ifTrue (by decide +kernel) ?_
      kc_close
      refine ⟨_, rfl, .pick 1 s xs, _, xs, rfl, him0, (by intro k s xs h; injection h; omega), fun H1 T nw s1 n1 eT hnw => ?_⟩
      kc_close
      rw [List.length_map]
      have hs := hk1 (by omega)
      have e : sizeF (.pick 1 s xs) = (ch xs.length s.toNat : Nat) := rfl
      have hc : PySem.W.mcComb (xs.length : Int) (if 0 < s then s else 0) = (ch xs.length s.toNat : Nat) := by
        rw [show (if 0 < s then s else 0) = ((s.toNat : Nat) : Int) by split <;> omega]
        exact mc_ch (by omega)
      refine ⟨_, _, rfl, by omega, by omega, by omega, ?_⟩
      rw [hc, ← e]
      kc_close
      refine ⟨_, rfl, by omega, ?_⟩
      exact q _ s1
    · kc_close
      refine s_if ?_
      kc_close
      refine ifFalse (by decide +kernel) ?_
      kc_close
      refine s_if ?_
      kc_close
      refine ifFalse (by decide +kernel) ?_
      kc_close
      refine s_if ?_
      kc_close
      refine ifFalse (by decide +kernel) ?_
      kc_close
      have hs := hk2 rfl
      refine ⟨_, rfl, .pick 2 s xs, _, xs, rfl, him0, (by intro k s xs h; injection h; omega), by omega, by omega, by omega, (by intro h; cases h), fun H1 p s1 n1 e1 => ?_⟩
      kc_close
      refine ⟨p, rfl, (basesN true xs.length s.toNat).map Int.ofNat, ?_, bases_pos (fun h => by cases h) (fun h => n0), by have : sizeF (.pick 2 s xs) = prodI ((basesN true xs.length s.toNat).map Int.ofNat) := rfl; omega, ?_⟩
      · rw [List.map_map]
        exact SqL.of e1
      · exact q _ s1
  | prizes s r => exact (np ⟨_, _, rfl⟩).elim
  | both ls => exact (nb ⟨_, rfl⟩).elim
  | among ws ls => exact (na ⟨_, _, rfl⟩).elim
end
end K1
end
section
open PySem PySem.Spec PyProof.Rows L2 Z
local macro_rules | `(tactic| ktr_room) => `(tactic| first
  | assumption
  | (apply SqT.of; assumption)
  | (apply SqL.of; assumption)
  | (apply sqt_same; assumption; ktr_room)
  | (apply sql_same; assumption; ktr_room)
  | (apply sqt_but; assumption; assumption; ktr_room)
  | (apply sql_but; assumption; assumption; ktr_room)
  | (apply Same.of_; assumption; ktr_room)
  | (apply But.of_; assumption; assumption; ktr_room)
  | exact same_refl
  | exact but_refl
  | (apply same_tr; assumption; ktr_room)
  | (apply same_but; assumption; ktr_room; assumption)
  | (apply but_tr; assumption; ktr_room)
  | (apply but_trB; assumption; ktr_room))
local macro_rules | `(tactic| ktr_units) => `(tactic| first | with_reducible assumption | omega | rfl | exact ⟨by omega, by omega⟩ | exact .inl ⟨by omega, by omega⟩ | exact .inr ⟨by omega, by omega⟩ | exact ⟨by decide, by decide, by decide⟩ | exact Nat.le_of_ble_eq_true rfl | decide)
local macro_rules | `(tactic| kc_close) => `(tactic| repeat (with_reducible first
  | refine s_var (by with_unfolding_all rfl) ?_
  | refine s_c ?_
  | refine s_op ?_
  | refine s_rI0 ?_
  | refine s_asg ?_
  | refine s_gname ?_
  | refine s_seq ?_
  | refine s_cons ?_
  | refine s_nil ?_
  | refine s_call ?_
  | refine s_ret ?_
  | o_fieldsN
  | refine s_test ?_
  | refine s_bl ?_
  | refine s_rI (by with_unfolding_all (ktr_units)) ?_
  | refine s_rEq rfl ?_
  | refine s_rNe rfl ?_
  | refine s_cb ?_
  | refine s_int1 ?_
  | refine s_intB ?_
  | refine s_max2 ?_
  | refine s_min2 ?_
  | refine s_tup ?_
  | refine s_lst ?_
  | refine s_newT (by with_unfolding_all first | decide | exact Nat.le_of_ble_eq_true rfl) ?_
  | refine s_newL (by with_unfolding_all first | decide | exact Nat.le_of_ble_eq_true rfl) ?_
  | refine s_ixT (by ktr_room) (by with_unfolding_all rfl) ?_
  | refine s_ixL (by ktr_room) (by with_unfolding_all rfl) ?_
  | refine s_lenT (by ktr_room) ?_
  | refine s_lenL (by ktr_room) ?_
  | refine s_un ?_
  | refine s_rU ?_
  | refine s_and ?_
  | refine s_or ?_
  | refine s_not ?_
  | refine s_tB ?_
  | refine s_tru ?_
  | refine s_drop ?_
  | refine s_next ?_
  | refine s_for ?_
  | refine s_rng1 ?_
  | refine s_rng2 ?_
  | refine s_rng3 ?_
  | refine s_ilist ?_
  | refine s_itup ?_
  | refine s_iany ?_
  | refine s_ienum ?_
  | refine s_irev ?_
  | refine s_gcons ?_
  | refine s_gnil ?_
  | refine s_gtup (by ktr_room) (by with_unfolding_all rfl) ?_
  | refine s_gsub ?_
  | refine s_augS ?_
  | refine s_aug (by with_unfolding_all rfl) ?_
  | refine s_ipI ?_
  | refine s_bm ?_
  | refine s_bm0 ?_
  | refine s_tyL (by ktr_room) ?_
  | refine s_tyL0 (by ktr_room) ?_
  | refine s_sl ?_
  | refine s_part ?_
  | refine s_partv ?_
  | refine s_noPart ?_
  | refine s_lc ?_
  | refine s_yes ?_
  | refine s_wipe (by with_unfolding_all rfl) ?_
  | refine iteT ?_
  | refine s_retN ?_
  | refine s_isN ?_
  | refine s_truB ?_
  | refine s_isB2 ?_
  | refine s_notB2 ?_
  | refine s_revT ?_
  | refine s_andV ?_
  | refine s_orV ?_
  | refine s_ifE ?_
  | refine s_notK ?_
  | refine s_notN ?_
  | refine s_truL (by ktr_room) ?_
  | refine s_truT (by ktr_room) ?_))
open K1
local macro_rules | `(tactic| ktr_room) => `(tactic| first
  | (apply DR.same; assumption; ktr_room)
  | (apply sqt_butD; assumption; ktr_room; ktr_room))
open K1
local macro_rules | `(tactic| o_fieldsN) => `(tactic| with_reducible first
  | refine s_tyS ?_
  | refine s_fld ?_)
namespace K1
open TL ML
/-! what stays while a dict of nodes grows, and lists that are being made -/
def Kp (S : Addr → Prop) (H H' : Hp) : Prop := ∀ b o, H b = some o → (∀ φ, o ≠ HO.ext φ) → (∀ xs, o = HO.lst xs → ¬ S b) → H' b = some o
section
variable {S S' : Addr → Prop} {H H' : Hp}
theorem Kp.of (s : Same H H') : Kp S H H' := fun b o e _ _ => s b o e
theorem Kp.but {c : Addr} {φ : Heap → Prop} (b : But c H H') (e : H c = some (.ext φ)) : Kp S H H' := fun x o h hn _ => b x o (fun z => by subst z; rw [e] at h; cases h; exact hn _ rfl) h
theorem Kp.lst {c : Addr} {xs : List V} (b : But c H H') (e : H c = some (.lst xs)) (hS : S c) : Kp S H H' := fun x o h _ hl => b x o (fun z => by subst z; rw [e] at h; cases h; exact hl _ rfl hS) h
theorem Kp.trans {H1 H2 : Hp} (a : Kp S H H1) (b : Kp S H1 H2) : Kp S H H2 := fun x o e n l => b x o (a x o e n l) n l
theorem Kp.tk {K : PySem.W.Frag} (k : Kp S H H') : TK K H H' := fun a xs h => by
  rcases h with (h | ⟨o, h⟩) | h
  · exact .inl (.inl (k _ _ h (by intro φ z; cases z) (by intro xs z; cases z)))
  · exact .inl (.inr ⟨o, k _ _ h (by intro φ z; cases z) (by intro xs z; cases z)⟩)
  · exact .inr h
theorem Kp.obj {K : PySem.W.Frag} {p : Addr} {F : List (Str × V)} (k : Kp S H H') (h : OAt K H p F) : OAt K H' p F := by
  obtain ⟨C, dx, c, n, e⟩ := h
  exact ⟨C, dx, c, n, k _ _ e (by intro φ z; cases z) (by intro xs z; cases z)⟩
end
/-- a list that is not in S -/
def LAt (S : Addr → Prop) (H : Hp) (a : Addr) (xs : List V) : Prop := H a = some (.lst xs) ∧ ¬ S a
theorem LAt.kp {S : Addr → Prop} {H H' : Hp} {a : Addr} {xs : List V} (k : Kp S H H') (h : LAt S H a xs) : LAt S H' a xs := ⟨k _ _ h.1 (by intro φ z; cases z) (fun _ _ => h.2), h.2⟩
/-! a node: what stands in it, and in its parts -/
def NdF (K : PySem.W.Frag) (S : Addr → Prop) (H : Hp) : Nat → Lot → V → Prop
  | 0, _, _ => False
  | n + 1, e, v => ∃ p lv wv pv st out, v = .ref p ∧ allF (n + 1) e = some out ∧ OAt K H p (mF lv (.int (out.length : Int)) wv pv (.int st)) ∧ Im K H (lotD e) lv ∧
      match e with
      | .both ls => ∃ pa vs, pv = .ref pa ∧ LAt S H pa vs ∧ Paired (fun l v => NdF K S H n l v) ls vs
      | .among ws ls => ∃ wa pa vs rs, wv = .ref wa ∧ pv = .ref pa ∧ LAt S H wa (ws.map V.int) ∧ LAt S H pa vs ∧ Paired (fun l v => NdF K S H n l v) ls vs ∧ optAll (amongRows (allF n) ws ls) = some rs ∧ st = ((mixC rs : Nat) : Int)
      | .prizes s rows => if s = 0 then ∃ pa, pv = .ref pa ∧ LAt S H pa [] else ∃ wa pa vs rs, wv = .ref wa ∧ pv = .ref pa ∧ LAt S H wa (rows.map fun r => V.int r.2) ∧ LAt S H pa vs ∧ Paired (fun k v => NdF K S H n (.prizes (s - 1) (rows.eraseIdx k)) v) (List.range rows.length) vs ∧ optAll (prizeRows (allF n) s rows) = some rs ∧ st = ((mixC rs : Nat) : Int)
      | _ => True
/-- a node under another view of the heap -/
theorem NdF.to {K : PySem.W.Frag} {S S' : Addr → Prop} {H H' : Hp} (ko : ∀ {p F}, OAt K H p F → OAt K H' p F) (kt : TK K H H') (kl : ∀ {a xs}, LAt S H a xs → LAt S' H' a xs) : ∀ {n : Nat} {e : Lot} {v : V}, NdF K S H n e v → NdF K S' H' n e v
  | 0, _, _, h => h.elim
  | n + 1, e, v, h => by
    obtain ⟨p, lv, wv, pv, st, out, h1, h2, h3, h4, h5⟩ := h
    refine ⟨p, lv, wv, pv, st, out, h1, h2, ko h3, h4.tk kt, ?_⟩
    cases e with
    | both ls =>
      obtain ⟨pa, vs, g1, g2, g3⟩ := h5
      exact ⟨pa, vs, g1, kl g2, Paired.mapP g3 fun _ _ z => NdF.to ko kt kl z⟩
    | among ws ls =>
      obtain ⟨wa, pa, vs, rs, g1, g2, g3, g4, g5, g6⟩ := h5
      exact ⟨wa, pa, vs, rs, g1, g2, kl g3, kl g4, Paired.mapP g5 fun _ _ z => NdF.to ko kt kl z, g6⟩
    | prizes s rows =>
      by_cases h0 : s = 0
      · have h5 : if s = 0 then _ else _ := h5
        rw [if_pos h0] at h5
        obtain ⟨pa, g1, g2⟩ := h5
        show if s = 0 then _ else _
        rw [if_pos h0]
        exact ⟨pa, g1, kl g2⟩
      · have h5 : if s = 0 then _ else _ := h5
        rw [if_neg h0] at h5
        obtain ⟨wa, pa, vs, rs, g1, g2, g3, g4, g5, g6⟩ := h5
        show if s = 0 then _ else _
        rw [if_neg h0]
        exact ⟨wa, pa, vs, rs, g1, g2, kl g3, kl g4, Paired.mapP g5 fun _ _ z => NdF.to ko kt kl z, g6⟩
    | _ => trivial
section
variable {K : PySem.W.Frag} {S S' : Addr → Prop} {H H' : Hp} {n : Nat} {e : Lot} {v : V}
theorem NdF.kp (k : Kp S H H') (h : NdF K S H n e v) : NdF K S H' n e v := h.to k.obj k.tk (LAt.kp k)
theorem NdF.sub (k : ∀ a, S' a → S a) (h : NdF K S H n e v) : NdF K S' H n e v := h.to id (TK.refl K H) fun z => ⟨z.1, fun y => z.2 (k _ y)⟩
theorem NdF.fresh {D : Addr} (nD : H D = none) (h : NdF K S H n e v) : NdF K (fun a => S a ∨ a = D) H n e v := h.to id (TK.refl K H) fun z => ⟨z.1, fun y => y.elim z.2 fun y => by have z1 := z.1; rw [y, nD] at z1; cases z1⟩
theorem NdF.same (s : Same H H') (h : NdF K S H n e v) : NdF K S H' n e v := h.kp (.of s)
end
theorem NdF.out {K : PySem.W.Frag} {S : Addr → Prop} {H : Hp} : ∀ {n : Nat} {e : Lot} {v : V}, NdF K S H n e v → ∃ out, allF n e = some out
  | 0, _, _, h => h.elim
  | n + 1, e, v, h => by
    obtain ⟨p, lv, wv, pv, st, out, h1, h2, _⟩ := h
    exact ⟨out, h2⟩
/-- how many outcomes a node tells -/
def TotAt (K : PySem.W.Frag) (H : Hp) (v : V) (t : Nat) : Prop := ∃ p F, v = .ref p ∧ OAt K H p F ∧ F.lookup ("total" : Str) = some (.int (t : Int))
theorem NdF.tot {K : PySem.W.Frag} {S : Addr → Prop} {H : Hp} : ∀ {n : Nat} {e : Lot} {v : V} {out : List PyData}, NdF K S H n e v → allF n e = some out → TotAt K H v out.length
  | 0, _, _, _, h, _ => h.elim
  | n + 1, e, v, out, h, ho => by
    obtain ⟨p, lv, wv, pv, st, out', h1, h2, h3, _⟩ := h
    rw [ho] at h2
    injection h2 with h2
    subst h2
    exact ⟨p, _, h1, h3, mF_total _ _ _ _ _⟩
/-! the stride -/
def strF (c : Nat) (r : Nat × List PyData) : Nat := if 0 < r.1 then c / Nat.gcd c r.2.length * r.2.length else c
theorem mixC_eq (rs : List (Nat × List PyData)) : mixC rs = rs.foldl strF 1 := rfl
theorem strF_le {c : Nat} {r : Nat × List PyData} (hc : 0 < c) (h : LsOk r.2) : c ≤ strF c r := by
  unfold strF
  split
  · have hg : Nat.gcd c r.2.length ≤ r.2.length := Nat.gcd_le_right _ h.pos
    have h1 : c = c / Nat.gcd c r.2.length * Nat.gcd c r.2.length := (Nat.div_mul_cancel (Nat.gcd_dvd_left _ _)).symm
    have h2 := Nat.mul_le_mul_left (c / Nat.gcd c r.2.length) hg
    omega
  · exact Nat.le_refl _
theorem fold_le : ∀ {rs : List (Nat × List PyData)} {c : Nat}, 0 < c → (∀ r ∈ rs, LsOk r.2) → c ≤ rs.foldl strF c
  | [], c, _, _ => Nat.le_refl _
  | r :: rs, c, hc, h => by
    have h1 := strF_le hc (h r (List.mem_cons_self ..))
    have h2 := fold_le (rs := rs) (c := strF c r) (by omega) fun x m => h x (List.mem_cons_of_mem _ m)
    exact Nat.le_trans h1 h2
theorem fold_take {rs : List (Nat × List PyData)} (h : ∀ r ∈ rs, LsOk r.2) (i : Nat) : 0 < (rs.take i).foldl strF 1 ∧ (rs.take i).foldl strF 1 ≤ mixC rs := by
  have h1 := fold_le (rs := rs.take i) (c := 1) (by decide) fun r m => h r (List.mem_of_mem_take m)
  refine ⟨h1, ?_⟩
  have := fold_le (rs := rs.drop i) (c := (rs.take i).foldl strF 1) h1 fun r m => h r (List.mem_of_mem_drop m)
  rw [← List.foldl_append, List.take_append_drop] at this
  exact this
theorem fold_succ {rs : List (Nat × List PyData)} {i : Nat} {r : Nat × List PyData} (h : rs[i]? = some r) : (rs.take (i + 1)).foldl strF 1 = strF ((rs.take i).foldl strF 1) r := by
  rw [List.take_add_one, h, List.foldl_append]
  rfl
theorem lcm_str (c t : Nat) : c.lcm t = c / Nat.gcd c t * t := by
  rw [Nat.lcm, Nat.mul_comm c t, Nat.mul_div_assoc _ (Nat.gcd_dvd_left c t), Nat.mul_comm]
theorem prd_get {α β : Type} {F : α → β → Prop} : ∀ {as : List α} {bs : List β}, Paired F as bs → ∀ {i : Nat} {b : β}, bs[i]? = some b → ∃ a, as[i]? = some a ∧ F a b
  | _, _, .nil, i, b, e => by simp at e
  | _, _, .cons r t, i, b, e => by
    cases i with
    | zero =>
      have := by simpa using e
      subst this
      exact ⟨_, rfl, r⟩
    | succ i => exact prd_get t (i := i) (by simpa using e)
theorem prd_at {α β : Type} {F : α → β → Prop} : ∀ {as : List α} {bs : List β}, Paired F as bs → ∀ {i : Nat} {a : α}, as[i]? = some a → ∃ b, bs[i]? = some b ∧ F a b
  | _, _, .nil, i, b, e => by simp at e
  | _, _, .cons r t, i, b, e => by
    cases i with
    | zero =>
      have := by simpa using e
      subst this
      exact ⟨_, rfl, r⟩
    | succ i => exact prd_at t (i := i) (by simpa using e)
theorem prd_mk {α β : Type} {F : α → β → Prop} : ∀ {as : List α} {bs : List β}, as.length = bs.length → (∀ (i : Nat) (a : α) (b : β), as[i]? = some a → bs[i]? = some b → F a b) → Paired F as bs
  | [], [], _, _ => .nil
  | [], _ :: _, h, _ => by cases h
  | _ :: _, [], h, _ => by cases h
  | a :: as, b :: bs, h, f => .cons (f 0 a b rfl rfl) (prd_mk (by simpa using h) fun (i : Nat) (a : α) (b : β) (e : as[i]? = some a) (g : bs[i]? = some b) => f (i + 1) a b (by simpa using e) (by simpa using g))
section
variable {P : Program} {w : World} {K : PySem.W.Frag} {mg : Str → Option Value} {base : Heap}
def spAmongC (K : PySem.W.Frag) : Sp := fun vs H Q _ => ∃ (v : V) (wl pl : Addr), vs = [v, .ref wl, .ref pl] ∧ ∃ (rs : List (Nat × List PyData)) (us : List V), SqL K H wl (rs.map fun r => V.int (r.1 : Int)) ∧ SqL K H pl us ∧ Paired (fun (r : Nat × List PyData) v => TotAt K H v r.2.length) rs us ∧ rs.length ≤ 1000 ∧ (∀ r ∈ rs, LsOk r.2) ∧ mixC rs * (rs.map (·.1)).sum ≤ 3000 ∧ 0 < (rs.map (·.1)).sum ∧
  ∀ H' x, Same H H' → OAt K H' x (mF v (.int (((rs.map (·.1)).sum * mixC rs : Nat) : Int)) (.ref wl) (.ref pl) (.int ((mixC rs : Nat) : Int))) → Q (.ref x) H'
abbrev stCa (e weights parts stride weight part : Option V := none) : L2.St := [e, weights, parts, stride, weight, part]
theorem sum_cast : ∀ ns : List Nat, (ns.map fun (n : Nat) => (n : Int)).sum = ((ns.sum : Nat) : Int)
  | [] => rfl
  | n :: ns => by rw [List.map_cons, List.sum_cons, sum_cast ns, List.sum_cons]; omega
theorem ok__chosen_among (T : NoB mg) (h : Has K mg "_chosen_among" (topS 12) ["e", "weights", "parts"]) (GM_Measured : GoodM P w K mg base 1 "Measured" ["self", "lot", "total", "weights", "parts", "stride"] mAs spMInit) (G__checked : Good P w K mg base 1 "_checked" ["total"] (spChecked)) : Good P w K mg base 3 "_chosen_among" ["e", "weights", "parts"] (spAmongC K) := by
  have sc : FnScope ["e", "weights", "parts", "stride", "weight", "part"] ["e", "weights", "parts"] (defScope (topS 12)) := ⟨rfl, rfl, rfl, by decide +kernel, rfl, by decide +kernel, by decide +kernel⟩
  have nd := sc.nd
  refine h.good sc (fun vs H Q E h => by obtain ⟨v, wl, pl, rfl, _⟩ := h; rfl) (fun f cdv A outer s H vs Q E hr h => ?_)
  obtain ⟨v, wl, pl, rfl, hyp⟩ := h
  refine ⟨_, (pss_cons (ps_set (i := 3) nd rfl (by first | exact .inl rfl | exact .inr rfl) pe_int)
  (pss_cons (ps_for PassesOwn.never rfl (pi_zipAK K (by rfl) T.n_zip (pa_cons (pv 1) (pa_cons (pv 2) pa_nil))) (pg_tupK K 2 (by rfl) (pgs_cons (pg_name (i := 4) nd rfl (by first | exact .inl rfl | exact .inr rfl)) (pgs_cons (pg_name (i := 5) nd rfl (by first | exact .inl rfl | exact .inr rfl)) pgs_nil)))
  (pss_one (ps_if (pt_cmpR op_gt (pv 4) pe_int (nomark _))
  (pss_one (ps_set (i := 3) nd rfl (by first | exact .inl rfl | exact .inr rfl) (pe_callG G__checked (hr.mono (by first | decide | omega)) (by rfl) (pa_cons (pe_callBfun cr_lcm (by rfl) T.c_lcm (pa_cons (pv 3) (pa_cons (pe_fldK K (pv 5) rfl) pa_nil))) pa_nil)))) pss_nil)))
  (pss_one (ps_ret (pe_mkG GM_Measured (hr.mono (by first | decide | omega)) (by rfl) (pa_cons (pv 0) (pa_cons (pe_callG G__checked (hr.mono (by first | decide | omega)) (by rfl) (pa_cons (pe_op op_mul (pe_callB (cr_sumK K rfl) (by rfl) T.n_sum (by decide +kernel) (pa_cons (pv 1) pa_nil)) (pv 3)) pa_nil)) (pa_cons (pv 1) (pa_cons (pv 2) (pa_cons (pv 3) pa_nil)))))))))), ?_⟩
  try dsimp only [cxOf, Cx.wish]
  obtain ⟨rs, us, hw, hp, hpr, h1000, hok, hmx, hpos, q⟩ := hyp
  have hlen : rs.length = us.length := Paired.length hpr
  kc_close
  refine s_izipA ?_
  kc_close
  refine s_zipLL hw hp ?_
  refine w_zipLL (xs := rs.map fun r => V.int (r.1 : Int)) (ys := us) (fun i σ' H' => ∃ y1 y2, σ' = stCa (some v) (some (.ref wl)) (some (.ref pl)) (some (.int (((rs.take i).foldl strF 1 : Nat) : Int))) y1 y2 ∧ Same H H') (by rw [List.length_map]; exact hlen) ⟨none, none, rfl, Same.refl _⟩ (fun i σ' H' z => by
    obtain ⟨_, _, _, s⟩ := z
    exact ⟨sql_same s hw, sql_same s hp⟩) ?_ ?_
  · rintro i x y _ H1 T H2 ex ey ⟨y1, y2, rfl, s1⟩ nT s2 eT
    obtain ⟨r, hr, p, F, rfl, ho, hF⟩ := prd_get hpr ey
    rw [List.getElem?_map, hr] at ex
    have : x = V.int (r.1 : Int) := by injection ex with ex; exact ex.symm
    subst this
    have hm := List.mem_of_getElem? hr
    have lr := hok r hm
    have t0 := fold_take hok i
    have t1 := fold_take hok (i + 1)
    have es := fold_succ hr
    have hle : mixC rs ≤ 3000 := Nat.le_trans (Nat.le_mul_of_pos_right _ hpos) hmx
    kc_close
    refine s_if ?_
    kc_close
    by_cases hw0 : (0 : Int) < (r.1 : Int)
    · refine ifTrue (decide_eq_true hw0) ?_
      kc_close
      refine s_fldO (OAt.same ho (s1.trans s2)) hF ?_
      kc_close
      have lle := lr.le
      refine s_lcm (by omega) (by omega) ?_
      rw [Int.natAbs_natCast, Int.natAbs_natCast, lcm_str]
      have e2 : strF ((rs.take i).foldl strF 1) r = ((rs.take i).foldl strF 1) / Nat.gcd ((rs.take i).foldl strF 1) r.2.length * r.2.length := by
        unfold strF
        rw [if_pos (by omega)]
      rw [← e2, ← es]
      refine ⟨_, rfl, by omega, ?_⟩
      kc_close
      exact ⟨_, _, rfl, s1.trans s2⟩
    · refine ifFalse (decide_eq_false hw0) ?_
      kc_close
      have e2 : strF ((rs.take i).foldl strF 1) r = (rs.take i).foldl strF 1 := by
        unfold strF
        rw [if_neg (by omega)]
      rw [es, e2]
      exact ⟨_, _, rfl, s1.trans s2⟩
  · rintro _ H1 ⟨y1, y2, rfl, s1⟩
    rw [List.length_map, List.take_length, ← mixC_eq]
    kc_close
    refine s_mkG fun C cl na => ?_
    kc_close
    refine s_sum (ns := (rs.map (·.1)).map fun (n : Nat) => (n : Int)) (by rw [List.map_map, List.map_map]; exact sql_same s1 hw) ?_
    rw [sum_cast]
    have hle : mixC rs ≤ 3000 := Nat.le_trans (Nat.le_mul_of_pos_right _ hpos) hmx
    have hsum : (rs.map (·.1)).sum ≤ 3000 := by
      have hp1 : 0 < mixC rs := mixC_pos hok
      exact Nat.le_trans (Nat.le_mul_of_pos_left _ hp1) hmx
    have hb : (rs.map (·.1)).sum * mixC rs ≤ 3000 := by rw [Nat.mul_comm]; exact hmx
    kc_close
    rw [show (((rs.map (·.1)).sum : Nat) : Int) * ((mixC rs : Nat) : Int) = (((rs.map (·.1)).sum * mixC rs : Nat) : Int) by rw [Int.natCast_mul]]
    refine ⟨_, rfl, by omega, ?_⟩
    kc_close
    refine s_mkM cl na fun x H2 nx s2 ho => ?_
    kc_close
    exact q _ x (s1.trans s2) ho
end
end K1
end
section
open PySem PySem.Spec PyProof.Rows L2 Z
local macro_rules | `(tactic| ktr_room) => `(tactic| first
  | assumption
  | (apply SqT.of; assumption)
  | (apply SqL.of; assumption)
  | (apply sqt_same; assumption; ktr_room)
  | (apply sql_same; assumption; ktr_room)
  | (apply sqt_but; assumption; assumption; ktr_room)
  | (apply sql_but; assumption; assumption; ktr_room)
  | (apply Same.of_; assumption; ktr_room)
  | (apply But.of_; assumption; assumption; ktr_room)
  | exact same_refl
  | exact but_refl
  | (apply same_tr; assumption; ktr_room)
  | (apply same_but; assumption; ktr_room; assumption)
  | (apply but_tr; assumption; ktr_room)
  | (apply but_trB; assumption; ktr_room))
local macro_rules | `(tactic| ktr_units) => `(tactic| first | with_reducible assumption | omega | rfl | exact ⟨by omega, by omega⟩ | exact .inl ⟨by omega, by omega⟩ | exact .inr ⟨by omega, by omega⟩ | exact ⟨by decide, by decide, by decide⟩ | exact Nat.le_of_ble_eq_true rfl | decide)
local macro_rules | `(tactic| kc_close) => `(tactic| repeat (with_reducible first
  | refine s_var (by with_unfolding_all rfl) ?_
  | refine s_c ?_
  | refine s_op ?_
  | refine s_rI0 ?_
  | refine s_asg ?_
  | refine s_gname ?_
  | refine s_seq ?_
  | refine s_cons ?_
  | refine s_nil ?_
  | refine s_call ?_
  | refine s_ret ?_
  | o_fieldsN
  | refine s_test ?_
  | refine s_bl ?_
  | refine s_rI (by with_unfolding_all (ktr_units)) ?_
  | refine s_rEq rfl ?_
  | refine s_rNe rfl ?_
  | refine s_cb ?_
  | refine s_int1 ?_
  | refine s_intB ?_
  | refine s_max2 ?_
  | refine s_min2 ?_
  | refine s_tup ?_
  | refine s_lst ?_
  | refine s_newT (by with_unfolding_all first | decide | exact Nat.le_of_ble_eq_true rfl) ?_
  | refine s_newL (by with_unfolding_all first | decide | exact Nat.le_of_ble_eq_true rfl) ?_
  | refine s_ixT (by ktr_room) (by with_unfolding_all rfl) ?_
  | refine s_ixL (by ktr_room) (by with_unfolding_all rfl) ?_
  | refine s_lenT (by ktr_room) ?_
  | refine s_lenL (by ktr_room) ?_
  | refine s_un ?_
  | refine s_rU ?_
  | refine s_and ?_
  | refine s_or ?_
  | refine s_not ?_
  | refine s_tB ?_
  | refine s_tru ?_
  | refine s_drop ?_
  | refine s_next ?_
  | refine s_for ?_
  | refine s_rng1 ?_
  | refine s_rng2 ?_
  | refine s_rng3 ?_
  | refine s_ilist ?_
  | refine s_itup ?_
  | refine s_iany ?_
  | refine s_ienum ?_
  | refine s_irev ?_
  | refine s_gcons ?_
  | refine s_gnil ?_
  | refine s_gtup (by ktr_room) (by with_unfolding_all rfl) ?_
  | refine s_gsub ?_
  | refine s_augS ?_
  | refine s_aug (by with_unfolding_all rfl) ?_
  | refine s_ipI ?_
  | refine s_bm ?_
  | refine s_bm0 ?_
  | refine s_tyL (by ktr_room) ?_
  | refine s_tyL0 (by ktr_room) ?_
  | refine s_sl ?_
  | refine s_part ?_
  | refine s_partv ?_
  | refine s_noPart ?_
  | refine s_lc ?_
  | refine s_yes ?_
  | refine s_wipe (by with_unfolding_all rfl) ?_
  | refine iteT ?_
  | refine s_retN ?_
  | refine s_isN ?_
  | refine s_truB ?_
  | refine s_isB2 ?_
  | refine s_notB2 ?_
  | refine s_revT ?_
  | refine s_andV ?_
  | refine s_orV ?_
  | refine s_ifE ?_
  | refine s_notK ?_
  | refine s_notN ?_
  | refine s_truL (by ktr_room) ?_
  | refine s_truT (by ktr_room) ?_))
open K1
local macro_rules | `(tactic| ktr_room) => `(tactic| first
  | (apply DR.same; assumption; ktr_room)
  | (apply sqt_butD; assumption; ktr_room; ktr_room))
open K1
local macro_rules | `(tactic| o_fieldsN) => `(tactic| with_reducible first
  | refine s_tyS ?_
  | refine s_fld ?_)
namespace K1
open TL ML
theorem row_pl {r : Str × Int} (h : strS r.1 = true) : pl (rowD r) = true := by
  show (strS r.1 && (true && true)) = true
  rw [h]
  rfl
theorem rows_pl {rows : List (Str × Int)} (h : ∀ r ∈ rows, strS r.1 = true) : pl (rowsD rows) = true := pls_mapD (f := rowD) fun r m => row_pl (h r m)
theorem rows_inj : ∀ {a b : List (Str × Int)}, a.map rowD = b.map rowD → a = b
  | [], [], _ => rfl
  | [], _ :: _, h => by cases h
  | _ :: _, [], h => by cases h
  | x :: a, y :: b, h => by
    rw [List.map_cons, List.map_cons] at h
    injection h with h1 h2
    unfold rowD at h1
    injection h1 with h1
    injection h1 with h3 h4
    injection h4 with h4
    injection h3 with h3
    injection h4 with h4
    rw [rows_inj h2]
    obtain ⟨x1, x2⟩ := x
    obtain ⟨y1, y2⟩ := y
    dsimp only at h3 h4
    rw [h3, h4]
theorem rows_key {a b : List (Str × Int)} (ha : ∀ r ∈ a, strS r.1 = true) (hb : ∀ r ∈ b, strS r.1 = true) (h : keyOf (rowsD a) = keyOf (rowsD b)) : a = b := by
  have := keyOf_inj _ _ (rows_pl ha) (rows_pl hb) h
  unfold rowsD at this
  injection this with this
  exact rows_inj this
theorem rows_dep (rows : List (Str × Int)) : (keyOf (rowsD rows)).depth ≤ 8 := by
  have h : ∀ l : List (Str × Int), NestedKey.depthAll (keysOf (l.map rowD)) ≤ 1 := by
    intro l
    induction l with
    | nil => exact Nat.zero_le _
    | cons r l ih =>
      rw [List.map_cons, keysOf, NestedKey.depthAll]
      have : (keyOf (rowD r)).depth ≤ 1 := by
        unfold rowD
        rw [keyOf, NestedKey.depth, keysOf, keysOf, keysOf, keyOf, keyOf, NestedKey.depthAll, NestedKey.depthAll, NestedKey.depthAll, NestedKey.depth, NestedKey.depth]
        decide
      omega
  unfold rowsD
  rw [keyOf, NestedKey.depth]
  have := h rows
  omega
/-- what the dict of nodes holds: by the rows alone, as the number of draws goes with them -/
def KInv (K : PySem.W.Frag) (S : Addr → Prop) (H : Hp) (kvs : List NEnt) (x y : Int) : Prop := ∀ en ∈ kvs, ∃ (n' : Nat) (s' : Int) (rows' : List (Str × Int)), en.1 = rowsD rows' ∧ (∀ r ∈ rows', strS r.1 = true) ∧ s' = rows'.length + x ∧ (n' : Int) = rows'.length + y ∧ NdF K S H n' (.prizes s' rows') en.2.2
theorem KInv.kp {K : PySem.W.Frag} {S : Addr → Prop} {H H' : Hp} {kvs : List NEnt} {x y : Int} (h : KInv K S H kvs x y) (k : Kp S H H') : KInv K S H' kvs x y := fun en m => by
  obtain ⟨n', s', rows', h1, h2, h3, h4, h5⟩ := h en m
  exact ⟨n', s', rows', h1, h2, h3, h4, h5.kp k⟩
theorem KInv.fresh {K : PySem.W.Frag} {S : Addr → Prop} {H : Hp} {kvs : List NEnt} {x y : Int} {D : Addr} (nD : H D = none) (h : KInv K S H kvs x y) : KInv K (fun a => S a ∨ a = D) H kvs x y := fun en m => by
  obtain ⟨n', s', rows', h1, h2, h3, h4, h5⟩ := h en m
  exact ⟨n', s', rows', h1, h2, h3, h4, h5.fresh nD⟩
theorem KInv.sub {K : PySem.W.Frag} {S S' : Addr → Prop} {H : Hp} {kvs : List NEnt} {x y : Int} (k : ∀ a, S' a → S a) (h : KInv K S H kvs x y) : KInv K S' H kvs x y := fun en m => by
  obtain ⟨n', s', rows', h1, h2, h3, h4, h5⟩ := h en m
  exact ⟨n', s', rows', h1, h2, h3, h4, h5.sub k⟩
theorem atNd_mem {kvs : List NEnt} {d : PyData} {v : V} (h : atNd kvs d = some v) : ∃ en ∈ kvs, keyOf en.1 = keyOf d ∧ en.2.2 = v := by
  unfold atNd at h
  cases hf : kvs.find? fun p => decide (keyOf p.1 = keyOf d) with
  | none => rw [hf] at h; cases h
  | some en =>
    rw [hf] at h
    exact ⟨en, List.mem_of_find?_eq_some hf, by simpa using List.find?_some hf, by injection h⟩
theorem atNd_new {kvs : List NEnt} {d : PyData} {b : Addr} {v : V} (h : atNd kvs d = none) : atNd (kvs ++ [(d, b, v)]) d = some v := by
  unfold atNd at *
  rw [List.find?_append]
  cases hf : kvs.find? fun p => decide (keyOf p.1 = keyOf d) with
  | some en => rw [hf] at h; cases h
  | none =>
    rw [Option.none_or, List.find?_cons, decide_eq_true rfl]
    rfl
/-- what allF says of the rows' own -/
theorem opt_get : ∀ {rows : List (Nat × Option (List PyData))} {rs : List (Nat × List PyData)}, optAll rows = some rs → ∀ {i : Nat} {r : Nat × List PyData}, rs[i]? = some r → rows[i]? = some (r.1, some r.2) := fun h i r e => by
  rw [optAll_some h, List.getElem?_map, e]
  rfl
/-- the parts of prizes -/
theorem prize_facts {n : Nat} {s : Int} {rows : List (Str × Int)} {out : List PyData} (h : ROk (n + 1) (.prizes s rows)) (h0 : s ≠ 0) (ha : allF (n + 1) (.prizes s rows) = some out) :
    ∃ rs, optAll (prizeRows (allF n) s rows) = some rs ∧ rs.length = rows.length ∧ out = mixL (mixC rs) rs ∧ mixC rs * (rs.map (·.1)).sum ≤ 3000 ∧ 0 < (rs.map (·.1)).sum ∧ (∀ r ∈ rs, LsOk r.2) ∧
      (rs.map fun r => V.int (r.1 : Int)) = (rows.map fun r => V.int r.2) ∧ ∀ (i : Nat) r, rs[i]? = some r → ∃ o, allF n (.prizes (s - 1) (rows.eraseIdx i)) = some o ∧ r.2 = o.map (consD (nthR rows i).1) ∧ (r.1 : Int) = (nthR rows i).2 := by
  have ha' : (if s = 0 then some [.tuple []] else mixO (prizeRows (allF n) s rows)) = some out := ha
  rw [if_neg h0] at ha'
  have hmem : ∀ r ∈ prizeRows (allF n) s rows, ∀ o, r.2 = some o → LsOk o := fun r hr o ho => by
    obtain ⟨k, hk, rfl⟩ := List.mem_map.mp hr
    have hk := List.mem_range.mp hk
    have ho : Option.map (List.map (consD (nthR rows k).1)) (allF n (.prizes (s - 1) (rows.eraseIdx k))) = some o := ho
    cases hi : allF n (.prizes (s - 1) (rows.eraseIdx k)) with
    | none => rw [hi] at ho; cases ho
    | some i =>
      rw [hi] at ho
      have : o = i.map (consD (nthR rows k).1) := by injection ho with ho; exact ho.symm
      subst this
      exact (all_ok (erase_rok h h0 hk) hi).cons (h.2.2.2.2 _ (nth_mem hk)).2.2
  have hps := prize_pos (f := allF n) (s := s) h.2.2.2.2 (by have := h.2.1; have := h.2.2.1; omega)
  obtain ⟨rs, h1, h2, h3, _⟩ := mix_ok ha' hmem hps
  have er := optAll_some h1
  have hl : rs.length = rows.length := by
    have := congrArg List.length er
    unfold prizeRows at this
    rw [List.length_map, List.length_map, List.length_range] at this
    exact this.symm
  have hat : ∀ (i : Nat) r, rs[i]? = some r → ∃ o, allF n (.prizes (s - 1) (rows.eraseIdx i)) = some o ∧ r.2 = o.map (consD (nthR rows i).1) ∧ (r.1 : Int) = (nthR rows i).2 := fun i r e => by
    have hi : i < rows.length := by rw [← hl]; exact (List.getElem?_eq_some_iff.mp e).1
    have g := congrArg (fun (l : List (Nat × Option (List PyData))) => l[i]?) er
    unfold prizeRows at g
    rw [List.getElem?_map, List.getElem?_range hi, List.getElem?_map, e] at g
    have g : ((nthR rows i).2.toNat, Option.map (List.map (consD (nthR rows i).1)) (allF n (.prizes (s - 1) (rows.eraseIdx i)))) = (r.1, some r.2) := by injection g
    injection g with g1 g2
    have := h.2.2.2.2 _ (nth_mem hi)
    cases ho : allF n (.prizes (s - 1) (rows.eraseIdx i)) with
    | none => rw [ho] at g2; cases g2
    | some o =>
      rw [ho] at g2
      exact ⟨o, rfl, by injection g2 with g2; exact g2.symm, by omega⟩
  have hsum : (rs.map (·.1)).sum = ((prizeRows (allF n) s rows).map (·.1)).sum := by rw [er, List.map_map]; rfl
  refine ⟨rs, h1, hl, h3, h2, by rw [hsum]; exact hps, fun r m => ?_, ?_, hat⟩
  · exact hmem (r.1, some r.2) (by rw [er]; exact List.mem_map_of_mem m) r.2 rfl
  · refine List.ext_getElem? fun i => ?_
    rw [List.getElem?_map, List.getElem?_map]
    by_cases hi : i < rows.length
    · obtain ⟨r, e⟩ : ∃ r, rs[i]? = some r := ⟨_, List.getElem?_eq_getElem (by omega)⟩
      obtain ⟨_, _, _, g⟩ := hat i r e
      rw [e]
      have : rows[i]? = some (nthR rows i) := by
        unfold nthR
        rw [List.getD_eq_getElem?_getD, List.getElem?_eq_getElem hi]
        rfl
      rw [this]
      show some (V.int (r.1 : Int)) = some (V.int (nthR rows i).2)
      rw [g]
    · rw [List.getElem?_eq_none (by omega), List.getElem?_eq_none (by omega)]
      rfl
abbrev pow6 (s : Int) : Nat := 6 ^ s.toNat
theorem pow6_step {s : Int} (h : 0 < s) : pow6 s = 6 * pow6 (s - 1) := by
  unfold pow6
  obtain ⟨k, rfl⟩ : ∃ k : Nat, s = k + 1 := ⟨(s - 1).toNat, by omega⟩
  rw [show ((k : Int) + 1).toNat = k + 1 by omega, show ((k : Int) + 1 - 1).toNat = k by omega, Nat.pow_succ, Nat.mul_comm]
theorem pow6_pos (s : Int) : 0 < pow6 s := Nat.pow_pos (by decide)
section
variable {P : Program} {w : World} {K : PySem.W.Frag} {mg : Str → Option Value} {base : Heap}
def spMPr (w : World) (K : PySem.W.Frag) (n : Nat) : Sp := fun vs H Q _ => ∃ (v : V) (c : Addr), vs = [v, .ref c] ∧ ∃ (S : Addr → Prop) (s : Int) (rows : List (Str × Int)) (out : List PyData) (kvs : List NEnt) (x y : Int), (∀ a, S a → H a ≠ none) ∧ ROk n (.prizes s rows) ∧ allF n (.prizes s rows) = some out ∧ Im K H (lotD (.prizes s rows)) v ∧
  H c = some (nO w c kvs) ∧ NKeys K H kvs ∧ KInv K S H kvs x y ∧ s = rows.length + x ∧ (n : Int) = rows.length + y ∧ kvs.length + pow6 s ≤ 100000 ∧
  ∀ H' kvs' p, But c H H' → H' c = some (nO w c kvs') → NKeys K H' kvs' → KInv K S H' kvs' x y → kvs'.length ≤ kvs.length + pow6 s → (∀ en ∈ kvs', en ∈ kvs ∨ ∃ rows', en.1 = rowsD rows' ∧ (∀ r ∈ rows', strS r.1 = true) ∧ rows'.length ≤ rows.length) → NdF K S H' n (.prizes s rows) p → Q p H'
abbrev stMp (e known u s pairs parts at' tickets : Option V := none) : L2.St := [e, known, u, s, pairs, parts, at', tickets]
theorem rec__measured_prizes (T : NoB mg) (n : Nat) (h : Has K mg "_measured_prizes" (topS 13) ["e", "known"]) (GM_Measured : GoodM P w K mg base 1 "Measured" ["self", "lot", "total", "weights", "parts", "stride"] mAs spMInit) (G__chosen_among : Good P w K mg base 3 "_chosen_among" ["e", "weights", "parts"] (spAmongC K)) (G__measured_prizes : Good P w K mg base (n + 3) "_measured_prizes" ["e", "known"] (spMPr w K n)) : Good P w K mg base (n + 3 + 1) "_measured_prizes" ["e", "known"] (spMPr w K (n + 1)) := by
  have sc : FnScope ["e", "known", "_", "s", "pairs", "parts", "at", "tickets"] ["e", "known"] (defScope (topS 13)) := ⟨rfl, rfl, rfl, by decide +kernel, rfl, by decide +kernel, by decide +kernel⟩
  have nd := sc.nd
  refine h.good sc (fun vs H Q E h => by obtain ⟨v, c, rfl, _⟩ := h; rfl) (fun f cdv A outer s H vs Q E hr h => ?_)
  obtain ⟨v, c, rfl, hyp⟩ := h
  refine ⟨_, (pss_cons (ps_asg (pv 0) (pg_tupK K 3 (by rfl) (pgs_cons (pg_name (i := 2) nd rfl (by first | exact .inl rfl | exact .inr rfl)) (pgs_cons (pg_name (i := 3) nd rfl (by first | exact .inl rfl | exact .inr rfl)) (pgs_cons (pg_name (i := 4) nd rfl (by first | exact .inl rfl | exact .inr rfl)) pgs_nil)))))
  (pss_cons (ps_if (pt_cmpR op_lt (pv 3) pe_int (nomark _))
  (pss_one (ps_ret (pe_mkG GM_Measured (hr.mono (by first | decide | omega)) (by rfl) (pa_cons (pv 0) (pa_cons pe_int (pa_cons (pe_lst pa_nil) (pa_cons (pe_lst pa_nil) (pa_cons pe_int pa_nil)))))))) pss_nil)
  (pss_cons (ps_if (pt_cmpR (op_notN2K K w hr.units) (pv 4) (pv 1) (by rfl))
  (pss_cons (ps_setLc (i := 5) (own := [("at", 6)]) rfl nd rfl rfl (sw_true rfl rfl rfl (by decide +kernel)) (pi_range1 rfl T.n_range (pa_cons (pe_callB (c_lenK K) (by rfl) T.n_len (by decide +kernel) (pa_cons (pv 4) pa_nil)) pa_nil)) (blkOk_by (own := [("at", 6)]) (N := ["e", "known", "_", "s", "pairs", "parts", "at", "tickets"]) (by kernel_rfl)) (fun _ _ _ _ _ => (pg_name (i := 6) nd rfl (by first | exact .inl rfl | exact .inr rfl))) (fun _ _ _ _ _ => pts_nil) (fun _ _ _ _ _ => (pe_callG G__measured_prizes (hr.mono (by first | decide | omega)) (by rfl) (pa_cons (pe_tup (pa_cons pe_str (pa_cons (pe_op op_sub (pv 3) pe_int) (pa_cons (pe_op (op_catK K) (pe_slice (sl_tupK K) (pv 4) po_none (po_some (pv 6))) (pe_slice (sl_tupK K) (pv 4) (po_some (pe_op op_add (pv 6) pe_int)) po_none)) pa_nil)))) (pa_cons (pv 1) pa_nil)))))
  (pss_one (ps_asg (pe_callG G__chosen_among (hr.mono (by first | decide | omega)) (by rfl) (pa_cons (pv 0) (pa_cons (pe_lc (own := [("_", 2), ("tickets", 7)]) rfl nd (pi_tupK K (pv 4)) (blkOk_by (own := [("_", 2), ("tickets", 7)]) (N := ["e", "known", "_", "s", "pairs", "parts", "at", "tickets"]) (by kernel_rfl)) (fun _ _ _ _ _ => (pg_tupK K 2 (by rfl) (pgs_cons (pg_name (i := 2) nd rfl (by first | exact .inl rfl | exact .inr rfl)) (pgs_cons (pg_name (i := 7) nd rfl (by first | exact .inl rfl | exact .inr rfl)) pgs_nil)))) (fun _ _ _ _ _ => pts_nil) (fun _ _ _ _ _ => (pv 7))) (pa_cons (pv 5) pa_nil)))) (pg_sub (pv 1) (pv 4) (set_N2K K w hr.units))))) pss_nil)
  (pss_one (ps_ret (pe_ix (ix_N2K K w hr.units) (pv 1) (pv 4) (fun _ _ => rfl))))))), ?_⟩
  try dsimp only [cxOf, Cx.wish]
  obtain ⟨S, s, rows, out, kvs, x, y, hS, he, hall, him, hc, hk, hi, hx, hy, hz, q⟩ := hyp
  have he0 := he
  have him0 := him
  obtain ⟨l5, s0, s1, sn, hr⟩ := he
  obtain ⟨a, _, rfl, ha, _, _, rfl, rfl, _, _, rfl, rfl, vr, _, rfl, hvr, rfl⟩ := him
  have hvr0 : Im K H (rowsD rows) vr := hvr
  obtain ⟨ra, us, rfl, hra, his⟩ := hvr
  have lus := Ims.length his
  rw [List.length_map] at lus
  have hrow := rows_im his
  have hstr : ∀ r ∈ rows, strS r.1 = true := fun r m => (hr r m).2.2
  have key : IsKey K H (rowsD rows) ra := ⟨hvr0, rows_dep rows⟩
  have line : (100000 : Nat) < sizeLine := by decide
  have hp6 := pow6_pos s
  kc_close
  refine s_if ?_
  kc_close
  by_cases h0 : s < 1
  · have h0' : s = 0 := by omega
    subst h0'
    refine ifTrue (by decide) ?_
    kc_close
    refine s_mkG fun C cl na => ?_
    kc_close
    intro wl H1 n1 s1' e1
    kc_close
    intro pl H2 n2 s2 e2
    kc_close
    refine s_mkM cl na fun p H3 n3 s3 o3 => ?_
    kc_close
    have s03 := (s1'.trans s2).trans s3
    refine q H3 kvs _ (But.of s03) (s03 _ _ hc) (hk.tk (TK.same s03)) (hi.kp (.of s03)) (by omega) (fun en m => .inl m) ?_
    refine ⟨p, _, _, _, 1, [.tuple []], rfl, rfl, o3, him0.tk (TK.same s03), ?_⟩
    show if (0 : Int) = 0 then _ else _
    rw [if_pos rfl]
    exact ⟨pl, rfl, s3 _ _ e2, fun z => hS _ z (none_back s1' n2)⟩
  refine ifFalse (decide_eq_false h0) ?_
  kc_close
  refine s_if ?_
  kc_close
  refine s_notN2 hc hk key ?_
  kc_close
  cases hat : atNd kvs (rowsD rows) with
  | some pv =>
    refine ifFalse rfl ?_
    kc_close
    refine s_ixN2 hc hk key hat ?_
    refine q H kvs pv (But.refl _ _) hc hk hi (by omega) (fun en m => .inl m) ?_
    obtain ⟨en, m, e1, rfl⟩ := atNd_mem hat
    obtain ⟨n', s', rows', g1, g2, g3, g4, g5⟩ := hi en m
    rw [g1] at e1
    have := rows_key g2 hstr e1
    subst this
    have e2 : s' = s := by omega
    have e3 : n' = n + 1 := by omega
    subst e2 e3
    exact g5
  | none =>
    refine ifTrue rfl ?_
    have hs0 : s ≠ 0 := by omega
    obtain ⟨rs, hopt, hlrs, hout, hmx, hps, hlok, hws, hget⟩ := prize_facts he0 hs0 hall
    have hp1 := pow6_step (show 0 < s by omega)
    have hpp := pow6_pos (s - 1)
    refine s_seq ?_
    refine s_cut (fun σ' H' => ∃ D kvs' vs', σ' = stMp (some (.ref a)) (some (.ref c)) (some (.str (Str.ofString "prizes"))) (some (.int s)) (some (.ref ra)) (some (.ref D)) ∧ H D = none ∧ But c H H' ∧ H' D = some (.lst vs') ∧ H' c = some (nO w c kvs') ∧ NKeys K H' kvs' ∧ KInv K (fun b => S b ∨ b = D) H' kvs' x y ∧ kvs'.length ≤ kvs.length + 5 * pow6 (s - 1) ∧ (∀ en ∈ kvs', en ∈ kvs ∨ ∃ rows', en.1 = rowsD rows' ∧ (∀ r ∈ rows', strS r.1 = true) ∧ rows'.length < rows.length) ∧ Paired (fun k v => NdF K (fun b => S b ∨ b = D) H' n (.prizes (s - 1) (rows.eraseIdx k)) v) (List.range rows.length) vs') (fun N hN => ?_) ?_
    · kc_close
      rw [lus]
      refine s_rng1v (by omega) (by omega) ?_
      rw [Int.toNat_natCast]
      refine l_range (fun D i H' => H D = none ∧ But c H H' ∧ ∃ kvs' vs', H' D = some (.lst vs') ∧ H' c = some (nO w c kvs') ∧ NKeys K H' kvs' ∧ KInv K (fun b => S b ∨ b = D) H' kvs' x y ∧ kvs'.length ≤ kvs.length + i * pow6 (s - 1) ∧ (∀ en ∈ kvs', en ∈ kvs ∨ ∃ rows', en.1 = rowsD rows' ∧ (∀ r ∈ rows', strS r.1 = true) ∧ rows'.length < rows.length) ∧ Paired (fun k v => NdF K (fun b => S b ∨ b = D) H' n (.prizes (s - 1) (rows.eraseIdx k)) v) (List.range i) vs') ?_ ?_ ?_
      · intro D H1 nD s1' eD
        exact ⟨nD, But.of s1', kvs, [], eD, s1' _ _ hc, hk.tk (TK.same s1'), (hi.fresh nD).kp (.of s1'), by omega, fun en m => .inl m, .nil⟩
      · rintro D i H1 hii ⟨nD, b1, kvs1, vs1, eD, c1, k1, i1, z1, m1, p1⟩
        have hDc : D ≠ c := fun z => by rw [z, hc] at nD; cases nD
        have t1 : TK K H H1 := Kp.tk (S := S) (Kp.but b1 (show H c = some (.ext _) from hc))
        have hra1 := t1 _ _ hra
        rw [Int.zero_add]
        obtain ⟨r, er⟩ : ∃ r, rs[i]? = some r := ⟨_, List.getElem?_eq_getElem (by omega)⟩
        obtain ⟨o, ho, _, _⟩ := hget i r er
        have lvs1 := Paired.length p1
        rw [List.length_range] at lvs1
        have hle : (rows.eraseIdx i).length = rows.length - 1 := List.length_eraseIdx_of_lt hii
        have hmul : i * pow6 (s - 1) ≤ 4 * pow6 (s - 1) := Nat.mul_le_mul_right _ (by omega)
        kc_close
        refine s_slT (xs := us) hra1 fun q1 H3 s3 h3 => ?_
        rw [cut_to] at h3
        kc_close
        refine s_slT (xs := us) (sqt_same s3 hra1) fun q2 H4 s4 h4 => ?_
        rw [show ((i : Int) + 1) = ((i + 1 : Nat) : Int) from by omega, cut_fromZ] at h4
        kc_close
        refine s_catA (sqt_same s4 h3) h4 (by rw [List.length_take, List.length_drop]; omega) fun q3 H5 s5 h5 => ?_
        kc_close
        intro T H6 n6 s6 e6
        kc_close
        have s16 := ((s3.trans s4).trans s5).trans s6
        have imE : Im K H6 (lotD (.prizes (s - 1) (rows.eraseIdx i))) (.ref T) := by
          refine ⟨T, _, rfl, SqT.of e6, _, _, rfl, rfl, _, _, rfl, rfl, _, _, rfl, ⟨q3, _, rfl, sqt_same s6 h5, ?_⟩, rfl⟩
          have h7 := (his.take i).app (his.drop (i + 1))
          rw [← List.eraseIdx_eq_take_drop_succ, ← map_eraseG] at h7
          exact Ims.tk (t1.trans (TK.same s16)) _ _ h7
        have c6 := s16 _ _ c1
        have eD6 := s16 _ _ eD
        refine ⟨.ref T, c, rfl, (fun b => S b ∨ b = D), s - 1, rows.eraseIdx i, o, kvs1, x, y, ?_, erase_rok he0 hs0 hii, ho, imE, c6, k1.tk (TK.same s16), i1.kp (.of s16), by rw [hle]; omega, by rw [hle]; omega, by omega, fun H7 kvs7 p b7 c7 k7 i7 z7 m7 nd7 => ?_⟩
        · rintro b (hb | hb) z
          · obtain ⟨o', ho'⟩ : ∃ o', H b = some o' := by
              cases hh : H b with
              | none => exact absurd hh (hS b hb)
              | some o' => exact ⟨o', rfl⟩
            by_cases hbc : b = c
            · rw [hbc, c6] at z; cases z
            · rw [s16 _ _ (b1 _ _ hbc ho')] at z; cases z
          · rw [hb, eD6] at z; cases z
        have eD7 := b7 _ _ hDc eD6
        refine s_lcEnd eD7 (by omega) fun H8 b8 e8 => ?_
        have kp8 : Kp (fun b => S b ∨ b = D) H7 H8 := Kp.lst b8 eD7 (.inr rfl)
        have kp7 : Kp (fun b => S b ∨ b = D) H6 H7 := Kp.but b7 (show H6 c = some (.ext _) from c6)
        refine ⟨nD, But.sameN b8 ((b1.trans (But.of s16)).trans b7) nD, kvs7, vs1 ++ [p], e8, b8 _ _ (Ne.symm hDc) c7, k7.tk kp8.tk, i7.kp kp8, ?_, ?_, ?_⟩
        · rw [Nat.succ_mul]; omega
        · intro en m
          rcases m7 en m with m | ⟨rows', g1, g2, g3⟩
          · exact m1 en m
          · exact .inr ⟨rows', g1, g2, by omega⟩
        · rw [List.range_succ]
          exact Paired.snoc (Paired.mapP p1 fun _ _ z => ((z.kp (.of s16)).kp kp7).kp kp8) (nd7.kp kp8)
      · rintro D H1 ⟨nD, b1, kvs1, vs1, eD, c1, k1, i1, z1, m1, p1⟩
        have hmul : rows.length * pow6 (s - 1) ≤ 5 * pow6 (s - 1) := Nat.mul_le_mul_right _ l5
        kc_close
        exact hN _ _ ⟨D, kvs1, vs1, rfl, nD, b1, eD, c1, k1, i1, by omega, m1, p1⟩
    rintro _ H1 ⟨D, kvs1, vs1, rfl, nD, b1, eD, c1, k1, i1, z1, m1, p1⟩
    have t1 : TK K H H1 := Kp.tk (S := S) (Kp.but b1 (show H c = some (.ext _) from hc))
    have hDc : D ≠ c := fun z => by rw [z, hc] at nD; cases nD
    have hra1 := t1 _ _ hra
    have lvs1 := Paired.length p1
    rw [List.length_range] at lvs1
    refine s_cut (fun σ' H' => ∃ (W x' : Addr) (kvs5 : List NEnt), σ' = stMp (some (.ref a)) (some (.ref c)) (some (.str (Str.ofString "prizes"))) (some (.int s)) (some (.ref ra)) (some (.ref D)) ∧ But c H H' ∧ H' c = some (nO w c kvs5) ∧ NKeys K H' kvs5 ∧ KInv K S H' kvs5 x y ∧ kvs5.length ≤ kvs.length + pow6 s ∧ (∀ en ∈ kvs5, en ∈ kvs ∨ ∃ rows', en.1 = rowsD rows' ∧ (∀ r ∈ rows', strS r.1 = true) ∧ rows'.length ≤ rows.length) ∧ atNd kvs5 (rowsD rows) = some (.ref x') ∧ NdF K S H' (n + 1) (.prizes s rows) (.ref x')) (fun N hN => ?_) ?_
    · kc_close
      refine s_itupv hra1 ?_
      refine l_mapT (fun i => V.int ((rows.map (·.2)).getD i 0)) hra1 (by omega) ?_ ?_
      · intro D' N' i y' H' e' s' k'
        obtain ⟨r, b, er, rfl, hb⟩ := hrow i y' e'
        rw [List.getD_eq_getElem?_getD, List.getElem?_map, er] at k'
        have hb' := sqt_same s' (t1 _ _ hb)
        kc_close
        exact k' _ (Same.refl _)
      intro W H2 nW s2 eW
      rw [lus, row_ints (K := K)] at eW
      kc_close
      have eD2 := s2 _ _ eD
      refine ⟨_, W, D, rfl, rs, vs1, SqL.of (by rw [eW, hws, List.map_map]; rfl), SqL.of eD2, ?_, by omega, hlok, hmx, hps, fun H3 x' s3 o3 => ?_⟩
      · refine prd_mk (by omega) fun i r v er ev => ?_
        obtain ⟨k, ek, hnd⟩ := prd_get p1 ev
        obtain ⟨o, ho, hro, _⟩ := hget i r er
        have hi' : i < rows.length := by have := (List.getElem?_eq_some_iff.mp er).1; omega
        rw [List.getElem?_range hi'] at ek
        have : k = i := by injection ek with ek; exact ek.symm
        subst this
        have := (hnd.kp (.of s2)).tot ho
        rw [hro, List.length_map]
        exact this
      · kc_close
        have s13 := s2.trans s3
        have c3 := s13 _ _ c1
        have kp3 : Kp (fun b => S b ∨ b = D) H1 H3 := .of s13
        have t3 : TK K H H3 := t1.trans kp3.tk
        have key3 : IsKey K H3 (rowsD rows) ra := ⟨hvr0.tk t3, rows_dep rows⟩
        have hnone : atNd kvs1 (rowsD rows) = none := by
          cases hx1 : atNd kvs1 (rowsD rows) with
          | none => rfl
          | some v' =>
            obtain ⟨en, m, g1, g2⟩ := atNd_mem hx1
            rcases m1 en m with m | ⟨rows', g3, g4, g5⟩
            · exfalso
              unfold atNd at hat
              rw [Option.map_eq_none_iff, List.find?_eq_none] at hat
              exact hat en m (decide_eq_true g1)
            · rw [g3] at g1
              have := rows_key g4 hstr g1
              rw [this] at g5
              omega
        refine s_setN2 c3 (k1.tk (TK.same s13)) key3 hnone (by omega) fun H4 b4 e4 => ?_
        have kp4 : Kp (fun b => S b ∨ b = D) H3 H4 := Kp.but b4 (show H3 c = some (.ext _) from c3)
        have hWS : ¬ S W := fun z => by
          cases hh : H W with
          | none => exact hS W z hh
          | some o' =>
            by_cases hWc : W = c
            · rw [hWc, c1] at nW; cases nW
            · rw [b1 _ _ hWc hh] at nW; cases nW
        have hDS : ¬ S D := fun z => hS D z nD
        have hWc : W ≠ c := fun z => by rw [z, c1] at nW; cases nW
        have nd4 : NdF K S H4 (n + 1) (.prizes s rows) (.ref x') := by
          refine ⟨x', .ref a, .ref W, .ref D, ((mixC rs : Nat) : Int), out, rfl, hall, ?_, him0.tk (t3.trans kp4.tk), ?_⟩
          · have := kp4.obj o3
            rw [hout, mix_len fun r m => (hlok r m).pos]
            exact this
          · show if s = 0 then _ else _
            rw [if_neg hs0]
            refine ⟨W, D, vs1, rs, rfl, rfl, ⟨b4 _ _ hWc (s3 _ _ (by rw [eW, List.map_map]; rfl)), hWS⟩, ⟨b4 _ _ hDc (s3 _ _ eD2), hDS⟩, Paired.mapP p1 fun _ _ z => ((z.kp kp3).kp kp4).sub fun _ y => .inl y, hopt, rfl⟩
        refine hN _ _ ⟨W, x', _, rfl, ((b1.trans (But.of s13)).trans b4), e4, ?_, ?_, ?_, ?_, atNd_new hnone, nd4⟩
        · intro en m
          rcases List.mem_append.mp m with m | m
          · exact (k1.tk (TK.same s13)).tk kp4.tk en m
          · rw [List.mem_singleton.mp m]
            exact ⟨key3.im.tk kp4.tk, key3.dp⟩
        · intro en m
          rcases List.mem_append.mp m with m | m
          · exact ((i1.kp kp3).kp kp4).sub (fun _ y => .inl y) en m
          · rw [List.mem_singleton.mp m]
            exact ⟨n + 1, s, rows, rfl, hstr, hx, hy, nd4⟩
        · rw [List.length_append]
          show kvs1.length + 1 ≤ _
          omega
        · intro en m
          rcases List.mem_append.mp m with m | m
          · rcases m1 en m with m | ⟨rows', g1, g2, g3⟩
            · exact .inl m
            · exact .inr ⟨rows', g1, g2, by omega⟩
          · rw [List.mem_singleton.mp m]
            exact .inr ⟨rows, rfl, hstr, Nat.le_refl _⟩
    rintro _ H5 ⟨W, x', kvs5, rfl, b5, e5, k5, i5, z5, m5, hat5, nd5⟩
    have t5 : TK K H H5 := Kp.tk (S := S) (Kp.but b5 (show H c = some (.ext _) from hc))
    kc_close
    refine s_ixN2 e5 k5 ⟨hvr0.tk t5, rows_dep rows⟩ hat5 ?_
    exact q H5 kvs5 _ b5 e5 k5 i5 z5 m5 nd5
end
end K1
end
section
open PySem PySem.Spec PyProof.Rows L2 Z
local macro_rules | `(tactic| ktr_room) => `(tactic| first
  | assumption
  | (apply SqT.of; assumption)
  | (apply SqL.of; assumption)
  | (apply sqt_same; assumption; ktr_room)
  | (apply sql_same; assumption; ktr_room)
  | (apply sqt_but; assumption; assumption; ktr_room)
  | (apply sql_but; assumption; assumption; ktr_room)
  | (apply Same.of_; assumption; ktr_room)
  | (apply But.of_; assumption; assumption; ktr_room)
  | exact same_refl
  | exact but_refl
  | (apply same_tr; assumption; ktr_room)
  | (apply same_but; assumption; ktr_room; assumption)
  | (apply but_tr; assumption; ktr_room)
  | (apply but_trB; assumption; ktr_room))
local macro_rules | `(tactic| ktr_units) => `(tactic| first | with_reducible assumption | omega | rfl | exact ⟨by omega, by omega⟩ | exact .inl ⟨by omega, by omega⟩ | exact .inr ⟨by omega, by omega⟩ | exact ⟨by decide, by decide, by decide⟩ | exact Nat.le_of_ble_eq_true rfl | decide)
local macro_rules | `(tactic| kc_close) => `(tactic| repeat (with_reducible first
  | refine s_var (by with_unfolding_all rfl) ?_
  | refine s_c ?_
  | refine s_op ?_
  | refine s_rI0 ?_
  | refine s_asg ?_
  | refine s_gname ?_
  | refine s_seq ?_
  | refine s_cons ?_
  | refine s_nil ?_
  | refine s_call ?_
  | refine s_ret ?_
  | o_fieldsN
  | refine s_test ?_
  | refine s_bl ?_
  | refine s_rI (by with_unfolding_all (ktr_units)) ?_
  | refine s_rEq rfl ?_
  | refine s_rNe rfl ?_
  | refine s_cb ?_
  | refine s_int1 ?_
  | refine s_intB ?_
  | refine s_max2 ?_
  | refine s_min2 ?_
  | refine s_tup ?_
  | refine s_lst ?_
  | refine s_newT (by with_unfolding_all first | decide | exact Nat.le_of_ble_eq_true rfl) ?_
  | refine s_newL (by with_unfolding_all first | decide | exact Nat.le_of_ble_eq_true rfl) ?_
  | refine s_ixT (by ktr_room) (by with_unfolding_all rfl) ?_
  | refine s_ixL (by ktr_room) (by with_unfolding_all rfl) ?_
  | refine s_lenT (by ktr_room) ?_
  | refine s_lenL (by ktr_room) ?_
  | refine s_un ?_
  | refine s_rU ?_
  | refine s_and ?_
  | refine s_or ?_
  | refine s_not ?_
  | refine s_tB ?_
  | refine s_tru ?_
  | refine s_drop ?_
  | refine s_next ?_
  | refine s_for ?_
  | refine s_rng1 ?_
  | refine s_rng2 ?_
  | refine s_rng3 ?_
  | refine s_ilist ?_
  | refine s_itup ?_
  | refine s_iany ?_
  | refine s_ienum ?_
  | refine s_irev ?_
  | refine s_gcons ?_
  | refine s_gnil ?_
  | refine s_gtup (by ktr_room) (by with_unfolding_all rfl) ?_
  | refine s_gsub ?_
  | refine s_augS ?_
  | refine s_aug (by with_unfolding_all rfl) ?_
  | refine s_ipI ?_
  | refine s_bm ?_
  | refine s_bm0 ?_
  | refine s_tyL (by ktr_room) ?_
  | refine s_tyL0 (by ktr_room) ?_
  | refine s_sl ?_
  | refine s_part ?_
  | refine s_partv ?_
  | refine s_noPart ?_
  | refine s_lc ?_
  | refine s_yes ?_
  | refine s_wipe (by with_unfolding_all rfl) ?_
  | refine iteT ?_
  | refine s_retN ?_
  | refine s_isN ?_
  | refine s_truB ?_
  | refine s_isB2 ?_
  | refine s_notB2 ?_
  | refine s_revT ?_
  | refine s_andV ?_
  | refine s_orV ?_
  | refine s_ifE ?_
  | refine s_notK ?_
  | refine s_notN ?_
  | refine s_truL (by ktr_room) ?_
  | refine s_truT (by ktr_room) ?_))
open K1
local macro_rules | `(tactic| ktr_room) => `(tactic| first
  | (apply DR.same; assumption; ktr_room)
  | (apply sqt_butD; assumption; ktr_room; ktr_room))
open K1
local macro_rules | `(tactic| o_fieldsN) => `(tactic| with_reducible first
  | refine s_tyS ?_
  | refine s_fld ?_)
namespace K1
open TL ML
theorem amongR_get {f : Lot → Option (List PyData)} : ∀ {ws : List Int} {ls : List Lot}, ws.length = ls.length → ∀ {i : Nat} {w : Int} {l : Lot}, ws[i]? = some w → ls[i]? = some l → (amongRows f ws ls)[i]? = some (w.toNat, f l)
  | [], [], _, i, w, l, e, _ => by simp at e
  | [], _ :: _, h, _, _, _, _, _ => by cases h
  | _ :: _, [], h, _, _, _, _, _ => by cases h
  | w' :: ws, l' :: ls, h, i, w, l, e, g => by
    cases i with
    | zero =>
      have e : w' = w := by simpa using e
      have g : l' = l := by simpa using g
      subst e g
      rfl
    | succ i => exact amongR_get (ws := ws) (ls := ls) (by simpa using h) (i := i) (by simpa using e) (by simpa using g)
theorem among_facts {n : Nat} {ws : List Int} {ls : List Lot} {out : List PyData} (h : ROk (n + 1) (.among ws ls)) (ha : allF (n + 1) (.among ws ls) = some out) :
    ∃ rs, optAll (amongRows (allF n) ws ls) = some rs ∧ rs.length = ls.length ∧ out = mixL (mixC rs) rs ∧ mixC rs * (rs.map (·.1)).sum ≤ 3000 ∧ 0 < (rs.map (·.1)).sum ∧ (∀ r ∈ rs, LsOk r.2) ∧
      (rs.map fun r => V.int (r.1 : Int)) = ws.map V.int ∧ ∀ (i : Nat) r l, rs[i]? = some r → ls[i]? = some l → allF n l = some r.2 := by
  have ha' : mixO (amongRows (allF n) ws ls) = some out := ha
  have hmem : ∀ r ∈ amongRows (allF n) ws ls, ∀ o, r.2 = some o → LsOk o := fun r hr o ho => by
    obtain ⟨w, l, _, hl, rfl⟩ := among_mem hr
    exact all_ok (h.2.2.2.2 l hl) ho
  have hps : 0 < ((amongRows (allF n) ws ls).map (·.1)).sum := by
    rw [among_fst h.1]
    have := toNat_sum (ws := ws) fun w m => (h.2.2.1 w m).1
    have := h.2.2.2.1
    omega
  obtain ⟨rs, h1, h2, h3, _⟩ := mix_ok ha' hmem hps
  have er := optAll_some h1
  have hf : (amongRows (allF n) ws ls).map (·.1) = rs.map (·.1) := by rw [er, List.map_map]; rfl
  have hl : rs.length = ls.length := by
    have := congrArg List.length (hf.symm.trans (among_fst h.1))
    rw [List.length_map, List.length_map] at this
    have hw := h.1
    omega
  refine ⟨rs, h1, hl, h3, h2, by rw [← hf]; exact hps, fun r m => ?_, ?_, fun i r l e g => ?_⟩
  · exact hmem (r.1, some r.2) (by rw [er]; exact List.mem_map_of_mem m) r.2 rfl
  · have h4 : rs.map (·.1) = ws.map Int.toNat := hf.symm.trans (among_fst h.1)
    have h5 : (rs.map fun r => V.int (r.1 : Int)) = (rs.map (·.1)).map fun (n : Nat) => V.int (n : Int) := by rw [List.map_map]; rfl
    rw [h5, h4, List.map_map]
    refine List.map_congr_left fun w m => ?_
    show V.int ((w.toNat : Nat) : Int) = V.int w
    rw [Int.toNat_of_nonneg (h.2.2.1 w m).1]
  · obtain ⟨w, ew⟩ : ∃ w, ws[i]? = some w := ⟨_, List.getElem?_eq_getElem (by have := (List.getElem?_eq_some_iff.mp g).1; have := h.1; omega)⟩
    have := amongR_get (f := allF n) h.1 ew g
    rw [er, List.getElem?_map, e] at this
    have : (r.1, some r.2) = (w.toNat, allF n l) := by injection this
    injection this with _ this
    exact this.symm
theorem bothF_all : ∀ {lo : List (Option (List PyData))} {found out : List (List PyData)}, bothF found lo = some out → ∃ os : List (List PyData), lo = os.map some ∧ out = os.foldl (fun found outs => found.flatMap fun one => outs.map fun o => one ++ [o]) found
  | [], found, out, h => ⟨[], rfl, by injection h with h; exact h.symm⟩
  | none :: _, found, out, h => by cases h
  | some outs :: r, found, out, h => by
    have h' : (if 3000 < outs.length * found.length then none else bothF (found.flatMap fun one => outs.map fun o => one ++ [o]) r) = some out := h
    by_cases hb : 3000 < outs.length * found.length
    · rw [if_pos hb] at h'; cases h'
    · rw [if_neg hb] at h'
      obtain ⟨os, e, h2⟩ := bothF_all h'
      exact ⟨outs :: os, by rw [e]; rfl, h2⟩
theorem both_facts {n : Nat} {ls : List Lot} {out : List PyData} (h : ROk (n + 1) (.both ls)) (ha : allF (n + 1) (.both ls) = some out) :
    ∃ os : List (List PyData), os.length = ls.length ∧ out = (bothL os).map .tuple ∧ (∀ o ∈ os, LsOk o) ∧ ∀ (i : Nat) o l, os[i]? = some o → ls[i]? = some l → allF n l = some o := by
  have ha' : (bothF [[]] (ls.map (allF n))).map (List.map .tuple) = some out := ha
  cases hb : bothF [[]] (ls.map (allF n)) with
  | none => rw [hb] at ha'; cases ha'
  | some q =>
    rw [hb] at ha'
    have : out = q.map .tuple := by injection ha' with ha'; exact ha'.symm
    obtain ⟨os, e, h2⟩ := bothF_all hb
    have hl : os.length = ls.length := by
      have := congrArg List.length e
      rw [List.length_map, List.length_map] at this
      exact this.symm
    have hget : ∀ (i : Nat) o l, os[i]? = some o → ls[i]? = some l → allF n l = some o := fun i o l eo el => by
      have g := congrArg (fun (x : List (Option (List PyData))) => x[i]?) e
      rw [List.getElem?_map, List.getElem?_map, eo, el] at g
      have g : some (allF n l) = some (some o) := g
      injection g
    refine ⟨os, hl, by rw [this, h2]; rfl, fun o m => ?_, hget⟩
    obtain ⟨i, ei⟩ := List.getElem?_of_mem m
    obtain ⟨l, el⟩ : ∃ l, ls[i]? = some l := ⟨_, List.getElem?_eq_getElem (by have := (List.getElem?_eq_some_iff.mp ei).1; omega)⟩
    exact all_ok (h.2 l (List.mem_of_getElem? el)) (hget i o l ei el)
theorem foldl_mul : ∀ (ns : List Nat) (c : Nat), ns.foldl (· * ·) c = c * ns.prod
  | [], c => by show c = c * 1; omega
  | n :: ns, c => by
    rw [List.foldl_cons, foldl_mul ns, List.prod_cons, Nat.mul_assoc]
theorem prodI_nat : ∀ ns : List Nat, prodI (ns.map Int.ofNat) = ((ns.prod : Nat) : Int)
  | [] => rfl
  | n :: ns => by
    rw [List.map_cons, List.prod_cons, Int.natCast_mul, ← prodI_nat ns]
    rfl
theorem both_size {os : List (List PyData)} : prodI ((os.map (·.length)).map Int.ofNat) = ((bothL os).length : Int) := by
  rw [prodI_nat, both_len os.length os rfl]
  unfold prodN
  rw [foldl_mul, Nat.one_mul]
/-- lots that stand by themselves -/
def selfL : Lot → Bool
  | .prizes _ _ => false
  | .both _ => false
  | .among _ _ => false
  | _ => true
theorem self_size {n : Nat} {e : Lot} {out : List PyData} (hs : selfL e = true) (h : ROk (n + 1) e) (ha : allF (n + 1) e = some out) : sizeF e = (out.length : Int) ∧ ROk 1 e := by
  cases e with
  | sure x =>
    have : out = [.str x] := by injection ha with ha; exact ha.symm
    subst this
    exact ⟨rfl, h⟩
  | order xs =>
    have : out = (tupL xs false xs.length).map namesD := by injection ha with ha; exact ha.symm
    subst this
    refine ⟨?_, h⟩
    rw [List.length_map, (tup_at h.1 false xs.length (.inr (Nat.le_refl _))).1]
    exact prodI_nat _
  | pick k s xs =>
    have ha' : (if k = 1 then some ((combL xs s.toNat).map namesD) else some ((tupL xs (decide (k = 2)) s.toNat).map namesD)) = some out := ha
    refine ⟨?_, h⟩
    obtain ⟨nd, n0, n6, s0, k2, hk1, hk2, hx⟩ := h
    by_cases hk : k = 1
    · rw [if_pos hk] at ha'
      have : out = (combL xs s.toNat).map namesD := by injection ha' with ha'; exact ha'.symm
      subst this
      show (if k = 1 then _ else _) = _
      rw [if_pos hk, List.length_map, comb_len]
    · rw [if_neg hk] at ha'
      have : out = (tupL xs (decide (k = 2)) s.toNat).map namesD := by injection ha' with ha'; exact ha'.symm
      subst this
      show (if k = 1 then _ else _) = _
      rw [if_neg hk, List.length_map, (tup_at nd (decide (k = 2)) s.toNat (by
        by_cases h2 : k = 2
        · exact .inl (decide_eq_true h2)
        · exact .inr (by have := hk1 (by omega); omega))).1]
      exact prodI_nat _
  | seats s rows =>
    have e1 : (List.range (Int.toNat (rows.map fun (r : Str × Int) => r.2).sum)).map (fun (i : Nat) => seatD s rows (i : Int)) = out := by injection ha
    subst e1
    refine ⟨?_, h⟩
    rw [List.length_map, List.length_range]
    have := h.2.2.2.2.1
    show (rows.map (·.2)).sum = _
    omega
  | prizes _ _ => cases hs
  | both _ => cases hs
  | among _ _ => cases hs
section
variable {P : Program} {w : World} {K : PySem.W.Frag} {mg : Str → Option Value} {base : Heap}
theorem ok__measured_prizes (T : NoB mg) (h : Has K mg "_measured_prizes" (topS 13) ["e", "known"]) (GM_Measured : GoodM P w K mg base 1 "Measured" ["self", "lot", "total", "weights", "parts", "stride"] mAs spMInit) (G__chosen_among : Good P w K mg base 3 "_chosen_among" ["e", "weights", "parts"] (spAmongC K)) : ∀ n, Good P w K mg base (n + 3) "_measured_prizes" ["e", "known"] (spMPr w K n) := fun n => by
  induction n with
  | zero =>
    refine good_noA h fun vs H Q E z => ?_
    obtain ⟨v, c, _, S, s, rows, out, kvs, x, y, _, h, _⟩ := z
    exact h.elim
  | succ n ih => exact rec__measured_prizes T n h GM_Measured G__chosen_among ih
def spMeas (K : PySem.W.Frag) (n : Nat) : Sp := fun vs H Q _ => ∃ v : V, vs = [v] ∧ ∃ (S : Addr → Prop) (e : Lot) (out : List PyData), (∀ a, S a → H a ≠ none) ∧ ROk n e ∧ allF n e = some out ∧ Im K H (lotD e) v ∧ ∀ H' x, Same H H' → NdF K S H' n e x → Q x H'
abbrev stMe (e kind parts u inner weight part : Option V := none) : L2.St := [e, kind, parts, u, inner, weight, part]
theorem rec_measured (n : Nat) (h : Has K mg "measured" (topS 7) ["e"]) (GM_Measured : GoodM P w K mg base (1) "Measured" ["self", "lot", "total", "weights", "parts", "stride"] mAs spMInit) (G__chosen_among : Good P w K mg base (3) "_chosen_among" ["e", "weights", "parts"] (spAmongC K)) (G__measured_prizes : Good P w K mg base (n+4) "_measured_prizes" ["e", "known"] (spMPr w K (n+1))) (G__product : Good P w K mg base (2) "_product" ["numbers"] (spProduct K)) (G__size_by_itself : Good P w K mg base (3) "_size_by_itself" ["e"] (spSizeSelf K)) (G_measured : Good P w K mg base (n + 4) "measured" ["e"] (spMeas K n)) : Good P w K mg base (n + 4 + 1) "measured" ["e"] (spMeas K (n + 1)) := by
  have sc : FnScope ["e", "kind", "parts", "_", "inner", "weight", "part"] ["e"] (defScope (topS 7)) := ⟨rfl, rfl, rfl, by decide +kernel, rfl, by decide +kernel, by decide +kernel⟩
  have nd := sc.nd
  refine h.good sc (fun vs H Q E h => by obtain ⟨v, rfl, _⟩ := h; rfl) (fun f cdv A outer s H vs Q E hr h => ?_)
  obtain ⟨v, rfl, hyp⟩ := h
  refine ⟨_, (pss_cons (ps_set (i := 1) nd rfl (by first | exact .inl rfl | exact .inr rfl) (pe_ix (ix_tupK K) (pv 0) pe_int (fun _ _ => rfl)))
  (pss_cons (ps_if (pt_cmpR op_eq (pv 1) pe_str (nomark _))
  (pss_cons (ps_setLc (i := 2) (own := [("_", 3), ("inner", 4)]) rfl nd rfl rfl (sw_true rfl rfl rfl (by decide +kernel)) (pi_tupK K (pe_ix (ix_tupK K) (pv 0) pe_int (fun _ _ => rfl))) (blkOk_by (own := [("_", 3), ("inner", 4)]) (N := ["e", "kind", "parts", "_", "inner", "weight", "part"]) (by kernel_rfl)) (fun _ _ _ _ _ => (pg_tupK K 2 (by rfl) (pgs_cons (pg_name (i := 3) nd rfl (by first | exact .inl rfl | exact .inr rfl)) (pgs_cons (pg_name (i := 4) nd rfl (by first | exact .inl rfl | exact .inr rfl)) pgs_nil)))) (fun _ _ _ _ _ => pts_nil) (fun _ _ _ _ _ => (pe_callG G_measured (hr.mono (by first | decide | omega)) (by rfl) (pa_cons (pv 4) pa_nil))))
  (pss_one (ps_ret (pe_callG G__chosen_among (hr.mono (by first | decide | omega)) (by rfl) (pa_cons (pv 0) (pa_cons (pe_lc (own := [("weight", 5), ("_", 3)]) rfl nd (pi_tupK K (pe_ix (ix_tupK K) (pv 0) pe_int (fun _ _ => rfl))) (blkOk_by (own := [("weight", 5), ("_", 3)]) (N := ["e", "kind", "parts", "_", "inner", "weight", "part"]) (by kernel_rfl)) (fun _ _ _ _ _ => (pg_tupK K 2 (by rfl) (pgs_cons (pg_name (i := 5) nd rfl (by first | exact .inl rfl | exact .inr rfl)) (pgs_cons (pg_name (i := 3) nd rfl (by first | exact .inl rfl | exact .inr rfl)) pgs_nil)))) (fun _ _ _ _ _ => pts_nil) (fun _ _ _ _ _ => (pv 5))) (pa_cons (pv 2) pa_nil))))))) pss_nil)
  (pss_cons (ps_if (pt_cmpR op_eq (pv 1) pe_str (nomark _))
  (pss_one (ps_ret (pe_callG G__measured_prizes (hr.mono (by first | decide | omega)) (by rfl) (pa_cons (pv 0) (pa_cons (pe_newNK w) pa_nil))))) pss_nil)
  (pss_cons (ps_if (pt_cmpR op_eq (pv 1) pe_str (nomark _))
  (pss_cons (ps_setLc (i := 2) (own := [("inner", 4)]) rfl nd rfl rfl (sw_true rfl rfl rfl (by decide +kernel)) (pi_tupK K (pe_ix (ix_tupK K) (pv 0) pe_int (fun _ _ => rfl))) (blkOk_by (own := [("inner", 4)]) (N := ["e", "kind", "parts", "_", "inner", "weight", "part"]) (by kernel_rfl)) (fun _ _ _ _ _ => (pg_name (i := 4) nd rfl (by first | exact .inl rfl | exact .inr rfl))) (fun _ _ _ _ _ => pts_nil) (fun _ _ _ _ _ => (pe_callG G_measured (hr.mono (by first | decide | omega)) (by rfl) (pa_cons (pv 4) pa_nil))))
  (pss_one (ps_ret (pe_mkG GM_Measured (hr.mono (by first | decide | omega)) (by rfl) (pa_cons (pv 0) (pa_cons (pe_callG G__product (hr.mono (by first | decide | omega)) (by rfl) (pa_cons (pe_lc (own := [("part", 6)]) rfl nd (pi_listK K (pv 2)) (blkOk_by (own := [("part", 6)]) (N := ["e", "kind", "parts", "_", "inner", "weight", "part"]) (by kernel_rfl)) (fun _ _ _ _ _ => (pg_name (i := 6) nd rfl (by first | exact .inl rfl | exact .inr rfl))) (fun _ _ _ _ _ => pts_nil) (fun _ _ _ _ _ => (pe_fldK K (pv 6) rfl))) pa_nil)) (pa_cons (pe_lst pa_nil) (pa_cons (pv 2) (pa_cons pe_int pa_nil))))))))) pss_nil)
  (pss_one (ps_ret (pe_mkG GM_Measured (hr.mono (by first | decide | omega)) (by rfl) (pa_cons (pv 0) (pa_cons (pe_callG G__size_by_itself (hr.mono (by first | decide | omega)) (by rfl) (pa_cons (pv 0) pa_nil)) (pa_cons (pe_lst pa_nil) (pa_cons (pe_lst pa_nil) (pa_cons pe_int pa_nil)))))))))))), ?_⟩
  try dsimp only [cxOf, Cx.wish]
  obtain ⟨S, e, out, hS, he, hall, him, q⟩ := hyp
  have he0 := he
  have him0 := him
  have line : (100000 : Nat) < sizeLine := by decide
  cases e with
  | prizes s rows =>
    obtain ⟨l5, s0, s1, sn, hr⟩ := he
    obtain ⟨a, _, rfl, ha, _, _, rfl, rfl, _, _, rfl, rfl, vr, _, rfl, hvr, rfl⟩ := him
    kc_close
    refine s_if ?_
    kc_close
    refine ifFalse (by decide +kernel) ?_
    kc_close
    refine s_if ?_
    kc_close
    refine ifTrue (by decide +kernel) ?_
    kc_close
    refine s_newN fun p H1 n1 s1' e1 => ?_
    kc_close
    have hp6 : pow6 s ≤ 7776 := by
      have h1 : s.toNat ≤ 5 := by omega
      exact Nat.pow_le_pow_right (by decide) h1
    refine ⟨.ref a, p, rfl, S, s, rows, out, [], s - rows.length, (n + 1 : Nat) - rows.length, fun b hb z => ?_, he0, hall, him0.tk (TK.same s1'), e1, (fun _ m => by cases m), (fun _ m => by cases m), by omega, by omega, by show 0 + _ ≤ _; omega, fun H2 kvs2 x b2 c2 k2 i2 z2 m2 nd2 => ?_⟩
    · cases hh : H b with
      | none => exact hS b hb hh
      | some o => rw [s1' _ _ hh] at z; cases z
    · kc_close
      exact q H2 x (But.same b2 s1' n1) nd2
  | both ls =>
    obtain ⟨l6, hok⟩ := he
    obtain ⟨a, _, rfl, ha, _, _, rfl, rfl, vl, _, rfl, hvl, rfl⟩ := him
    obtain ⟨la, us, rfl, hla, his⟩ := hvl
    rw [lotDs_map] at his
    have lus := Ims.length his
    rw [List.length_map] at lus
    obtain ⟨os, hlo, hout, hosk, hget⟩ := both_facts he0 hall
    have hlen : out.length = (bothL os).length := by rw [hout, List.length_map]
    have hle := (all_ok he0 hall).le
    kc_close
    refine s_if ?_
    kc_close
    refine ifFalse (by decide +kernel) ?_
    kc_close
    refine s_if ?_
    kc_close
    refine ifFalse (by decide +kernel) ?_
    kc_close
    refine s_if ?_
    kc_close
    refine ifTrue (by decide +kernel) ?_
    refine s_seq ?_
    refine s_cut (fun σ' H' => ∃ D vs, σ' = stMe (some (.ref a)) (some (.str (Str.ofString "both"))) (some (.ref D)) ∧ H D = none ∧ Same H H' ∧ H' D = some (.lst vs) ∧ Paired (fun l v => NdF K (fun b => S b ∨ b = D) H' n l v) ls vs) (fun N hN => ?_) ?_
    · kc_close
      refine s_itupv hla ?_
      refine l_tup (xs := us) (fun D i H' => H D = none ∧ Same H H' ∧ ∃ vs, H' D = some (.lst vs) ∧ Paired (fun l v => NdF K (fun b => S b ∨ b = D) H' n l v) (ls.take i) vs) (fun D H1 nD s1 eD => ⟨nD, s1, [], eD, .nil⟩) (fun D i H1 _ p => sqt_same p.2.1 hla) ?_ ?_
      · rintro D i x H1 ex ⟨nD, s1, vs, eD, pv⟩
        obtain ⟨d, ed, hd⟩ := Ims.get his ex
        rw [List.getElem?_map] at ed
        obtain ⟨l, el⟩ : ∃ l, ls[i]? = some l := ⟨_, List.getElem?_eq_getElem (by have := (List.getElem?_eq_some_iff.mp ex).1; omega)⟩
        rw [el] at ed
        have : lotD l = d := by injection ed
        subst this
        obtain ⟨o, eo⟩ : ∃ o, os[i]? = some o := ⟨_, List.getElem?_eq_getElem (by have := (List.getElem?_eq_some_iff.mp ex).1; omega)⟩
        have lvs := Paired.length pv
        rw [List.length_take] at lvs
        kc_close
        refine ⟨x, rfl, (fun b => S b ∨ b = D), l, o, ?_, hok l (List.mem_of_getElem? el), hget i o l eo el, hd.tk (TK.same s1), fun H2 y s2 nd => ?_⟩
        · rintro b (hb | hb) z
          · cases hh : H b with
            | none => exact hS b hb hh
            | some o => rw [s1 _ _ hh] at z; cases z
          · rw [hb, eD] at z; cases z
        · have eD2 := s2 _ _ eD
          refine s_lcEnd eD2 (by omega) fun H3 b3 e3 => ?_
          have kp3 : Kp (fun b => S b ∨ b = D) H2 H3 := Kp.lst b3 eD2 (.inr rfl)
          refine ⟨nD, But.same b3 (s1.trans s2) nD, _, e3, ?_⟩
          rw [List.take_add_one, el]
          exact Paired.snoc (Paired.mapP pv fun _ _ z => (z.same s2).kp kp3) (nd.kp kp3)
      · rintro D H1 ⟨nD, s1, vs, eD, pv⟩
        rw [lus, List.take_length] at pv
        kc_close
        exact hN _ _ ⟨D, vs, rfl, nD, s1, eD, pv⟩
    rintro _ H1 ⟨D, vs, rfl, nD, s1, eD, pv⟩
    have lvs := Paired.length pv
    kc_close
    refine s_mkG fun C cl na => ?_
    kc_close
    refine s_ilistv (SqL.of eD) ?_
    refine l_mapL (fun i => V.int ((os.map fun o => (o.length : Int)).getD i 0)) (SqL.of eD) (by omega) ?_ ?_
    · intro D' N' i y H' e' s' k'
      obtain ⟨l, el, nd⟩ := prd_get pv e'
      obtain ⟨o, eo⟩ : ∃ o, os[i]? = some o := ⟨_, List.getElem?_eq_getElem (by have := (List.getElem?_eq_some_iff.mp el).1; omega)⟩
      obtain ⟨p, F, rfl, ho, hF⟩ := (nd.same s').tot (hget i o l eo el)
      kc_close
      refine s_fldO ho hF ?_
      rw [List.getD_eq_getElem?_getD, List.getElem?_map, eo] at k'
      exact k' _ (Same.refl _)
    intro T2 H2 nT s2 eT
    have eT' : H2 T2 = some (.lst ((((os.map (·.length)).map Int.ofNat)).map V.int)) := by
      rw [eT]
      have := range_map (ns := os.map fun o => (o.length : Int)) (fun x => x)
      rw [List.length_map] at this
      rw [show vs.length = os.length by omega, this, List.map_id', List.map_map, List.map_map, List.map_map]
      rfl
    kc_close
    refine ⟨T2, rfl, _, SqL.of eT', ?_, ?_, ?_⟩
    · intro z hz
      obtain ⟨m, hm, rfl⟩ := List.mem_map.mp hz
      obtain ⟨o, ho, rfl⟩ := List.mem_map.mp hm
      have := (hosk o ho).pos
      show (1 : Int) ≤ (o.length : Int)
      omega
    · rw [both_size]; omega
    · rw [both_size, ← hlen]
      kc_close
      intro wl H3 n3 s3 e3
      kc_close
      refine s_mkM cl na fun x H4 n4 s4 o4 => ?_
      kc_close
      have s14 := (s2.trans s3).trans s4
      refine q H4 _ (s1.trans s14) ⟨x, .ref a, .ref wl, .ref D, 1, out, rfl, hall, o4, him0.tk (TK.same (s1.trans s14)), D, vs, rfl, ⟨s14 _ _ eD, fun z => hS D z nD⟩, Paired.mapP pv fun _ _ z => (z.same s14).sub fun _ y => .inl y⟩
  | among ws ls =>
    obtain ⟨hwl, l6, hw, hsum, hok⟩ := he
    obtain ⟨a, _, rfl, ha, _, _, rfl, rfl, vl, _, rfl, hvl, rfl⟩ := him
    obtain ⟨la, us, rfl, hla, his⟩ := hvl
    have lus := Ims.length his
    rw [pairDs_len hwl] at lus
    obtain ⟨rs, hopt, hlrs, hout, hmx, hps, hlok, hws, hget⟩ := among_facts he0 hall
    kc_close
    refine s_if ?_
    kc_close
    refine ifTrue (by decide +kernel) ?_
    refine s_seq ?_
    refine s_cut (fun σ' H' => ∃ D vs, σ' = stMe (some (.ref a)) (some (.str (Str.ofString "among"))) (some (.ref D)) ∧ H D = none ∧ Same H H' ∧ H' D = some (.lst vs) ∧ Paired (fun l v => NdF K (fun b => S b ∨ b = D) H' n l v) ls vs) (fun N hN => ?_) ?_
    · kc_close
      refine s_itupv hla ?_
      refine l_tup (xs := us) (fun D i H' => H D = none ∧ Same H H' ∧ ∃ vs, H' D = some (.lst vs) ∧ Paired (fun l v => NdF K (fun b => S b ∨ b = D) H' n l v) (ls.take i) vs) (fun D H1 nD s1 eD => ⟨nD, s1, [], eD, .nil⟩) (fun D i H1 _ p => sqt_same p.2.1 hla) ?_ ?_
      · rintro D i x H1 ex ⟨nD, s1, vs, eD, pv⟩
        obtain ⟨wt, l, b, lv, ew, el, rfl, hb, hlv⟩ := pairs_imL his ex
        have hb1 := sqt_same s1 hb
        have hlv1 := hlv.tk (TK.same s1)
        obtain ⟨r, er⟩ : ∃ r, rs[i]? = some r := ⟨_, List.getElem?_eq_getElem (by have := (List.getElem?_eq_some_iff.mp el).1; omega)⟩
        have lvs := Paired.length pv
        rw [List.length_take] at lvs
        kc_close
        refine ⟨lv, rfl, (fun b => S b ∨ b = D), l, r.2, ?_, hok l (List.mem_of_getElem? el), hget i r l er el, hlv1, fun H2 y s2 nd => ?_⟩
        · rintro b (hb | hb) z
          · cases hh : H b with
            | none => exact hS b hb hh
            | some o => rw [s1 _ _ hh] at z; cases z
          · rw [hb, eD] at z; cases z
        · have eD2 := s2 _ _ eD
          refine s_lcEnd eD2 (by omega) fun H3 b3 e3 => ?_
          have kp3 : Kp (fun b => S b ∨ b = D) H2 H3 := Kp.lst b3 eD2 (.inr rfl)
          refine ⟨nD, But.same b3 (s1.trans s2) nD, _, e3, ?_⟩
          rw [List.take_add_one, el]
          exact Paired.snoc (Paired.mapP pv fun _ _ z => (z.same s2).kp kp3) (nd.kp kp3)
      · rintro D H1 ⟨nD, s1, vs, eD, pv⟩
        rw [lus, List.take_length] at pv
        kc_close
        exact hN _ _ ⟨D, vs, rfl, nD, s1, eD, pv⟩
    rintro _ H1 ⟨D, vs, rfl, nD, s1, eD, pv⟩
    have lvs := Paired.length pv
    have ha1 := sqt_same s1 ha
    have hla1 := sqt_same s1 hla
    kc_close
    refine s_itupv hla1 ?_
    refine l_mapT (fun i => V.int (ws.getD i 0)) hla1 (by omega) ?_ ?_
    · intro D' N' i y H' e' s' k'
      obtain ⟨wt, l, b, lv, ew, el, rfl, hb, hlv⟩ := pairs_imL his e'
      have hb1 := sqt_same (s1.trans s') hb
      rw [List.getD_eq_getElem?_getD, ew] at k'
      kc_close
      exact k' _ (Same.refl _)
    intro W H2 nW s2 eW
    have eW' : H2 W = some (.lst (ws.map V.int)) := by
      rw [eW]
      have := range_map (ns := ws) (fun x => x)
      rw [show us.length = ws.length by omega, this, List.map_id']
    kc_close
    have eD2 := s2 _ _ eD
    refine ⟨_, W, D, rfl, rs, vs, SqL.of (by rw [eW', hws]), SqL.of eD2, ?_, by omega, hlok, hmx, hps, fun H3 x s3 o3 => ?_⟩
    · refine prd_mk (by omega) fun i r v er ev => ?_
      obtain ⟨l, el, nd⟩ := prd_get pv ev
      exact (nd.same s2).tot (hget i r l er el)
    · have s13 := s2.trans s3
      have s03 := s1.trans s13
      refine q H3 _ s03 ⟨x, .ref a, .ref W, .ref D, ((mixC rs : Nat) : Int), out, rfl, hall, ?_, him0.tk (TK.same s03), W, D, vs, rs, rfl, rfl, ⟨s3 _ _ eW', fun z => hS W z (none_back s1 nW)⟩, ⟨s13 _ _ eD, fun z => hS D z nD⟩, Paired.mapP pv fun _ _ z => (z.same s13).sub fun _ y => .inl y, hopt, rfl⟩
      rw [hout, mix_len fun r m => (hlok r m).pos]
      exact o3
  | sure x0 =>
    obtain ⟨a, _, rfl, ha, _, _, rfl, rfl, _, _, rfl, rfl, rfl⟩ := him
    kc_close
    refine s_if ?_
    kc_close
    refine ifFalse (by decide +kernel) ?_
    kc_close
    refine s_if ?_
    kc_close
    refine ifFalse (by decide +kernel) ?_
    kc_close
    refine s_if ?_
    kc_close
    refine ifFalse (by decide +kernel) ?_
    kc_close
    refine s_mkG fun C cl na => ?_
    kc_close
    have hsz := self_size rfl he0 hall
    have hle := all_ok he0 hall
    have hl1 := hle.pos
    have hl2 := hle.le
    refine ⟨_, rfl, _, hsz.2, him0, by omega, by omega, (by rintro ⟨_, _, h⟩; cases h), (by rintro ⟨_, h⟩; cases h), (by rintro ⟨_, _, h⟩; cases h), fun H1 s1 => ?_⟩
    rw [hsz.1]
    kc_close
    intro wl H2 n2 s2 e2
    kc_close
    intro pl H3 n3 s3 e3
    kc_close
    refine s_mkM cl na fun x H4 n4 s4 o4 => ?_
    kc_close
    have s04 := ((s1.trans s2).trans s3).trans s4
    exact q H4 _ s04 ⟨x, _, .ref wl, .ref pl, 1, out, rfl, hall, o4, him0.tk (TK.same s04), trivial⟩
  | order xs =>
    obtain ⟨a, _, rfl, ha, _, _, rfl, rfl, nv, _, rfl, hnm, rfl⟩ := him
    kc_close
    refine s_if ?_
    kc_close
    refine ifFalse (by decide +kernel) ?_
    kc_close
    refine s_if ?_
    kc_close
    refine ifFalse (by decide +kernel) ?_
    kc_close
    refine s_if ?_
    kc_close
    refine ifFalse (by decide +kernel) ?_
    kc_close
    refine s_mkG fun C cl na => ?_
    kc_close
    have hsz := self_size rfl he0 hall
    have hle := all_ok he0 hall
    have hl1 := hle.pos
    have hl2 := hle.le
    refine ⟨_, rfl, _, hsz.2, him0, by omega, by omega, (by rintro ⟨_, _, h⟩; cases h), (by rintro ⟨_, h⟩; cases h), (by rintro ⟨_, _, h⟩; cases h), fun H1 s1 => ?_⟩
    rw [hsz.1]
    kc_close
    intro wl H2 n2 s2 e2
    kc_close
    intro pl H3 n3 s3 e3
    kc_close
    refine s_mkM cl na fun x H4 n4 s4 o4 => ?_
    kc_close
    have s04 := ((s1.trans s2).trans s3).trans s4
    exact q H4 _ s04 ⟨x, _, .ref wl, .ref pl, 1, out, rfl, hall, o4, him0.tk (TK.same s04), trivial⟩
  | seats s0 rows =>
    obtain ⟨a, _, rfl, ha, _, _, rfl, rfl, _, _, rfl, rfl, vr, _, rfl, hvr, rfl⟩ := him
    kc_close
    refine s_if ?_
    kc_close
    refine ifFalse (by decide +kernel) ?_
    kc_close
    refine s_if ?_
    kc_close
    refine ifFalse (by decide +kernel) ?_
    kc_close
    refine s_if ?_
    kc_close
    refine ifFalse (by decide +kernel) ?_
    kc_close
    refine s_mkG fun C cl na => ?_
    kc_close
    have hsz := self_size rfl he0 hall
    have hle := all_ok he0 hall
    have hl1 := hle.pos
    have hl2 := hle.le
    refine ⟨_, rfl, _, hsz.2, him0, by omega, by omega, (by rintro ⟨_, _, h⟩; cases h), (by rintro ⟨_, h⟩; cases h), (by rintro ⟨_, _, h⟩; cases h), fun H1 s1 => ?_⟩
    rw [hsz.1]
    kc_close
    intro wl H2 n2 s2 e2
    kc_close
    intro pl H3 n3 s3 e3
    kc_close
    refine s_mkM cl na fun x H4 n4 s4 o4 => ?_
    kc_close
    have s04 := ((s1.trans s2).trans s3).trans s4
    exact q H4 _ s04 ⟨x, _, .ref wl, .ref pl, 1, out, rfl, hall, o4, him0.tk (TK.same s04), trivial⟩
  | pick k s0 xs =>
    obtain ⟨nd, n0, n6, s00, k2, hk1, hk2, hx⟩ := he
    rcases (show k = 0 ∨ k = 1 ∨ k = 2 by omega) with rfl | rfl | rfl
    · obtain ⟨a, _, rfl, ha, _, _, rfl, rfl, _, _, rfl, rfl, nv, _, rfl, hnm, rfl⟩ := him
      kc_close
      refine s_if ?_
      kc_close
      refine ifFalse (by decide +kernel) ?_
      kc_close
      refine s_if ?_
      kc_close
      refine ifFalse (by decide +kernel) ?_
      kc_close
      refine s_if ?_
      kc_close
      refine ifFalse (by decide +kernel) ?_
      kc_close
      refine s_mkG fun C cl na => ?_
      kc_close
      have hsz := self_size rfl he0 hall
      have hle := all_ok he0 hall
      have hl1 := hle.pos
      have hl2 := hle.le
      refine ⟨_, rfl, _, hsz.2, him0, by omega, by omega, (by rintro ⟨_, _, h⟩; cases h), (by rintro ⟨_, h⟩; cases h), (by rintro ⟨_, _, h⟩; cases h), fun H1 s1 => ?_⟩
      rw [hsz.1]
      kc_close
      intro wl H2 n2 s2 e2
      kc_close
      intro pl H3 n3 s3 e3
      kc_close
      refine s_mkM cl na fun x H4 n4 s4 o4 => ?_
      kc_close
      have s04 := ((s1.trans s2).trans s3).trans s4
      exact q H4 _ s04 ⟨x, _, .ref wl, .ref pl, 1, out, rfl, hall, o4, him0.tk (TK.same s04), trivial⟩
    · obtain ⟨a, _, rfl, ha, _, _, rfl, rfl, _, _, rfl, rfl, nv, _, rfl, hnm, rfl⟩ := him
      kc_close
      refine s_if ?_
      kc_close
      refine ifFalse (by decide +kernel) ?_
      kc_close
      refine s_if ?_
      kc_close
      refine ifFalse (by decide +kernel) ?_
      kc_close
      refine s_if ?_
      kc_close
      refine ifFalse (by decide +kernel) ?_
      kc_close
      refine s_mkG fun C cl na => ?_
      kc_close
      have hsz := self_size rfl he0 hall
      have hle := all_ok he0 hall
      have hl1 := hle.pos
      have hl2 := hle.le
      refine ⟨_, rfl, _, hsz.2, him0, by omega, by omega, (by rintro ⟨_, _, h⟩; cases h), (by rintro ⟨_, h⟩; cases h), (by rintro ⟨_, _, h⟩; cases h), fun H1 s1 => ?_⟩
      rw [hsz.1]
      kc_close
      intro wl H2 n2 s2 e2
      kc_close
      intro pl H3 n3 s3 e3
      kc_close
      refine s_mkM cl na fun x H4 n4 s4 o4 => ?_
      kc_close
      have s04 := ((s1.trans s2).trans s3).trans s4
      exact q H4 _ s04 ⟨x, _, .ref wl, .ref pl, 1, out, rfl, hall, o4, him0.tk (TK.same s04), trivial⟩
    · obtain ⟨a, _, rfl, ha, _, _, rfl, rfl, _, _, rfl, rfl, nv, _, rfl, hnm, rfl⟩ := him
      kc_close
      refine s_if ?_
      kc_close
      refine ifFalse (by decide +kernel) ?_
      kc_close
      refine s_if ?_
      kc_close
      refine ifFalse (by decide +kernel) ?_
      kc_close
      refine s_if ?_
      kc_close
      refine ifFalse (by decide +kernel) ?_
      kc_close
      refine s_mkG fun C cl na => ?_
      kc_close
      have hsz := self_size rfl he0 hall
      have hle := all_ok he0 hall
      have hl1 := hle.pos
      have hl2 := hle.le
      refine ⟨_, rfl, _, hsz.2, him0, by omega, by omega, (by rintro ⟨_, _, h⟩; cases h), (by rintro ⟨_, h⟩; cases h), (by rintro ⟨_, _, h⟩; cases h), fun H1 s1 => ?_⟩
      rw [hsz.1]
      kc_close
      intro wl H2 n2 s2 e2
      kc_close
      intro pl H3 n3 s3 e3
      kc_close
      refine s_mkM cl na fun x H4 n4 s4 o4 => ?_
      kc_close
      have s04 := ((s1.trans s2).trans s3).trans s4
      exact q H4 _ s04 ⟨x, _, .ref wl, .ref pl, 1, out, rfl, hall, o4, him0.tk (TK.same s04), trivial⟩
end
end K1
end
section
open PySem PySem.Spec PyProof.Rows L2 Z
local macro_rules | `(tactic| ktr_room) => `(tactic| first
  | assumption
  | (apply SqT.of; assumption)
  | (apply SqL.of; assumption)
  | (apply sqt_same; assumption; ktr_room)
  | (apply sql_same; assumption; ktr_room)
  | (apply sqt_but; assumption; assumption; ktr_room)
  | (apply sql_but; assumption; assumption; ktr_room)
  | (apply Same.of_; assumption; ktr_room)
  | (apply But.of_; assumption; assumption; ktr_room)
  | exact same_refl
  | exact but_refl
  | (apply same_tr; assumption; ktr_room)
  | (apply same_but; assumption; ktr_room; assumption)
  | (apply but_tr; assumption; ktr_room)
  | (apply but_trB; assumption; ktr_room))
local macro_rules | `(tactic| ktr_units) => `(tactic| first | with_reducible assumption | omega | rfl | exact ⟨by omega, by omega⟩ | exact .inl ⟨by omega, by omega⟩ | exact .inr ⟨by omega, by omega⟩ | exact ⟨by decide, by decide, by decide⟩ | exact Nat.le_of_ble_eq_true rfl | decide)
local macro_rules | `(tactic| kc_close) => `(tactic| repeat (with_reducible first
  | refine s_var (by with_unfolding_all rfl) ?_
  | refine s_c ?_
  | refine s_op ?_
  | refine s_rI0 ?_
  | refine s_asg ?_
  | refine s_gname ?_
  | refine s_seq ?_
  | refine s_cons ?_
  | refine s_nil ?_
  | refine s_call ?_
  | refine s_ret ?_
  | o_fieldsN
  | refine s_test ?_
  | refine s_bl ?_
  | refine s_rI (by with_unfolding_all (ktr_units)) ?_
  | refine s_rEq rfl ?_
  | refine s_rNe rfl ?_
  | refine s_cb ?_
  | refine s_int1 ?_
  | refine s_intB ?_
  | refine s_max2 ?_
  | refine s_min2 ?_
  | refine s_tup ?_
  | refine s_lst ?_
  | refine s_newT (by with_unfolding_all first | decide | exact Nat.le_of_ble_eq_true rfl) ?_
  | refine s_newL (by with_unfolding_all first | decide | exact Nat.le_of_ble_eq_true rfl) ?_
  | refine s_ixT (by ktr_room) (by with_unfolding_all rfl) ?_
  | refine s_ixL (by ktr_room) (by with_unfolding_all rfl) ?_
  | refine s_lenT (by ktr_room) ?_
  | refine s_lenL (by ktr_room) ?_
  | refine s_un ?_
  | refine s_rU ?_
  | refine s_and ?_
  | refine s_or ?_
  | refine s_not ?_
  | refine s_tB ?_
  | refine s_tru ?_
  | refine s_drop ?_
  | refine s_next ?_
  | refine s_for ?_
  | refine s_rng1 ?_
  | refine s_rng2 ?_
  | refine s_rng3 ?_
  | refine s_ilist ?_
  | refine s_itup ?_
  | refine s_iany ?_
  | refine s_ienum ?_
  | refine s_irev ?_
  | refine s_gcons ?_
  | refine s_gnil ?_
  | refine s_gtup (by ktr_room) (by with_unfolding_all rfl) ?_
  | refine s_gsub ?_
  | refine s_augS ?_
  | refine s_aug (by with_unfolding_all rfl) ?_
  | refine s_ipI ?_
  | refine s_bm ?_
  | refine s_bm0 ?_
  | refine s_tyL (by ktr_room) ?_
  | refine s_tyL0 (by ktr_room) ?_
  | refine s_sl ?_
  | refine s_part ?_
  | refine s_partv ?_
  | refine s_noPart ?_
  | refine s_lc ?_
  | refine s_yes ?_
  | refine s_wipe (by with_unfolding_all rfl) ?_
  | refine iteT ?_
  | refine s_retN ?_
  | refine s_isN ?_
  | refine s_truB ?_
  | refine s_isB2 ?_
  | refine s_notB2 ?_
  | refine s_revT ?_
  | refine s_andV ?_
  | refine s_orV ?_
  | refine s_ifE ?_
  | refine s_notK ?_
  | refine s_notN ?_
  | refine s_truL (by ktr_room) ?_
  | refine s_truT (by ktr_room) ?_))
open K1
local macro_rules | `(tactic| ktr_room) => `(tactic| first
  | (apply DR.same; assumption; ktr_room)
  | (apply sqt_butD; assumption; ktr_room; ktr_room))
open K1
local macro_rules | `(tactic| o_fieldsN) => `(tactic| with_reducible first
  | refine s_tyS ?_
  | refine s_fld ?_)
namespace K1
open TL ML
/-! what the digits choose -/
theorem digR_at : ∀ (k : Nat) (bs : List Nat) (i : Nat) (b : Nat), bs[i]? = some b → 0 < b → ∃ d, (digR k bs)[i]? = some d ∧ d < b
  | _, [], i, b, e, _ => by simp at e
  | k, c :: r, 0, b, e, hb => by
    have : c = b := by simpa using e
    subst this
    exact ⟨k % c, rfl, Nat.mod_lt _ hb⟩
  | k, c :: r, i + 1, b, e, hb => by
    obtain ⟨d, h1, h2⟩ := digR_at (k / c) r i b (by simpa using e) hb
    exact ⟨d, by rw [digR]; simpa using h1, h2⟩
theorem digs_at {k : Nat} {bs : List Nat} {i b : Nat} (e : bs[i]? = some b) (hb : 0 < b) : ∃ d, (digs k bs)[i]? = some d ∧ d < b := by
  have hi := (List.getElem?_eq_some_iff.mp e).1
  have e2 : bs.reverse[bs.length - 1 - i]? = some b := by
    rw [List.getElem?_reverse (by omega), ← e]
    congr 1
    omega
  obtain ⟨d, h1, h2⟩ := digR_at k bs.reverse _ b e2 hb
  refine ⟨d, ?_, h2⟩
  unfold digs
  have hl := digR_len k bs.reverse
  rw [List.length_reverse] at hl
  rw [List.getElem?_reverse (by omega), hl]
  exact h1
section
variable {α : Type} [DecidableEq α]
theorem bases_get {ag : Bool} {n s i : Nat} (h : i < s) : (basesN ag n s)[i]? = some (if ag then n else n - i) := by
  unfold basesN
  rw [List.getElem?_map, List.getElem?_range h]
  rfl
/-- found, left, behind so many digits -/
def stepsN (xs : List α) (ag : Bool) (k s i : Nat) : List α × List α := atN xs ag ((digs k (basesN ag xs.length s)).take i)
theorem steps_len (xs : List α) (ag : Bool) (k s : Nat) (hs : ag = true ∨ s ≤ xs.length) (h0 : 0 < xs.length ∨ s = 0) : ∀ i ≤ s, (stepsN xs ag k s i).1.length = i ∧ (stepsN xs ag k s i).2.length = if ag then xs.length else xs.length - i
  | 0, _ => by
    unfold stepsN atN
    refine ⟨rfl, ?_⟩
    cases ag <;> rfl
  | i + 1, hi => by
    obtain ⟨h1, h2⟩ := steps_len xs ag k s hs h0 i (by omega)
    obtain ⟨d, hd, hlt⟩ := digs_at (k := k) (bases_get (ag := ag) (n := xs.length) (s := s) (i := i) (by omega)) (by
      cases ag with
      | true => show 0 < xs.length; omega
      | false =>
        show 0 < xs.length - i
        have := hs.resolve_left (by decide)
        omega)
    have e : stepsN xs ag k s (i + 1) = stepN ag (stepsN xs ag k s i) d := by
      unfold stepsN
      rw [List.take_add_one, hd]
      exact atN_snoc _ _ _ _
    rw [← h2] at hlt
    obtain ⟨x, hx⟩ : ∃ x, (stepsN xs ag k s i).2[d]? = some x := ⟨_, List.getElem?_eq_getElem hlt⟩
    rw [e]
    unfold stepN
    rw [hx]
    dsimp only
    refine ⟨by rw [List.length_append, h1]; rfl, ?_⟩
    cases ag with
    | true => exact h2
    | false =>
      show ((stepsN xs false k s i).2.eraseIdx d).length = xs.length - (i + 1)
      rw [List.length_eraseIdx_of_lt hlt, h2]
      show xs.length - i - 1 = _
      omega
theorem steps_succ (xs : List α) (ag : Bool) (k s i : Nat) (hs : ag = true ∨ s ≤ xs.length) (h0 : 0 < xs.length ∨ s = 0) (hi : i < s) : ∃ d x, (digs k (basesN ag xs.length s))[i]? = some d ∧ (stepsN xs ag k s i).2[d]? = some x ∧ d ≤ xs.length ∧
    stepsN xs ag k s (i + 1) = ((stepsN xs ag k s i).1 ++ [x], if ag then (stepsN xs ag k s i).2 else (stepsN xs ag k s i).2.eraseIdx d) := by
  obtain ⟨h1, h2⟩ := steps_len xs ag k s hs h0 i (by omega)
  obtain ⟨d, hd, hlt⟩ := digs_at (k := k) (bases_get (ag := ag) (n := xs.length) (s := s) (i := i) (by omega)) (by
    cases ag with
    | true => show 0 < xs.length; omega
    | false =>
      show 0 < xs.length - i
      have := hs.resolve_left (by decide)
      omega)
  have e : stepsN xs ag k s (i + 1) = stepN ag (stepsN xs ag k s i) d := by
    unfold stepsN
    rw [List.take_add_one, hd]
    exact atN_snoc _ _ _ _
  have hle : d ≤ xs.length := by revert hlt; cases ag <;> simp <;> omega
  rw [← h2] at hlt
  obtain ⟨x, hx⟩ : ∃ x, (stepsN xs ag k s i).2[d]? = some x := ⟨_, List.getElem?_eq_getElem hlt⟩
  refine ⟨d, x, hd, hx, hle, ?_⟩
  rw [e]
  unfold stepN
  rw [hx]
theorem bases_len (ag : Bool) (n s : Nat) : (basesN ag n s).length = s := by
  unfold basesN
  rw [List.length_map, List.length_range]
theorem steps_all (xs : List α) (ag : Bool) (k s : Nat) : stepsN xs ag k s s = atN xs ag (digs k (basesN ag xs.length s)) := by
  unfold stepsN
  rw [List.take_of_length_le (by rw [digs_len, bases_len]; exact Nat.le_refl _)]
end
theorem map_str_erase (l : List Str) (i : Nat) : (l.map V.str).eraseIdx i = (l.eraseIdx i).map V.str := (map_eraseG _ _ _).symm
section
variable {P : Program} {w : World} {K : PySem.W.Frag} {mg : Str → Option Value} {base : Heap}
def spNamesAt (K : PySem.W.Frag) : Sp := fun vs H Q _ => ∃ (v : V) (k : Int), vs = [v, .int k] ∧ ∃ e s xs, nmL e = some (s, xs) ∧ Im K H (lotD e) v ∧ (∀ k s xs, e = .pick k s xs → k ≤ 2) ∧ 0 ≤ k ∧ 0 ≤ s ∧ s ≤ 6 ∧ xs.length ≤ 12 ∧ (agL e = false → s.toNat ≤ xs.length) ∧ (0 < xs.length ∨ s = 0) ∧
  ∀ H' x, Same H H' → Im K H' (namesD (ML.atN xs (agL e) (digs k.toNat (basesN (agL e) xs.length s.toNat))).1) x → Q x H'
abbrev stNa (lot k left found at' : Option V := none) : L2.St := [lot, k, left, found, at']
theorem ok__names_at (T : NoB mg) (h : Has K mg "_names_at" (topS 22) ["lot", "k"]) (G_names_of : Good P w K mg base (1) "names_of" ["e"] (spNamesOf K)) (G__digits : Good P w K mg base (1) "_digits" ["k", "bases"] (spDigits K)) (G_bases_of : Good P w K mg base (2) "bases_of" ["e"] (spBasesOf K)) : Good P w K mg base 3 "_names_at" ["lot", "k"] (spNamesAt K) := by
  have sc : FnScope ["lot", "k", "left", "found", "at"] ["lot", "k"] (defScope (topS 22)) := ⟨rfl, rfl, rfl, by decide +kernel, rfl, by decide +kernel, by decide +kernel⟩
  have nd := sc.nd
  refine h.good sc (fun vs H Q E h => by obtain ⟨v, k, rfl, _⟩ := h; rfl) (fun f cdv A outer s H vs Q E hr h => ?_)
  obtain ⟨v, k, rfl, hyp⟩ := h
  refine ⟨_, (pss_cons (ps_set (i := 2) nd rfl (by first | exact .inl rfl | exact .inr rfl) (pe_callTy (c_lstK K) (by rfl) T.n_list (by decide +kernel) (pa_cons (pe_ix (ix_tupK K) (pe_callG G_names_of (hr.mono (by first | decide | omega)) (by rfl) (pa_cons (pv 0) pa_nil)) pe_int (fun _ _ => rfl)) pa_nil)))
  (pss_cons (ps_set (i := 3) nd rfl (by first | exact .inl rfl | exact .inr rfl) (pe_lst pa_nil))
  (pss_cons (ps_for PassesOwn.never rfl (pi_listK K (pe_callG G__digits (hr.mono (by first | decide | omega)) (by rfl) (pa_cons (pv 1) (pa_cons (pe_callG G_bases_of (hr.mono (by first | decide | omega)) (by rfl) (pa_cons (pv 0) pa_nil)) pa_nil)))) (pg_name (i := 4) nd rfl (by first | exact .inl rfl | exact .inr rfl))
  (pss_cons (ps_expr (pe_bmK K PySem.F.plainAttrs_list PySem.F.slot_list_append PySem.F.type_list_append mt_append (pv 3) (pa_cons (pe_ix (ix_listK K) (pv 2) (pv 4) (fun _ _ => rfl)) pa_nil)))
  (pss_one (ps_if (pt_cmpR op_ne (pe_ix (ix_tupK K) (pv 0) pe_int (fun _ _ => rfl)) pe_str (nomark _))
  (pss_one (ps_expr (pe_bmK K PySem.F.plainAttrs_list PySem.F.slot_list_pop PySem.F.type_list_pop mt_popAt (pv 2) (pa_cons (pv 4) pa_nil)))) pss_nil))))
  (pss_one (ps_ret (pe_callTy (c_tupK K) (by rfl) T.n_tuple (by decide +kernel) (pa_cons (pv 3) pa_nil))))))), ?_⟩
  try dsimp only [cxOf, Cx.wish]
  obtain ⟨e, s, xs, he, him, hk, k0, s0, s6, n12, hag, hn0, q⟩ := hyp
  have line : (100000 : Nat) < sizeLine := by decide
  have hs' : agL e = true ∨ s.toNat ≤ xs.length := by
    cases h : agL e with
    | true => exact .inl rfl
    | false => exact .inr (hag h)
  have hn' : 0 < xs.length ∨ s.toNat = 0 := by omega
  obtain ⟨kn, rfl⟩ : ∃ kn : Nat, k = kn := ⟨k.toNat, by omega⟩
  rw [Int.toNat_natCast] at q
  obtain ⟨a, r, rfl, ha⟩ := nm_head he him
  have hhead := head_ag he hk
  refine s_seq ?_
  refine s_cut (fun σ' H' => ∃ L, σ' = stNa (some (.ref a)) (some (.int kn)) (some (.ref L)) ∧ Same H H' ∧ H L = none ∧ H' L = some (.lst (xs.map V.str))) (fun N hN => ?_) ?_
  · kc_close
    refine ⟨_, rfl, e, s, xs, he, him, hk, fun H1 T nv s1 n1 eT hnv => ?_⟩
    kc_close
    refine s_lstT hnv fun L H2 n2 s2 e2 => ?_
    kc_close
    exact hN _ _ ⟨L, rfl, s1.trans s2, none_back s1 n2, e2⟩
  rintro _ H2 ⟨L, rfl, s2, nL, eL⟩
  refine s_seq ?_
  refine s_cut (fun σ' H' => ∃ F, σ' = stNa (some (.ref a)) (some (.int kn)) (some (.ref L)) (some (.ref F)) ∧ Same H H' ∧ H' L = some (.lst (xs.map V.str)) ∧ H F = none ∧ F ≠ L ∧ H' F = some (.lst [])) (fun N hN => ?_) ?_
  · kc_close
    intro F H3 n3 s3 e3
    kc_close
    exact hN _ _ ⟨F, rfl, s2.trans s3, s3 _ _ eL, none_back s2 n3, (fun z => by rw [z, eL] at n3; cases n3), e3⟩
  rintro _ H3 ⟨F, rfl, s3, eL3, nF, hFL, eF3⟩
  kc_close
  refine ⟨.ref a, rfl, e, s, xs, he, him.tk (TK.same s3), hk, s0, s6, n12, hag, fun H4 B s4 n4 e4 => ?_⟩
  kc_close
  refine ⟨kn, B, rfl, _, SqL.of e4, by rw [bases_len]; omega, ?_, fun H5 P5 s5 n5 e5 => ?_⟩
  · intro z hz
    unfold basesN at hz
    obtain ⟨i, hi, rfl⟩ := List.mem_map.mp hz
    have hi := List.mem_range.mp hi
    rcases hs' with h | h
    · rw [h]
      show 1 ≤ xs.length ∧ xs.length ≤ 1000000
      omega
    · split <;> omega
  have s35 := s4.trans s5
  have hPF : P5 ≠ F := fun z => by
    have := s4 _ _ eF3
    rw [← z, n5] at this
    cases this
  have hPL : P5 ≠ L := fun z => by
    have := s4 _ _ eL3
    rw [← z, n5] at this
    cases this
  have hlen : (digs kn (basesN (agL e) xs.length s.toNat)).length = s.toNat := by rw [digs_len, bases_len]
  kc_close
  refine s_ilistv (SqL.of e5) ?_
  refine w_list (xs := (digs kn (basesN (agL e) xs.length s.toNat)).map fun (n : Nat) => V.int (n : Int)) (fun i σ' H' => ∃ y, σ' = stNa (some (.ref a)) (some (.int kn)) (some (.ref L)) (some (.ref F)) y ∧ Same H H' ∧ H' P5 = some (.lst ((digs kn (basesN (agL e) xs.length s.toNat)).map fun (n : Nat) => V.int (n : Int))) ∧ H' L = some (.lst ((stepsN xs (agL e) kn s.toNat i).2.map V.str)) ∧ H' F = some (.lst ((stepsN xs (agL e) kn s.toNat i).1.map V.str))) ⟨none, rfl, s3.trans s35, e5, s35 _ _ eL3, s35 _ _ eF3⟩ (fun i σ' H' _ z => by
    obtain ⟨_, _, _, h, _⟩ := z
    exact SqL.of h) ?_ ?_
  · rintro i x _ H6 ex ⟨y, rfl, s6', e6, eL6, eF6⟩
    have hi : i < s.toNat := by
      have := (List.getElem?_eq_some_iff.mp ex).1
      rw [List.length_map, hlen] at this
      exact this
    obtain ⟨d, z, hd, hz, hdl, hst⟩ := steps_succ xs (agL e) kn s.toNat i hs' hn' hi
    obtain ⟨l1, l2⟩ := steps_len xs (agL e) kn s.toNat hs' hn' i (by omega)
    rw [List.getElem?_map, hd] at ex
    have : x = V.int (d : Int) := by injection ex with ex; exact ex.symm
    subst this
    have hz' : ((stepsN xs (agL e) kn s.toNat i).2.map V.str)[d]? = some (.str z) := by rw [List.getElem?_map, hz]; rfl
    have ha6 := sqt_same s6' ha
    kc_close
    refine s_ixL (SqL.of eL6) (at_gen (k := d) rfl hz') ?_
    kc_close
    refine s_append eF6 (by rw [List.length_map, l1]; omega) fun H7 b7 e7 => ?_
    have eL7 := b7 _ _ (Ne.symm hFL) eL6
    have e7P := b7 _ _ hPF e6
    have s7' := But.same b7 s6' nF
    have ha7 := sqt_same s7' ha
    kc_close
    refine s_if ?_
    kc_close
    refine s_ixT ha7 (at_gen (k := 0) rfl rfl) ?_
    kc_close
    rw [show decide (V.str (headL e) = V.str (Str.ofString "again")) = agL e by rw [← hhead]; exact decide_eq_decide.mpr ⟨fun z => by injection z, fun z => by rw [z]⟩]
    cases hg : agL e with
    | true =>
      refine ifFalse rfl ?_
      kc_close
      rw [hg] at hst eL7 e7 e7P
      refine ⟨_, rfl, s7', e7P, ?_, ?_⟩
      · rw [hst]; exact eL7
      · rw [hst, List.map_append]; exact e7
    | false =>
      refine ifTrue rfl ?_
      kc_close
      refine s_popAt (y := .str z) eL7 (by omega) (by omega) (by rw [Int.toNat_natCast]; exact hz') fun H8 b8 e8 => ?_
      kc_close
      rw [hg] at hst e8 e7 e7P
      refine ⟨_, rfl, But.same b8 s7' nL, b8 _ _ hPL e7P, ?_, ?_⟩
      · rw [hst, e8, Int.toNat_natCast, map_str_erase]; rfl
      · rw [hst, List.map_append]; exact b8 _ _ hFL e7
  · rintro _ H6 ⟨y, rfl, s6', e6, eL6, eF6⟩
    rw [List.length_map, hlen, steps_all] at eF6
    kc_close
    refine s_tupL (SqL.of eF6) fun T H7 n7 s7 e7 => ?_
    exact q H7 _ (s6'.trans s7) (im_names (SqT.of e7))
end
end K1
end
section
open PySem PySem.Spec PyProof.Rows L2 Z
local macro_rules | `(tactic| ktr_room) => `(tactic| first
  | assumption
  | (apply SqT.of; assumption)
  | (apply SqL.of; assumption)
  | (apply sqt_same; assumption; ktr_room)
  | (apply sql_same; assumption; ktr_room)
  | (apply sqt_but; assumption; assumption; ktr_room)
  | (apply sql_but; assumption; assumption; ktr_room)
  | (apply Same.of_; assumption; ktr_room)
  | (apply But.of_; assumption; assumption; ktr_room)
  | exact same_refl
  | exact but_refl
  | (apply same_tr; assumption; ktr_room)
  | (apply same_but; assumption; ktr_room; assumption)
  | (apply but_tr; assumption; ktr_room)
  | (apply but_trB; assumption; ktr_room))
local macro_rules | `(tactic| ktr_units) => `(tactic| first | with_reducible assumption | omega | rfl | exact ⟨by omega, by omega⟩ | exact .inl ⟨by omega, by omega⟩ | exact .inr ⟨by omega, by omega⟩ | exact ⟨by decide, by decide, by decide⟩ | exact Nat.le_of_ble_eq_true rfl | decide)
local macro_rules | `(tactic| kc_close) => `(tactic| repeat (with_reducible first
  | refine s_var (by with_unfolding_all rfl) ?_
  | refine s_c ?_
  | refine s_op ?_
  | refine s_rI0 ?_
  | refine s_asg ?_
  | refine s_gname ?_
  | refine s_seq ?_
  | refine s_cons ?_
  | refine s_nil ?_
  | refine s_call ?_
  | refine s_ret ?_
  | o_fieldsN
  | refine s_test ?_
  | refine s_bl ?_
  | refine s_rI (by with_unfolding_all (ktr_units)) ?_
  | refine s_rEq rfl ?_
  | refine s_rNe rfl ?_
  | refine s_cb ?_
  | refine s_int1 ?_
  | refine s_intB ?_
  | refine s_max2 ?_
  | refine s_min2 ?_
  | refine s_tup ?_
  | refine s_lst ?_
  | refine s_newT (by with_unfolding_all first | decide | exact Nat.le_of_ble_eq_true rfl) ?_
  | refine s_newL (by with_unfolding_all first | decide | exact Nat.le_of_ble_eq_true rfl) ?_
  | refine s_ixT (by ktr_room) (by with_unfolding_all rfl) ?_
  | refine s_ixL (by ktr_room) (by with_unfolding_all rfl) ?_
  | refine s_lenT (by ktr_room) ?_
  | refine s_lenL (by ktr_room) ?_
  | refine s_un ?_
  | refine s_rU ?_
  | refine s_and ?_
  | refine s_or ?_
  | refine s_not ?_
  | refine s_tB ?_
  | refine s_tru ?_
  | refine s_drop ?_
  | refine s_next ?_
  | refine s_for ?_
  | refine s_rng1 ?_
  | refine s_rng2 ?_
  | refine s_rng3 ?_
  | refine s_ilist ?_
  | refine s_itup ?_
  | refine s_iany ?_
  | refine s_ienum ?_
  | refine s_irev ?_
  | refine s_gcons ?_
  | refine s_gnil ?_
  | refine s_gtup (by ktr_room) (by with_unfolding_all rfl) ?_
  | refine s_gsub ?_
  | refine s_augS ?_
  | refine s_aug (by with_unfolding_all rfl) ?_
  | refine s_ipI ?_
  | refine s_bm ?_
  | refine s_bm0 ?_
  | refine s_tyL (by ktr_room) ?_
  | refine s_tyL0 (by ktr_room) ?_
  | refine s_sl ?_
  | refine s_part ?_
  | refine s_partv ?_
  | refine s_noPart ?_
  | refine s_lc ?_
  | refine s_yes ?_
  | refine s_wipe (by with_unfolding_all rfl) ?_
  | refine iteT ?_
  | refine s_retN ?_
  | refine s_isN ?_
  | refine s_truB ?_
  | refine s_isB2 ?_
  | refine s_notB2 ?_
  | refine s_revT ?_
  | refine s_andV ?_
  | refine s_orV ?_
  | refine s_ifE ?_
  | refine s_notK ?_
  | refine s_notN ?_
  | refine s_truL (by ktr_room) ?_
  | refine s_truT (by ktr_room) ?_))
open K1
local macro_rules | `(tactic| ktr_room) => `(tactic| first
  | (apply DR.same; assumption; ktr_room)
  | (apply sqt_butD; assumption; ktr_room; ktr_room))
open K1
local macro_rules | `(tactic| o_fieldsN) => `(tactic| with_reducible first
  | refine s_tyS ?_
  | refine s_fld ?_)
namespace K1
open TL ML
theorem setAt_step {α : Type} {xs : List α} {i : Nat} {x : α} (h : xs[i]? = some x) (s k : Nat) : setAt (xs.drop i) (s + 1) k = if k < ch (xs.length - i - 1) s then x :: setAt (xs.drop (i + 1)) s k else setAt (xs.drop (i + 1)) (s + 1) (k - ch (xs.length - i - 1) s) := by
  have hi := (List.getElem?_eq_some_iff.mp h).1
  have e : xs.drop i = x :: xs.drop (i + 1) := by
    rw [List.drop_eq_getElem_cons hi]
    congr 1
    have := (List.getElem?_eq_some_iff.mp h).2
    exact this
  rw [e, setAt, List.length_drop, show xs.length - (i + 1) = xs.length - i - 1 by omega]
section
variable {P : Program} {w : World} {K : PySem.W.Frag} {mg : Str → Option Value} {base : Heap}
def spSetAt (K : PySem.W.Frag) : Sp := fun vs H Q _ => ∃ (v : V) (k : Int), vs = [v, .int k] ∧ ∃ s xs, Im K H (lotD (.pick 1 s xs)) v ∧ 0 ≤ k ∧ 0 ≤ s ∧ s ≤ 12 ∧ xs.length ≤ 12 ∧
  ∀ H' x, Same H H' → Im K H' (namesD (setAt xs s.toNat k.toNat)) x → Q x H'
abbrev stSa (lot k s names found at' name withIt : Option V := none) : L2.St := [lot, k, s, names, found, at', name, withIt]
theorem setAt_len {α : Type} : ∀ (xs : List α) (s k : Nat), (setAt xs s k).length ≤ s
  | [], s, _ => Nat.zero_le _
  | x :: xs, 0, k => by rw [setAt_zero]; exact Nat.le_refl _
  | x :: xs, s + 1, k => by
    rw [setAt]
    split
    · rw [List.length_cons]
      have := setAt_len xs s k
      omega
    · exact setAt_len xs (s + 1) _
theorem ok__set_at (T : NoB mg) (h : Has K mg "_set_at" (topS 23) ["lot", "k"]) (G_names_of : Good P w K mg base (1) "names_of" ["e"] (spNamesOf K)) (G_sets_of : Good P w K mg base (1) "sets_of" ["many", "s"] (spSetsOf)) : Good P w K mg base 2 "_set_at" ["lot", "k"] (spSetAt K) := by
  have sc : FnScope ["lot", "k", "s", "names", "found", "at", "name", "with_it"] ["lot", "k"] (defScope (topS 23)) := ⟨rfl, rfl, rfl, by decide +kernel, rfl, by decide +kernel, by decide +kernel⟩
  have nd := sc.nd
  refine h.good sc (fun vs H Q E h => by obtain ⟨v, k, rfl, _⟩ := h; rfl) (fun f cdv A outer s H vs Q E hr h => ?_)
  obtain ⟨v, k, rfl, hyp⟩ := h
  refine ⟨_, (pss_cons (ps_asg (pe_callG G_names_of (hr.mono (by first | decide | omega)) (by rfl) (pa_cons (pv 0) pa_nil)) (pg_tupK K 2 (by rfl) (pgs_cons (pg_name (i := 2) nd rfl (by first | exact .inl rfl | exact .inr rfl)) (pgs_cons (pg_name (i := 3) nd rfl (by first | exact .inl rfl | exact .inr rfl)) pgs_nil))))
  (pss_cons (ps_set (i := 4) nd rfl (by first | exact .inl rfl | exact .inr rfl) (pe_lst pa_nil))
  (pss_cons (ps_for PassesOwn.never rfl (pi_enumK K (by rfl) T.n_enumerate (pa_cons (pv 3) pa_nil)) (pg_tupK K 2 (by rfl) (pgs_cons (pg_name (i := 5) nd rfl (by first | exact .inl rfl | exact .inr rfl)) (pgs_cons (pg_name (i := 6) nd rfl (by first | exact .inl rfl | exact .inr rfl)) pgs_nil)))
  (pss_cons (ps_set (i := 7) nd rfl (by first | exact .inl rfl | exact .inr rfl) (pe_callG G_sets_of (hr.mono (by first | decide | omega)) (by rfl) (pa_cons (pe_op op_sub (pe_op op_sub (pe_callB (c_lenK K) (by rfl) T.n_len (by decide +kernel) (pa_cons (pv 3) pa_nil)) (pv 5)) pe_int) (pa_cons (pe_op op_sub (pe_op op_sub (pv 2) (pe_callB (c_lenK K) (by rfl) T.n_len (by decide +kernel) (pa_cons (pv 4) pa_nil))) pe_int) pa_nil))))
  (pss_one (ps_if (pt_cmpR op_lt (pe_callB (c_lenK K) (by rfl) T.n_len (by decide +kernel) (pa_cons (pv 4) pa_nil)) (pv 2) (nomark _))
  (pss_one (ps_if (pt_cmpR op_lt (pv 1) (pv 7) (nomark _))
  (pss_one (ps_expr (pe_bmK K PySem.F.plainAttrs_list PySem.F.slot_list_append PySem.F.type_list_append mt_append (pv 4) (pa_cons (pv 6) pa_nil)))) (pss_one (ps_aug (i := 1) nd rfl (by first | exact .inl rfl | exact .inr rfl) (pv 7) ip_sub)))) pss_nil))))
  (pss_one (ps_ret (pe_callTy (c_tupK K) (by rfl) T.n_tuple (by decide +kernel) (pa_cons (pv 4) pa_nil))))))), ?_⟩
  try dsimp only [cxOf, Cx.wish]
  obtain ⟨s, xs, him, k0, s0, s12, n12, q⟩ := hyp
  have line : (100000 : Nat) < sizeLine := by decide
  refine s_seq ?_
  refine s_cut (fun σ' H' => ∃ nv, σ' = stSa (some v) (some (.int k)) (some (.int s)) (some (.ref nv)) ∧ Same H H' ∧ SqT K H' nv (xs.map V.str)) (fun N hN => ?_) ?_
  · kc_close
    refine ⟨v, rfl, .pick 1 s xs, s, xs, rfl, him, (by intro k s xs h; injection h; omega), fun H1 T nv s1 n1 eT hnv => ?_⟩
    kc_close
    exact hN _ _ ⟨nv, rfl, s1, hnv⟩
  rintro _ H1 ⟨nv, rfl, s1, hnv⟩
  refine s_seq ?_
  refine s_cut (fun σ' H' => ∃ F, σ' = stSa (some v) (some (.int k)) (some (.int s)) (some (.ref nv)) (some (.ref F)) ∧ Same H H' ∧ H F = none ∧ SqT K H' nv (xs.map V.str) ∧ H' F = some (.lst [])) (fun N hN => ?_) ?_
  · kc_close
    intro F H2 n2 s2 e2
    kc_close
    exact hN _ _ ⟨F, rfl, s1.trans s2, none_back s1 n2, sqt_same s2 hnv, e2⟩
  rintro _ H2 ⟨F, rfl, s2, nF, hnv2, eF⟩
  kc_close
  refine s_ienumT hnv2 ?_
  refine w_enumT (xs := xs.map V.str) (fun i σ' H' => ∃ (f : List Str) (k' : Nat) (y1 y2 y3 : Option V), σ' = stSa (some v) (some (.int k')) (some (.int s)) (some (.ref nv)) (some (.ref F)) y1 y2 y3 ∧ Same H H' ∧ SqT K H' nv (xs.map V.str) ∧ H' F = some (.lst (f.map V.str)) ∧ f.length ≤ s.toNat ∧ f ++ setAt (xs.drop i) (s.toNat - f.length) k' = setAt xs s.toNat k.toNat) ⟨[], k.toNat, none, none, none, by rw [Int.toNat_of_nonneg k0], s2, hnv2, eF, Nat.zero_le _, by rw [List.drop_zero]; rfl⟩ (fun i σ' H' _ z => by
    obtain ⟨_, _, _, _, _, _, _, h, _⟩ := z
    exact h) ?_ ?_
  · rintro i x _ H3 T H4 ex ⟨f, k', y1, y2, y3, rfl, s3, hnv3, eF3, hf, hinv⟩ nT s4 eT
    rw [List.getElem?_map] at ex
    obtain ⟨z, ez⟩ : ∃ z, xs[i]? = some z := by
      cases h : xs[i]? with
      | none => rw [h] at ex; cases ex
      | some z => exact ⟨z, rfl⟩
    rw [ez] at ex
    have : x = V.str z := by injection ex with ex; exact ex.symm
    subst this
    have hi := (List.getElem?_eq_some_iff.mp ez).1
    have hnv4 := sqt_same s4 hnv3
    have eF4 := s4 _ _ eF3
    kc_close
    rw [List.length_map, List.length_map]
    refine ⟨_, _, rfl, by omega, by omega, by omega, ?_⟩
    kc_close
    refine s_if ?_
    kc_close
    rw [List.length_map]
    by_cases hfs : (f.length : Int) < s
    · refine ifTrue (decide_eq_true hfs) ?_
      have em : (xs.length : Int) - (i : Int) - 1 = ((xs.length - i - 1 : Nat) : Int) := by omega
      have es : (if 0 < s - (f.length : Int) - 1 then s - (f.length : Int) - 1 else 0) = ((s.toNat - f.length - 1 : Nat) : Int) := by split <;> omega
      rw [em, es, mc_ch (by omega)]
      have hstep := setAt_step ez (s.toNat - f.length - 1) k'
      rw [show s.toNat - f.length - 1 + 1 = s.toNat - f.length by omega] at hstep
      rw [hstep] at hinv
      refine s_if ?_
      kc_close
      by_cases hk : k' < ch (xs.length - i - 1) (s.toNat - f.length - 1)
      · refine ifTrue (decide_eq_true (by omega)) ?_
        rw [if_pos hk] at hinv
        kc_close
        refine s_append eF4 (by rw [List.length_map]; omega) fun H5 b5 e5 => ?_
        kc_close
        have hnv5 := TK.but b5 eF4 _ _ hnv4
        refine ⟨f ++ [z], k', _, _, _, rfl, But.same b5 (s3.trans s4) nF, hnv5, by rw [e5, List.map_append]; rfl, by rw [List.length_append]; show f.length + 1 ≤ _; omega, ?_⟩
        rw [← hinv, List.append_assoc, List.length_append]
        rfl
      · refine ifFalse (decide_eq_false (by omega)) ?_
        rw [if_neg hk] at hinv
        kc_close
        rw [show (k' : Int) - (ch (xs.length - i - 1) (s.toNat - f.length - 1) : Nat) = ((k' - ch (xs.length - i - 1) (s.toNat - f.length - 1) : Nat) : Int) by omega]
        refine ⟨f, k' - ch (xs.length - i - 1) (s.toNat - f.length - 1), _, _, _, rfl, s3.trans s4, hnv4, eF4, hf, ?_⟩
        exact hinv
    · refine ifFalse (decide_eq_false hfs) ?_
      kc_close
      refine ⟨f, k', _, _, _, rfl, s3.trans s4, hnv4, eF4, hf, ?_⟩
      rw [← hinv, show s.toNat - f.length = 0 by omega, setAt_zero, setAt_zero]
  · rintro _ H3 ⟨f, k', y1, y2, y3, rfl, s3, hnv3, eF3, hf, hinv⟩
    rw [List.length_map, List.drop_length] at hinv
    have : setAt ([] : List Str) (s.toNat - f.length) k' = [] := rfl
    rw [this, List.append_nil] at hinv
    subst hinv
    kc_close
    refine s_tupL (SqL.of eF3) fun T H5 n5 s5 e5 => ?_
    exact q H5 _ (s3.trans s5) (im_names (SqT.of e5))
abbrev stSe (lot k u s pairs total found upto before name votes seats : Option V := none) : L2.St := [lot, k, u, s, pairs, total, found, upto, before, name, votes, seats]
theorem ok__seats_at (T : NoB mg) (h : Has K mg "_seats_at" (topS 24) ["lot", "k"]) : Good P w K mg base 1 "_seats_at" ["lot", "k"] (spSeatsL K) := by
  have sc : FnScope ["lot", "k", "_", "s", "pairs", "total", "found", "upto", "before", "name", "votes", "seats"] ["lot", "k"] (defScope (topS 24)) := ⟨rfl, rfl, rfl, by decide +kernel, rfl, by decide +kernel, by decide +kernel⟩
  have nd := sc.nd
  refine h.good sc (fun vs H Q E h => by obtain ⟨v, k, rfl, _⟩ := h; rfl) (fun f cdv A outer s H vs Q E hr h => ?_)
  obtain ⟨v, k, rfl, hyp⟩ := h
  refine ⟨_, (pss_cons (ps_asg (pv 0) (pg_tupK K 3 (by rfl) (pgs_cons (pg_name (i := 2) nd rfl (by first | exact .inl rfl | exact .inr rfl)) (pgs_cons (pg_name (i := 3) nd rfl (by first | exact .inl rfl | exact .inr rfl)) (pgs_cons (pg_name (i := 4) nd rfl (by first | exact .inl rfl | exact .inr rfl)) pgs_nil)))))
  (pss_cons (ps_set (i := 5) nd rfl (by first | exact .inl rfl | exact .inr rfl) (pe_callB (cr_sumK K rfl) (by rfl) T.n_sum (by decide +kernel) (pa_cons (pe_lc (own := [("_", 2), ("votes", 10)]) rfl nd (pi_tupK K (pv 4)) (blkOk_by (own := [("_", 2), ("votes", 10)]) (N := ["lot", "k", "_", "s", "pairs", "total", "found", "upto", "before", "name", "votes", "seats"]) (by kernel_rfl)) (fun _ _ _ _ _ => (pg_tupK K 2 (by rfl) (pgs_cons (pg_name (i := 2) nd rfl (by first | exact .inl rfl | exact .inr rfl)) (pgs_cons (pg_name (i := 10) nd rfl (by first | exact .inl rfl | exact .inr rfl)) pgs_nil)))) (fun _ _ _ _ _ => pts_nil) (fun _ _ _ _ _ => (pv 10))) pa_nil)))
  (pss_cons (ps_set (i := 6) nd rfl (by first | exact .inl rfl | exact .inr rfl) (pe_lst pa_nil))
  (pss_cons (ps_set (i := 7) nd rfl (by first | exact .inl rfl | exact .inr rfl) pe_int)
  (pss_cons (ps_set (i := 8) nd rfl (by first | exact .inl rfl | exact .inr rfl) (pe_op op_fdiv (pv 1) (pv 5)))
  (pss_cons (ps_for PassesOwn.never rfl (pi_tupK K (pv 4)) (pg_tupK K 2 (by rfl) (pgs_cons (pg_name (i := 9) nd rfl (by first | exact .inl rfl | exact .inr rfl)) (pgs_cons (pg_name (i := 10) nd rfl (by first | exact .inl rfl | exact .inr rfl)) pgs_nil)))
  (pss_cons (ps_aug (i := 7) nd rfl (by first | exact .inl rfl | exact .inr rfl) (pv 10) ip_add)
  (pss_cons (ps_set (i := 11) nd rfl (by first | exact .inl rfl | exact .inr rfl) (pe_op op_fdiv (pe_op op_add (pe_op op_mul (pv 7) (pv 3)) (pv 1)) (pv 5)))
  (pss_cons (ps_expr (pe_bmK K PySem.F.plainAttrs_list PySem.F.slot_list_append PySem.F.type_list_append mt_append (pv 6) (pa_cons (pe_tup (pa_cons (pv 9) (pa_cons (pe_op op_sub (pv 11) (pv 8)) pa_nil))) pa_nil)))
  (pss_one (ps_set (i := 8) nd rfl (by first | exact .inl rfl | exact .inr rfl) (pv 11)))))))
  (pss_one (ps_ret (pe_callTy (c_tupK K) (by rfl) T.n_tuple (by decide +kernel) (pa_cons (pv 6) pa_nil)))))))))), ?_⟩
  try dsimp only [cxOf, Cx.wish]
  obtain ⟨s, rows, him, l6, s0, s1, hr, hpos, k0, k1, q⟩ := hyp
  have line : (100000 : Nat) < sizeLine := by decide
  obtain ⟨a, _, rfl, ha, _, _, rfl, rfl, _, _, rfl, rfl, vr, _, rfl, hvr, rfl⟩ := him
  obtain ⟨ra, vs, rfl, hra, his⟩ := hvr
  have lvs := Ims.length his
  rw [List.length_map] at lvs
  have hrow := rows_im his
  refine s_seq ?_
  refine s_cut (fun σ' H' => σ' = stSe (some (.ref a)) (some (.int k)) (some (.str (Str.ofString "seats"))) (some (.int s)) (some (.ref ra)) ∧ H' = H) (fun N hN => ?_) ?_
  · kc_close
    exact hN _ _ ⟨rfl, rfl⟩
  rintro _ H ⟨rfl, rfl⟩
  refine s_seq ?_
  refine s_cut (fun σ' H' => σ' = stSe (some (.ref a)) (some (.int k)) (some (.str (Str.ofString "seats"))) (some (.int s)) (some (.ref ra)) (some (.int (rows.map (·.2)).sum)) ∧ Same H H') (fun N hN => ?_) ?_
  · kc_close
    refine s_itupv hra ?_
    refine l_mapT (fun i => V.int ((rows.map (·.2)).getD i 0)) hra (by omega) ?_ ?_
    · intro D N' i y H' e s' k'
      obtain ⟨r, b, er, rfl, hb⟩ := hrow i y e
      rw [List.getD_eq_getElem?_getD, List.getElem?_map, er] at k'
      have hb' := sqt_same s' hb
      kc_close
      exact k' _ (Same.refl _)
    intro B H2 nB s2 eB
    rw [lvs, row_ints (K := K)] at eB
    kc_close
    refine s_sum (SqL.of eB) ?_
    kc_close
    exact hN _ _ ⟨rfl, s2⟩
  rintro _ H2 ⟨rfl, s2⟩
  have hra2 := sqt_same s2 hra
  have htot6 : (rows.map (·.2)).sum ≤ 600000 := by
    have := sum_bd (xs := rows.map (·.2)) (b := 100000) (fun y hy => by
      obtain ⟨z, hz, rfl⟩ := List.mem_map.mp hy
      exact hr z hz)
    rw [List.length_map] at this
    omega
  generalize htot : (rows.map (·.2)).sum = tot at hpos htot6
  refine s_seq ?_
  refine s_cut (fun σ' H' => ∃ fo, σ' = stSe (some (.ref a)) (some (.int k)) (some (.str (Str.ofString "seats"))) (some (.int s)) (some (.ref ra)) (some (.int tot)) (some (.ref fo)) ∧ Same H2 H' ∧ H2 fo = none ∧ OutsAt K H' fo []) (fun N hN => ?_) ?_
  · kc_close
    intro l H3 n3 s3 e3
    kc_close
    exact hN _ _ ⟨l, rfl, s3, n3, [], e3, rfl⟩
  rintro _ H3 ⟨fo, rfl, s3, nfo, hfo⟩
  obtain ⟨fus, efo, _⟩ := id hfo
  have hra3 := sqt_same s3 hra2
  kc_close
  refine s_itupv hra3 ?_
  refine w_tup (xs := vs) (fun i σ' H' => ∃ y9 y10 y11 : Option V, σ' = stSe (some (.ref a)) (some (.int k)) (some (.str (Str.ofString "seats"))) (some (.int s)) (some (.ref ra)) (some (.int tot)) (some (.ref fo)) (some (.int ((rows.take i).map (·.2)).sum)) (some (.int ((k + ((rows.take i).map (·.2)).sum * s) / tot))) y9 y10 y11 ∧ But fo H3 H' ∧ OutsAt K H' fo (seatsL s tot k (rows.take i))) ⟨none, none, none, by rw [List.take_zero, List.map_nil, List.sum_nil, Int.zero_mul, Int.add_zero]; rfl, But.refl fo H3, hfo⟩ (fun i σ' H' _ z => by
    obtain ⟨_, _, _, _, b, _⟩ := z
    exact sqt_but b efo hra3) ?_ ?_
  · rintro i x _ H4 ex ⟨y9, y10, y11, rfl, b4, us, eu, iu⟩
    obtain ⟨r, b, er, rfl, hb⟩ := hrow i x ex
    have tk4 : TK K H3 H4 := TK.but b4 efo
    have hb4 := tk4 _ _ (sqt_same (s2.trans s3) hb)
    have hr2 := hr r (List.mem_of_getElem? er)
    have lus := Ims.length iu
    rw [seats_len, List.length_take] at lus
    have step : rows.take (i + 1) = rows.take i ++ [r] := by rw [List.take_succ, er]; rfl
    have hsum : ∀ m, 0 ≤ ((rows.take m).map (·.2)).sum ∧ ((rows.take m).map (·.2)).sum ≤ 600000 := fun m => by
      have := sum_bd (xs := (rows.take m).map (·.2)) (b := 100000) (fun y hy => by
        obtain ⟨z, hz, rfl⟩ := List.mem_map.mp hy
        exact hr z (List.mem_of_mem_take hz))
      rw [List.length_map, List.length_take] at this
      omega
    have h1 := hsum i
    have h2 := hsum (i + 1)
    have hS1 : ((rows.take (i + 1)).map (·.2)).sum = ((rows.take i).map (·.2)).sum + r.2 := by
      rw [step, List.map_append, List.sum_append]
      show _ + (r.2 + 0) = _
      rw [Int.add_zero]
    rw [hS1] at h2
    rw [hS1]
    generalize hS : ((rows.take i).map (·.2)).sum = S at h1 h2
    have hprod : 0 ≤ (S + r.2) * s ∧ (S + r.2) * s ≤ 600000 * 1000 := ⟨Int.mul_nonneg h2.1 s0, Int.mul_le_mul h2.2 s1 s0 (by decide)⟩
    kc_close
    intro T H5 n5 s5 e5
    kc_close
    refine s_append (s5 _ _ eu) (by omega) fun H6 b6 e6 => ?_
    have tk6 := TK.but (K := K) b6 (s5 _ _ eu)
    kc_close
    have ek : (S + r.2) * s + k = k + (S + r.2) * s := Int.add_comm _ _
    refine ⟨_, _, _, by rw [ek]; rfl, (b4.trans (But.of s5)).trans b6, _, e6, ?_⟩
    · rw [step, seats_snoc, hS]
      refine Ims.app (Ims.tk tk6 _ _ (ims_sm s5 iu)) (Ims.one ?_)
      refine ⟨T, _, rfl, tk6 _ _ (SqT.of e5), _, _, rfl, rfl, _, _, rfl, ?_, rfl⟩
      show V.int _ = V.int _
      rw [ek, Int.add_mul, Int.add_assoc]
  · rintro _ H4 ⟨y9, y10, y11, rfl, b4, us, eu, iu⟩
    rw [lvs, List.take_length] at iu
    kc_close
    refine s_tupL (SqL.of eu) fun T H5 n5 s5 e5 => ?_
    refine q H5 (.ref T) ((But.same b4 (s2.trans s3) (s2.free nfo)).trans s5) ⟨T, us, rfl, SqT.of e5, ?_⟩
    rw [htot]
    exact ims_sm s5 iu
end
end K1
end
section
open PySem PySem.Spec PyProof.Rows L2 Z
local macro_rules | `(tactic| ktr_room) => `(tactic| first
  | assumption
  | (apply SqT.of; assumption)
  | (apply SqL.of; assumption)
  | (apply sqt_same; assumption; ktr_room)
  | (apply sql_same; assumption; ktr_room)
  | (apply sqt_but; assumption; assumption; ktr_room)
  | (apply sql_but; assumption; assumption; ktr_room)
  | (apply Same.of_; assumption; ktr_room)
  | (apply But.of_; assumption; assumption; ktr_room)
  | exact same_refl
  | exact but_refl
  | (apply same_tr; assumption; ktr_room)
  | (apply same_but; assumption; ktr_room; assumption)
  | (apply but_tr; assumption; ktr_room)
  | (apply but_trB; assumption; ktr_room))
local macro_rules | `(tactic| ktr_units) => `(tactic| first | with_reducible assumption | omega | rfl | exact ⟨by omega, by omega⟩ | exact .inl ⟨by omega, by omega⟩ | exact .inr ⟨by omega, by omega⟩ | exact ⟨by decide, by decide, by decide⟩ | exact Nat.le_of_ble_eq_true rfl | decide)
local macro_rules | `(tactic| kc_close) => `(tactic| repeat (with_reducible first
  | refine s_var (by with_unfolding_all rfl) ?_
  | refine s_c ?_
  | refine s_op ?_
  | refine s_rI0 ?_
  | refine s_asg ?_
  | refine s_gname ?_
  | refine s_seq ?_
  | refine s_cons ?_
  | refine s_nil ?_
  | refine s_call ?_
  | refine s_ret ?_
  | o_fieldsN
  | refine s_test ?_
  | refine s_bl ?_
  | refine s_rI (by with_unfolding_all (ktr_units)) ?_
  | refine s_rEq rfl ?_
  | refine s_rNe rfl ?_
  | refine s_cb ?_
  | refine s_int1 ?_
  | refine s_intB ?_
  | refine s_max2 ?_
  | refine s_min2 ?_
  | refine s_tup ?_
  | refine s_lst ?_
  | refine s_newT (by with_unfolding_all first | decide | exact Nat.le_of_ble_eq_true rfl) ?_
  | refine s_newL (by with_unfolding_all first | decide | exact Nat.le_of_ble_eq_true rfl) ?_
  | refine s_ixT (by ktr_room) (by with_unfolding_all rfl) ?_
  | refine s_ixL (by ktr_room) (by with_unfolding_all rfl) ?_
  | refine s_lenT (by ktr_room) ?_
  | refine s_lenL (by ktr_room) ?_
  | refine s_un ?_
  | refine s_rU ?_
  | refine s_and ?_
  | refine s_or ?_
  | refine s_not ?_
  | refine s_tB ?_
  | refine s_tru ?_
  | refine s_drop ?_
  | refine s_next ?_
  | refine s_for ?_
  | refine s_rng1 ?_
  | refine s_rng2 ?_
  | refine s_rng3 ?_
  | refine s_ilist ?_
  | refine s_itup ?_
  | refine s_iany ?_
  | refine s_ienum ?_
  | refine s_irev ?_
  | refine s_gcons ?_
  | refine s_gnil ?_
  | refine s_gtup (by ktr_room) (by with_unfolding_all rfl) ?_
  | refine s_gsub ?_
  | refine s_augS ?_
  | refine s_aug (by with_unfolding_all rfl) ?_
  | refine s_ipI ?_
  | refine s_bm ?_
  | refine s_bm0 ?_
  | refine s_tyL (by ktr_room) ?_
  | refine s_tyL0 (by ktr_room) ?_
  | refine s_sl ?_
  | refine s_part ?_
  | refine s_partv ?_
  | refine s_noPart ?_
  | refine s_lc ?_
  | refine s_yes ?_
  | refine s_wipe (by with_unfolding_all rfl) ?_
  | refine iteT ?_
  | refine s_retN ?_
  | refine s_isN ?_
  | refine s_truB ?_
  | refine s_isB2 ?_
  | refine s_notB2 ?_
  | refine s_revT ?_
  | refine s_andV ?_
  | refine s_orV ?_
  | refine s_ifE ?_
  | refine s_notK ?_
  | refine s_notN ?_
  | refine s_truL (by ktr_room) ?_
  | refine s_truT (by ktr_room) ?_))
open K1
local macro_rules | `(tactic| ktr_room) => `(tactic| first
  | (apply DR.same; assumption; ktr_room)
  | (apply sqt_butD; assumption; ktr_room; ktr_room))
open K1
local macro_rules | `(tactic| o_fieldsN) => `(tactic| with_reducible first
  | refine s_tyS ?_
  | refine s_fld ?_)
namespace K1
open TL ML
theorem choose_step {ws : List Nat} {i w l : Nat} (h : ws[i]? = some w) (hl : w ≤ l) : i + chooseW (ws.drop i) l = (i + 1) + chooseW (ws.drop (i + 1)) (l - w) := by
  have hi := (List.getElem?_eq_some_iff.mp h).1
  have e : ws.drop i = w :: ws.drop (i + 1) := by
    rw [List.drop_eq_getElem_cons hi]
    congr 1
    exact (List.getElem?_eq_some_iff.mp h).2
  rw [e, chooseW, if_neg (by omega)]
  omega
theorem choose_stop {ws : List Nat} {i w l : Nat} (h : ws[i]? = some w) (hl : l < w) : chooseW (ws.drop i) l = 0 := by
  have hi := (List.getElem?_eq_some_iff.mp h).1
  have e : ws.drop i = w :: ws.drop (i + 1) := by
    rw [List.drop_eq_getElem_cons hi]
    congr 1
    exact (List.getElem?_eq_some_iff.mp h).2
  rw [e, chooseW, if_pos hl]
theorem sum_drop {ws : List Nat} {i w : Nat} (h : ws[i]? = some w) : (ws.drop i).sum = w + (ws.drop (i + 1)).sum := by
  have hi := (List.getElem?_eq_some_iff.mp h).1
  have e : ws.drop i = w :: ws.drop (i + 1) := by
    rw [List.drop_eq_getElem_cons hi]
    congr 1
    exact (List.getElem?_eq_some_iff.mp h).2
  rw [e, List.sum_cons]
abbrev NoS : Addr → Prop := fun _ => False
def chosL : Lot → Bool
  | .prizes _ _ => true
  | .among _ _ => true
  | _ => false
/-- how an outcome of a part becomes one of the whole -/
def Tell : Lot → Nat → PyData → PyData → Prop
  | .prizes _ rows, i, o, o' => i < rows.length ∧ o = consD (nthR rows i).1 o' ∧ ∃ ds, o' = .tuple ds ∧ ds.length ≤ 1000
  | _, _, o, o' => o = o'
def empL : Lot → Bool
  | .prizes s _ => decide (s = 0)
  | _ => false
theorem chosen_view {K : PySem.W.Frag} {H : Hp} {n : Nat} {e : Lot} {out : List PyData} {v : V} (hc : chosL e = true) (hemp : empL e = false) (he : ROk (n + 1) e) (hall : allF (n + 1) e = some out) (h : NdF K NoS H (n + 1) e v) :
    ∃ p lv wa pa vs rs, v = .ref p ∧ OAt K H p (mF lv (.int (out.length : Int)) (.ref wa) (.ref pa) (.int ((mixC rs : Nat) : Int))) ∧ Im K H (lotD e) lv ∧ H wa = some (.lst (rs.map fun (r : Nat × List PyData) => V.int (r.1 : Int))) ∧ H pa = some (.lst vs) ∧ vs.length = rs.length ∧ out = mixL (mixC rs) rs ∧ (∀ r ∈ rs, LsOk r.2) ∧
      ∀ (i : Nat) (r : Nat × List PyData) (u : V), rs[i]? = some r → vs[i]? = some u → ∃ e' out', ROk n e' ∧ allF n e' = some out' ∧ NdF K NoS H n e' u ∧ r.2.length = out'.length ∧ ∀ (j : Nat) (o : PyData), r.2[j]? = some o → ∃ o', out'[j]? = some o' ∧ Tell e i o o' := by
  obtain ⟨p, lv, wv, pv, st, out', rfl, ho', hob, hlv, hsub⟩ := h
  rw [hall] at ho'
  have : out = out' := by injection ho'
  subst this
  cases e with
  | prizes s rows =>
    have h0 : s ≠ 0 := of_decide_eq_false hemp
    have hsub : if s = 0 then _ else _ := hsub
    rw [if_neg h0] at hsub
    obtain ⟨wa, pa, vs, rs', rfl, rfl, ⟨hwa, _⟩, ⟨hpa, _⟩, hp, hopt, rfl⟩ := hsub
    obtain ⟨rs, hopt2, hlrs, hout, hmx, hps, hlok, hws, hget⟩ := prize_facts he h0 hall
    rw [hopt] at hopt2
    have : rs' = rs := by injection hopt2
    subst this
    have lvs := Paired.length hp
    rw [List.length_range] at lvs
    refine ⟨p, lv, wa, pa, vs, rs', rfl, hob, hlv, by rw [hwa, hws], hpa, by omega, hout, hlok, fun i r u er eu => ?_⟩
    obtain ⟨o, ho, hro, _⟩ := hget i r er
    have hi : i < rows.length := by have := (List.getElem?_eq_some_iff.mp er).1; omega
    obtain ⟨k, ek, hk⟩ := prd_get hp eu
    rw [List.getElem?_range hi] at ek
    have : k = i := by injection ek with ek; exact ek.symm
    subst this
    refine ⟨_, o, erase_rok he h0 hi, ho, hk, by rw [hro, List.length_map], fun j d hd => ?_⟩
    rw [hro, List.getElem?_map] at hd
    cases hj : o[j]? with
    | none => rw [hj] at hd; cases hd
    | some o' =>
      rw [hj] at hd
      obtain ⟨ds, e1, e2⟩ := prizes_tup (erase_rok he h0 hi) ho o' (List.mem_of_getElem? hj)
      have h5 := he.1
      have h6 := he.2.2.1
      exact ⟨o', rfl, hi, by injection hd with hd; exact hd.symm, ds, e1, by omega⟩
  | among ws ls =>
    obtain ⟨wa, pa, vs, rs', rfl, rfl, ⟨hwa, _⟩, ⟨hpa, _⟩, hp, hopt, rfl⟩ := hsub
    obtain ⟨rs, hopt2, hlrs, hout, hmx, hps, hlok, hws, hget⟩ := among_facts he hall
    rw [hopt] at hopt2
    have : rs' = rs := by injection hopt2
    subst this
    have lvs := Paired.length hp
    refine ⟨p, lv, wa, pa, vs, rs', rfl, hob, hlv, by rw [hwa, hws], hpa, by omega, hout, hlok, fun i r u er eu => ?_⟩
    obtain ⟨l, el, hl⟩ := prd_get hp eu
    exact ⟨l, r.2, he.2.2.2.2 l (List.mem_of_getElem? el), hget i r l er el, hl, rfl, fun j o ho => ⟨o, ho, rfl⟩⟩
  | _ => cases hc
section
variable {P : Program} {w : World} {K : PySem.W.Frag} {mg : Str → Option Value} {base : Heap}
theorem ok_measured (h : Has K mg "measured" (topS 7) ["e"]) (GM_Measured : GoodM P w K mg base 1 "Measured" ["self", "lot", "total", "weights", "parts", "stride"] mAs spMInit) (G__chosen_among : Good P w K mg base 3 "_chosen_among" ["e", "weights", "parts"] (spAmongC K))
    (G__measured_prizes : ∀ n, Good P w K mg base (n + 3) "_measured_prizes" ["e", "known"] (spMPr w K n)) (G__product : Good P w K mg base 2 "_product" ["numbers"] (spProduct K)) (G__size_by_itself : Good P w K mg base 3 "_size_by_itself" ["e"] (spSizeSelf K)) : Good P w K mg base 14 "measured" ["e"] (spMeas K 10) := by
  have : ∀ n, Good P w K mg base (n + 4) "measured" ["e"] (spMeas K n) := fun n => by
    induction n with
    | zero =>
      refine good_noA h fun vs H Q E z => ?_
      obtain ⟨v, _, S, e, out, _, h, _⟩ := z
      exact h.elim
    | succ n ih => exact rec_measured n h GM_Measured G__chosen_among (G__measured_prizes (n + 1)) G__product G__size_by_itself ih
  exact this 10
theorem ok_size (h : Has K mg "size" (topS 17) ["e"]) (G_measured : Good P w K mg base (14) "measured" ["e"] (spMeas K 10)) : Good P w K mg base 140 "size" ["e"] (spSize K) := by
  have sc : FnScope ["e"] ["e"] (defScope (topS 17)) := ⟨rfl, rfl, rfl, by decide +kernel, rfl, by decide +kernel, by decide +kernel⟩
  have nd := sc.nd
  refine h.good sc (fun vs H Q E h => by obtain ⟨v, rfl, _⟩ := h; rfl) (fun f cdv A outer s H vs Q E hr h => ?_)
  obtain ⟨v, rfl, hyp⟩ := h
  refine ⟨_, (pss_one (ps_ret (pe_fldK K (pe_callG G_measured (hr.mono (by first | decide | omega)) (by rfl) (pa_cons (pv 0) pa_nil)) rfl))), ?_⟩
  try dsimp only [cxOf, Cx.wish]
  obtain ⟨e, out, he, ha, him, q⟩ := hyp
  kc_close
  refine ⟨v, rfl, NoS, e, out, (fun _ z => z.elim), he, ha, him, fun H1 x s1 nd => ?_⟩
  obtain ⟨p, F, rfl, ho, hF⟩ := nd.tot ha
  kc_close
  exact s_fldO ho hF (q H1 s1)
def spOut (K : PySem.W.Frag) (n : Nat) : Sp := fun vs H Q _ => ∃ (v : V) (k : Int), vs = [v, .int k] ∧ ∃ (e : Lot) (out : List PyData) (d : PyData), ROk n e ∧ allF n e = some out ∧ NdF K NoS H n e v ∧ 0 ≤ k ∧ out[k.toNat % out.length]? = some d ∧ ∀ H' x, Same H H' → Im K H' d x → Q x H'
def spChosen (K : PySem.W.Frag) (n : Nat) : Sp := fun vs H Q _ => ∃ (v : V) (k : Int), vs = [v, .int k] ∧ ∃ (e : Lot) (out : List PyData) (d : PyData), chosL e = true ∧ ROk (n + 1) e ∧ allF (n + 1) e = some out ∧ NdF K NoS H (n + 1) e v ∧ 0 ≤ k ∧ out[k.toNat]? = some d ∧ ∀ H' x, Same H H' → Im K H' d x → Q x H'
abbrev stCo (node k at' left told : Option V := none) : L2.St := [node, k, at', left, told]
theorem okn__chosen_outcome (T : NoB mg) (n : Nat) (h : Has K mg "_chosen_outcome" (topS 20) ["node", "k"]) (G_outcome_at : Good P w K mg base (2*n+4) "outcome_at" ["node", "k"] (spOut K n)) : Good P w K mg base (2*n+5) "_chosen_outcome" ["node", "k"] (spChosen K n) := by
  have sc : FnScope ["node", "k", "at", "left", "told"] ["node", "k"] (defScope (topS 20)) := ⟨rfl, rfl, rfl, by decide +kernel, rfl, by decide +kernel, by decide +kernel⟩
  have nd := sc.nd
  refine h.good sc (fun vs H Q E h => by obtain ⟨a, k, rfl, _⟩ := h; rfl) (fun f cdv A outer s H vs Q E hr h => ?_)
  obtain ⟨a, k, rfl, hyp⟩ := h
  refine ⟨_, (pss_cons (ps_if (pt_cmpR op_eq (pe_callB (c_lenK K) (by rfl) T.n_len (by decide +kernel) (pa_cons (pe_fldK K (pv 0) rfl) pa_nil)) pe_int (nomark _))
  (pss_one (ps_ret (pe_tup pa_nil))) pss_nil)
  (pss_cons (ps_set (i := 2) nd rfl (by first | exact .inl rfl | exact .inr rfl) pe_int)
  (pss_cons (ps_set (i := 3) nd rfl (by first | exact .inl rfl | exact .inr rfl) (pe_op op_fdiv (pv 1) (pe_fldK K (pv 0) rfl)))
  (pss_cons (ps_while PassesOwn.never (pt_cmpR op_ge (pv 3) (pe_ix (ix_listK K) (pe_fldK K (pv 0) rfl) (pv 2) (fun _ _ => rfl)) (nomark _))
  (pss_cons (ps_aug (i := 3) nd rfl (by first | exact .inl rfl | exact .inr rfl) (pe_ix (ix_listK K) (pe_fldK K (pv 0) rfl) (pv 2) (fun _ _ => rfl)) ip_sub)
  (pss_one (ps_aug (i := 2) nd rfl (by first | exact .inl rfl | exact .inr rfl) pe_int ip_add))))
  (pss_cons (ps_set (i := 4) nd rfl (by first | exact .inl rfl | exact .inr rfl) (pe_callG G_outcome_at (hr.mono (by first | decide | omega)) (by rfl) (pa_cons (pe_ix (ix_listK K) (pe_fldK K (pv 0) rfl) (pv 2) (fun _ _ => rfl)) (pa_cons (pe_op op_mod (pv 1) (pe_fldK K (pv 0) rfl)) pa_nil))))
  (pss_cons (ps_if (pt_cmpR op_eq (pe_ix (ix_tupK K) (pe_fldK K (pv 0) rfl) pe_int (fun _ _ => rfl)) pe_str (nomark _))
  (pss_one (ps_ret (pe_op (op_catK K) (pe_tup (pa_cons (pe_ix (ix_seqK K) (pe_ix (ix_seqK K) (pe_ix (ix_tupK K) (pe_fldK K (pv 0) rfl) pe_int (fun _ _ => rfl)) (pv 2) (fun _ _ => rfl)) pe_int (fun _ _ => rfl)) pa_nil)) (pv 4)))) pss_nil)
  (pss_one (ps_ret (pv 4))))))))), ?_⟩
  try dsimp only [cxOf, Cx.wish]
  obtain ⟨e, out, d, hch, he, hall, hnd, k0, hd, q⟩ := hyp
  obtain ⟨kn, rfl⟩ : ∃ kn : Nat, k = kn := ⟨k.toNat, by omega⟩
  rw [Int.toNat_natCast] at hd
  have hkl := (List.getElem?_eq_some_iff.mp hd).1
  by_cases hemp : empL e = true
  · obtain ⟨s, rows, rfl, h0⟩ : ∃ s rows, e = .prizes s rows ∧ s = 0 := by
      cases e <;> first | (exact ⟨_, _, rfl, of_decide_eq_true hemp⟩) | cases hemp
    obtain ⟨p, lv, wv, pv, st, out', rfl, ho', hob, hlv, hsub⟩ := hnd
    have hsub : if s = 0 then _ else _ := hsub
    rw [if_pos h0] at hsub
    obtain ⟨pa, rfl, hpa, _⟩ := hsub
    have ha' : (if s = 0 then some [.tuple []] else mixO (prizeRows (allF n) s rows)) = some out := hall
    rw [if_pos h0] at ha'
    have : out = [.tuple []] := by injection ha' with ha'; exact ha'.symm
    subst this
    have : d = .tuple [] := by
      cases kn with
      | zero => simpa using hd.symm
      | succ k => simp at hd
    subst this
    kc_close
    refine s_if ?_
    kc_close
    refine s_fldO hob (mF_parts _ _ _ _ _) ?_
    kc_close
    refine ifTrue (by decide) ?_
    kc_close
    intro T H1 n1 s1 e1
    exact q H1 _ s1 ⟨T, [], rfl, SqT.of e1, rfl⟩
  have hemp : empL e = false := by simpa using hemp
  obtain ⟨p, lv, wa, pa, vs, rs, rfl, hob, hlv, hwa, hpa, hlen, hout, hlok, hpart⟩ := chosen_view hch hemp he hall hnd
  subst hout
  obtain ⟨w', outs, hrow, hw0, hoo, hc0⟩ := mix_at (fun r m => (hlok r m).pos) hd
  have hl := all_ok he hall
  have hle := hl.le
  have hml := mix_len (c := mixC rs) fun r m => (hlok r m).pos
  have hksum : kn / mixC rs < (rs.map (·.1)).sum := by
    rw [hml] at hkl
    exact Nat.div_lt_of_lt_mul (by rw [Nat.mul_comm]; exact hkl)
  have hcs : mixC rs ≤ 3000 := by
    have : mixC rs ≤ (rs.map (·.1)).sum * mixC rs := Nat.le_mul_of_pos_left _ (Nat.lt_of_le_of_lt (Nat.zero_le _) hksum)
    omega
  have FL := mF_lot lv (.int ((mixL (mixC rs) rs).length : Int)) (.ref wa) (.ref pa) (.int ((mixC rs : Nat) : Int))
  have FW := mF_weights lv (.int ((mixL (mixC rs) rs).length : Int)) (.ref wa) (.ref pa) (.int ((mixC rs : Nat) : Int))
  have FP := mF_parts lv (.int ((mixL (mixC rs) rs).length : Int)) (.ref wa) (.ref pa) (.int ((mixC rs : Nat) : Int))
  have FS := mF_stride lv (.int ((mixL (mixC rs) rs).length : Int)) (.ref wa) (.ref pa) (.int ((mixC rs : Nat) : Int))
  generalize hC : chooseW (rs.map (·.1)) (kn / mixC rs) = C at hrow
  have hCl := (List.getElem?_eq_some_iff.mp hrow).1
  refine s_seq ?_
  refine s_if ?_
  kc_close
  refine s_fldO hob FP ?_
  kc_close
  refine ifFalse (decide_eq_false (fun z => by have z := V.int.inj z; omega)) ?_
  kc_close
  refine s_fldO hob FS ?_
  kc_close
  refine s_cut (fun σ' H' => ∃ y, σ' = stCo (some (.ref p)) (some (.int kn)) (some (.int (C : Nat))) y ∧ H' = H) (fun N hN => ?_) ?_
  · refine s_wh (fun σ' H' => ∃ i l : Nat, σ' = stCo (some (.ref p)) (some (.int kn)) (some (.int i)) (some (.int l)) ∧ H' = H ∧ i + chooseW ((rs.map (·.1)).drop i) l = C ∧ l < ((rs.map (·.1)).drop i).sum) (fun σ _ => rs.length - (ival σ 2).toNat) ⟨0, kn / mixC rs, rfl, rfl, by rw [List.drop_zero, Nat.zero_add]; exact hC, by rw [List.drop_zero]; exact hksum⟩ ?_
    rintro _ _ ⟨i, l, rfl, rfl, h1, h2⟩
    have hi : i < rs.length := by
      refine Nat.lt_of_not_le fun z => ?_
      rw [List.drop_of_length_le (by rw [List.length_map]; exact z)] at h2
      exact absurd h2 (Nat.not_lt_zero _)
    obtain ⟨r, er⟩ : ∃ r, rs[i]? = some r := ⟨_, List.getElem?_eq_getElem hi⟩
    have ew : (rs.map (·.1))[i]? = some r.1 := by rw [List.getElem?_map, er]; rfl
    have eV : (rs.map fun (r : Nat × List PyData) => V.int (r.1 : Int))[i]? = some (.int (r.1 : Int)) := by rw [List.getElem?_map, er]; rfl
    kc_close
    refine s_fldO hob FW ?_
    kc_close
    refine s_ixL (SqL.of hwa) (at_gen (k := i) rfl eV) ?_
    kc_close
    refine ifP (fun h => ?_) (fun h => ?_)
    · refine s_wN ?_
      kc_close
      refine s_fldO hob FW ?_
      kc_close
      refine s_ixL (SqL.of hwa) (at_gen (k := i) rfl eV) ?_
      kc_close
      have hrl : r.1 ≤ l := by omega
      have e1 : (l : Int) - (r.1 : Int) = ((l - r.1 : Nat) : Int) := by omega
      rw [e1]
      refine ⟨⟨i + 1, l - r.1, rfl, rfl, ?_, ?_⟩, ?_⟩
      · rw [← choose_step ew hrl]; exact h1
      · rw [sum_drop ew] at h2; omega
      · show rs.length - ((i : Int) + 1).toNat < rs.length - ((i : Int)).toNat
        omega
    · have hrl : l < r.1 := by omega
      rw [choose_stop ew hrl] at h1
      have h1 : i = C := h1
      subst h1
      exact hN _ _ ⟨_, rfl, rfl⟩
  rintro _ H ⟨y, rfl, rfl⟩
  obtain ⟨u, eu⟩ : ∃ u, vs[C]? = some u := ⟨_, List.getElem?_eq_getElem (by omega)⟩
  obtain ⟨e', out', hr', ha', hn', hlo, hj⟩ := hpart C _ u hrow eu
  obtain ⟨o', eo', htell⟩ := hj _ _ hoo
  refine s_seq ?_
  refine s_cut (fun σ' H' => ∃ y tv, σ' = stCo (some (.ref p)) (some (.int kn)) (some (.int (C : Nat))) y (some tv) ∧ Same H H' ∧ Im K H' o' tv) (fun N hN => ?_) ?_
  · kc_close
    refine s_fldO hob FP ?_
    kc_close
    refine s_ixL (SqL.of hpa) (at_gen (k := C) rfl eu) ?_
    kc_close
    refine s_fldO hob FS ?_
    kc_close
    refine ⟨u, _, rfl, e', out', o', hr', ha', hn', by omega, ?_, fun H1 tv s1 i1 => ?_⟩
    · rw [show (((kn : Int)) % ((mixC rs : Nat) : Int)).toNat = kn % mixC rs by omega, ← hlo]
      exact eo'
    · kc_close
      exact hN _ _ ⟨_, tv, rfl, s1, i1⟩
  rintro _ H1 ⟨y', tv, rfl, s1, i1⟩
  have hob1 := hob.same s1
  have hlv1 := hlv.tk (TK.same s1)
  cases e with
  | among ws ls =>
    obtain ⟨a, _, rfl, ha, _, _, rfl, rfl, vl, _, rfl, hvl, rfl⟩ := hlv1
    have : d = o' := htell
    subst this
    kc_close
    refine s_if ?_
    kc_close
    refine s_fldO hob1 FL ?_
    kc_close
    refine ifFalse (by decide +kernel) ?_
    kc_close
    exact q H1 tv s1 i1
  | prizes s rows =>
    obtain ⟨a, _, rfl, ha, _, _, rfl, rfl, _, _, rfl, rfl, vr, _, rfl, hvr, rfl⟩ := hlv1
    obtain ⟨ra, us, rfl, hra, his⟩ := hvr
    have lus := Ims.length his
    rw [List.length_map] at lus
    obtain ⟨hCr, rfl, ds, rfl, hds⟩ := htell
    obtain ⟨x, ex⟩ : ∃ x, us[C]? = some x := ⟨_, List.getElem?_eq_getElem (by omega)⟩
    obtain ⟨r, b, er, rfl, hb⟩ := rows_im his C x ex
    have enth : nthR rows C = r := by unfold nthR; rw [List.getD_eq_getElem?_getD, er]; rfl
    obtain ⟨ta, tus, rfl, hta, hti⟩ := i1
    have ltus := Ims.length hti
    have line : (100000 : Nat) < sizeLine := by decide
    kc_close
    refine s_if ?_
    kc_close
    refine s_fldO hob1 FL ?_
    kc_close
    refine ifTrue (by decide +kernel) ?_
    kc_close
    refine s_fldO hob1 FL ?_
    kc_close
    refine s_ixA (.inr hra) (at_gen (k := C) rfl ex) ?_
    kc_close
    refine s_ixA (.inr hb) (by rfl) ?_
    kc_close
    intro T H2 n2 s2 e2
    kc_close
    refine s_catA (SqT.of e2) (sqt_same s2 hta) (by show 1 + _ ≤ _; omega) fun l H3 s3 hl3 => ?_
    refine q H3 _ ((s1.trans s2).trans s3) ⟨l, _, rfl, hl3, .str r.1, tus, rfl, ?_, ?_⟩
    · rw [enth]; rfl
    · exact Ims.tk (TK.same (s2.trans s3)) _ _ hti
  | _ => cases hch
end
end K1
end
section
open PySem PySem.Spec PyProof.Rows L2 Z
local macro_rules | `(tactic| ktr_room) => `(tactic| first
  | assumption
  | (apply SqT.of; assumption)
  | (apply SqL.of; assumption)
  | (apply sqt_same; assumption; ktr_room)
  | (apply sql_same; assumption; ktr_room)
  | (apply sqt_but; assumption; assumption; ktr_room)
  | (apply sql_but; assumption; assumption; ktr_room)
  | (apply Same.of_; assumption; ktr_room)
  | (apply But.of_; assumption; assumption; ktr_room)
  | exact same_refl
  | exact but_refl
  | (apply same_tr; assumption; ktr_room)
  | (apply same_but; assumption; ktr_room; assumption)
  | (apply but_tr; assumption; ktr_room)
  | (apply but_trB; assumption; ktr_room))
local macro_rules | `(tactic| ktr_units) => `(tactic| first | with_reducible assumption | omega | rfl | exact ⟨by omega, by omega⟩ | exact .inl ⟨by omega, by omega⟩ | exact .inr ⟨by omega, by omega⟩ | exact ⟨by decide, by decide, by decide⟩ | exact Nat.le_of_ble_eq_true rfl | decide)
local macro_rules | `(tactic| kc_close) => `(tactic| repeat (with_reducible first
  | refine s_var (by with_unfolding_all rfl) ?_
  | refine s_c ?_
  | refine s_op ?_
  | refine s_rI0 ?_
  | refine s_asg ?_
  | refine s_gname ?_
  | refine s_seq ?_
  | refine s_cons ?_
  | refine s_nil ?_
  | refine s_call ?_
  | refine s_ret ?_
  | o_fieldsN
  | refine s_test ?_
  | refine s_bl ?_
  | refine s_rI (by with_unfolding_all (ktr_units)) ?_
  | refine s_rEq rfl ?_
  | refine s_rNe rfl ?_
  | refine s_cb ?_
  | refine s_int1 ?_
  | refine s_intB ?_
  | refine s_max2 ?_
  | refine s_min2 ?_
  | refine s_tup ?_
  | refine s_lst ?_
  | refine s_newT (by with_unfolding_all first | decide | exact Nat.le_of_ble_eq_true rfl) ?_
  | refine s_newL (by with_unfolding_all first | decide | exact Nat.le_of_ble_eq_true rfl) ?_
  | refine s_ixT (by ktr_room) (by with_unfolding_all rfl) ?_
  | refine s_ixL (by ktr_room) (by with_unfolding_all rfl) ?_
  | refine s_lenT (by ktr_room) ?_
  | refine s_lenL (by ktr_room) ?_
  | refine s_un ?_
  | refine s_rU ?_
  | refine s_and ?_
  | refine s_or ?_
  | refine s_not ?_
  | refine s_tB ?_
  | refine s_tru ?_
  | refine s_drop ?_
  | refine s_next ?_
  | refine s_for ?_
  | refine s_rng1 ?_
  | refine s_rng2 ?_
  | refine s_rng3 ?_
  | refine s_ilist ?_
  | refine s_itup ?_
  | refine s_iany ?_
  | refine s_ienum ?_
  | refine s_irev ?_
  | refine s_gcons ?_
  | refine s_gnil ?_
  | refine s_gtup (by ktr_room) (by with_unfolding_all rfl) ?_
  | refine s_gsub ?_
  | refine s_augS ?_
  | refine s_aug (by with_unfolding_all rfl) ?_
  | refine s_ipI ?_
  | refine s_bm ?_
  | refine s_bm0 ?_
  | refine s_tyL (by ktr_room) ?_
  | refine s_tyL0 (by ktr_room) ?_
  | refine s_sl ?_
  | refine s_part ?_
  | refine s_partv ?_
  | refine s_noPart ?_
  | refine s_lc ?_
  | refine s_yes ?_
  | refine s_wipe (by with_unfolding_all rfl) ?_
  | refine iteT ?_
  | refine s_retN ?_
  | refine s_isN ?_
  | refine s_truB ?_
  | refine s_isB2 ?_
  | refine s_notB2 ?_
  | refine s_revT ?_
  | refine s_andV ?_
  | refine s_orV ?_
  | refine s_ifE ?_
  | refine s_notK ?_
  | refine s_notN ?_
  | refine s_truL (by ktr_room) ?_
  | refine s_truT (by ktr_room) ?_))
open K1
local macro_rules | `(tactic| ktr_room) => `(tactic| first
  | (apply DR.same; assumption; ktr_room)
  | (apply sqt_butD; assumption; ktr_room; ktr_room))
open K1
local macro_rules | `(tactic| o_fieldsN) => `(tactic| with_reducible first
  | refine s_tyS ?_
  | refine s_fld ?_)
namespace K1
open TL ML
theorem int_at {os : List (List PyData)} : (((os.map (·.length)).map Int.ofNat).map V.int) = (List.range os.length).map fun i => V.int ((os.map fun o => (o.length : Int)).getD i 0) := by
  have := range_map (ns := os.map fun o => (o.length : Int)) (fun x => x)
  rw [List.length_map] at this
  rw [this, List.map_id', List.map_map, List.map_map, List.map_map]
  rfl
theorem zip_get {α β : Type} : ∀ {as : List α} {bs : List β} {i : Nat} {a : α} {b : β}, as[i]? = some a → bs[i]? = some b → (as.zip bs)[i]? = some (a, b)
  | [], _, i, _, _, e, _ => by simp at e
  | _ :: _, [], i, _, _, _, e => by simp at e
  | a' :: as, b' :: bs, 0, a, b, e, g => by
    have e : a' = a := by simpa using e
    have g : b' = b := by simpa using g
    subst e g
    rfl
  | a' :: as, b' :: bs, i + 1, a, b, e, g => zip_get (as := as) (bs := bs) (i := i) (by simpa using e) (by simpa using g)
section
variable {P : Program} {w : World} {K : PySem.W.Frag} {mg : Str → Option Value} {base : Heap}
abbrev stOa (node k kind places part at' : Option V := none) : L2.St := [node, k, kind, places, part, at']
theorem okn_outcome_at (T : NoB mg) (n : Nat) (h : Has K mg "outcome_at" (topS 19) ["node", "k"]) (G__chosen_outcome : Good P w K mg base (2*n+5) "_chosen_outcome" ["node", "k"] (spChosen K n)) (G__digits : Good P w K mg base (1) "_digits" ["k", "bases"] (spDigits K)) (G_outcome_at : Good P w K mg base (2*n+4) "outcome_at" ["node", "k"] (spOut K n)) (G__set_at : Good P w K mg base (2) "_set_at" ["lot", "k"] (spSetAt K)) (G__seats_at : Good P w K mg base (1) "_seats_at" ["lot", "k"] (spSeatsL K)) (G__names_at : Good P w K mg base (3) "_names_at" ["lot", "k"] (spNamesAt K)) : Good P w K mg base (2*n+6) "outcome_at" ["node", "k"] (spOut K (n+1)) := by
  have sc : FnScope ["node", "k", "kind", "places", "part", "at"] ["node", "k"] (defScope (topS 19)) := ⟨rfl, rfl, rfl, by decide +kernel, rfl, by decide +kernel, by decide +kernel⟩
  have nd := sc.nd
  refine h.good sc (fun vs H Q E h => by obtain ⟨a, k, rfl, _⟩ := h; rfl) (fun f cdv A outer s H vs Q E hr h => ?_)
  obtain ⟨a, k, rfl, hyp⟩ := h
  refine ⟨_, (pss_cons (ps_if (pt_cmpR op_lt (pe_fldK K (pv 0) rfl) pe_int (nomark _))
  (pss_one (ps_ret pe_non)) pss_nil)
  (pss_cons (ps_set (i := 1) nd rfl (by first | exact .inl rfl | exact .inr rfl) (pe_op op_mod (pv 1) (pe_fldK K (pv 0) rfl)))
  (pss_cons (ps_set (i := 2) nd rfl (by first | exact .inl rfl | exact .inr rfl) (pe_ix (ix_tupK K) (pe_fldK K (pv 0) rfl) pe_int (fun _ _ => rfl)))
  (pss_cons (ps_if (pt_cmpR op_eq (pv 2) pe_str (nomark _))
  (pss_one (ps_ret (pe_ix (ix_tupK K) (pe_fldK K (pv 0) rfl) pe_int (fun _ _ => rfl)))) pss_nil)
  (pss_cons (ps_if (PW.pt (pw_or (pt_cmpR op_eq (pv 2) pe_str (nomark _)) (pw_or1 (pt_cmpR op_eq (pv 2) pe_str (nomark _)))))
  (pss_one (ps_ret (pe_callG G__chosen_outcome (hr.mono (by first | decide | omega)) (by rfl) (pa_cons (pv 0) (pa_cons (pv 1) pa_nil))))) pss_nil)
  (pss_cons (ps_if (pt_cmpR op_eq (pv 2) pe_str (nomark _))
  (pss_cons (ps_set (i := 3) nd rfl (by first | exact .inl rfl | exact .inr rfl) (pe_callG G__digits (hr.mono (by first | decide | omega)) (by rfl) (pa_cons (pv 1) (pa_cons (pe_lc (own := [("part", 4)]) rfl nd (pi_listK K (pe_fldK K (pv 0) rfl)) (blkOk_by (own := [("part", 4)]) (N := ["node", "k", "kind", "places", "part", "at"]) (by kernel_rfl)) (fun _ _ _ _ _ => (pg_name (i := 4) nd rfl (by first | exact .inl rfl | exact .inr rfl))) (fun _ _ _ _ _ => pts_nil) (fun _ _ _ _ _ => (pe_fldK K (pv 4) rfl))) pa_nil))))
  (pss_one (ps_ret (pe_callTy (c_tupK K) (by rfl) T.n_tuple (by decide +kernel) (pa_cons (pe_lc (own := [("part", 4), ("at", 5)]) rfl nd (pi_zipAK K (by rfl) T.n_zip (pa_cons (pe_fldK K (pv 0) rfl) (pa_cons (pv 3) pa_nil))) (blkOk_by (own := [("part", 4), ("at", 5)]) (N := ["node", "k", "kind", "places", "part", "at"]) (by kernel_rfl)) (fun _ _ _ _ _ => (pg_tupK K 2 (by rfl) (pgs_cons (pg_name (i := 4) nd rfl (by first | exact .inl rfl | exact .inr rfl)) (pgs_cons (pg_name (i := 5) nd rfl (by first | exact .inl rfl | exact .inr rfl)) pgs_nil)))) (fun _ _ _ _ _ => pts_nil) (fun _ _ _ _ _ => (pe_callG G_outcome_at (hr.mono (by first | decide | omega)) (by rfl) (pa_cons (pv 4) (pa_cons (pv 5) pa_nil))))) pa_nil))))) pss_nil)
  (pss_cons (ps_if (pt_cmpR op_eq (pv 2) pe_str (nomark _))
  (pss_one (ps_ret (pe_callG G__set_at (hr.mono (by first | decide | omega)) (by rfl) (pa_cons (pe_fldK K (pv 0) rfl) (pa_cons (pv 1) pa_nil))))) pss_nil)
  (pss_cons (ps_if (pt_cmpR op_eq (pv 2) pe_str (nomark _))
  (pss_one (ps_ret (pe_callG G__seats_at (hr.mono (by first | decide | omega)) (by rfl) (pa_cons (pe_fldK K (pv 0) rfl) (pa_cons (pv 1) pa_nil))))) pss_nil)
  (pss_one (ps_ret (pe_callG G__names_at (hr.mono (by first | decide | omega)) (by rfl) (pa_cons (pe_fldK K (pv 0) rfl) (pa_cons (pv 1) pa_nil))))))))))))), ?_⟩
  try dsimp only [cxOf, Cx.wish]
  obtain ⟨e, out, d, he, hall, hnd, k0, hd, q⟩ := hyp
  have line : (100000 : Nat) < sizeLine := by decide
  have lsok := all_ok he hall
  have lpos := lsok.pos
  have lle := lsok.le
  obtain ⟨kn, rfl⟩ : ∃ kn : Nat, k = kn := ⟨k.toNat, by omega⟩
  rw [Int.toNat_natCast] at hd
  have hnd0 := hnd
  obtain ⟨p, lv, wv, pv, st, out', rfl, ho', hob, hlv, hsub⟩ := hnd
  rw [hall] at ho'
  have : out = out' := by injection ho'
  subst this
  have FL := mF_lot lv (.int (out.length : Int)) wv pv (.int st)
  have FT := mF_total lv (.int (out.length : Int)) wv pv (.int st)
  have FP := mF_parts lv (.int (out.length : Int)) wv pv (.int st)
  refine s_seq ?_
  refine s_cut (fun σ' H' => σ' = stOa (some (.ref p)) (some (.int kn)) ∧ H' = H) (fun N hN => ?_) ?_
  · refine s_if ?_
    kc_close
    refine s_fldO hob FT ?_
    kc_close
    refine ifFalse (decide_eq_false (by omega)) ?_
    kc_close
    exact hN _ _ ⟨rfl, rfl⟩
  rintro _ H ⟨rfl, rfl⟩
  refine s_seq ?_
  refine s_cut (fun σ' H' => σ' = stOa (some (.ref p)) (some (.int ((kn % out.length : Nat) : Int))) ∧ H' = H) (fun N hN => ?_) ?_
  · kc_close
    refine s_fldO hob FT ?_
    kc_close
    refine hN _ _ ⟨?_, rfl⟩
    rw [Int.natCast_emod]
    rfl
  rintro _ H ⟨rfl, rfl⟩
  have hkl : kn % out.length < out.length := Nat.mod_lt _ lpos
  generalize kn % out.length = k at hd hkl
  cases e with
  | sure x =>
    obtain ⟨a, _, rfl, ha, _, _, rfl, rfl, _, _, rfl, rfl, rfl⟩ := hlv
    have : out = [.str x] := by injection hall with hall; exact hall.symm
    subst this
    have : d = .str x := by
      cases k with
      | zero => simpa using hd.symm
      | succ k => simp at hd
    subst this
    kc_close
    refine s_fldO hob FL ?_
    kc_close
    refine s_if ?_
    kc_close
    refine ifTrue (by decide +kernel) ?_
    kc_close
    refine s_fldO hob FL ?_
    kc_close
    exact q H _ (Same.refl _) rfl
  | order xs =>
    have hlv0 := hlv
    obtain ⟨a, _, rfl, ha, _, _, rfl, rfl, nv, _, rfl, hnm, rfl⟩ := hlv
    have : out = (tupL xs false xs.length).map namesD := by injection hall with hall; exact hall.symm
    subst this
    have nd := he.1
    have n6 := he.2.1
    kc_close
    refine s_fldO hob FL ?_
    kc_close
    refine s_if ?_
    kc_close
    refine ifFalse (by decide +kernel) ?_
    kc_close
    refine s_if ?_
    kc_close
    refine ifFalse (by decide +kernel) ?_
    kc_close
    refine ifFalse (by decide +kernel) ?_
    kc_close
    refine s_if ?_
    kc_close
    refine ifFalse (by decide +kernel) ?_
    kc_close
    refine s_if ?_
    kc_close
    refine ifFalse (by decide +kernel) ?_
    kc_close
    refine s_if ?_
    kc_close
    refine ifFalse (by decide +kernel) ?_
    kc_close
    refine s_fldO hob FL ?_
    kc_close
    refine ⟨.ref a, _, rfl, .order xs, _, xs, rfl, hlv0, (by intro k s xs h; cases h), by omega, by omega, by omega, by omega, (by intro _; omega), by omega, fun H1 x s1 im => ?_⟩
    refine q H1 x s1 ?_
    rw [Int.toNat_natCast, Int.toNat_natCast] at im
    obtain ⟨one, hone, rfl⟩ : ∃ one, (tupL xs false xs.length)[k]? = some one ∧ namesD one = d := by
      rw [List.getElem?_map] at hd
      cases ho : (tupL xs false xs.length)[k]? with
      | none => rw [ho] at hd; cases hd
      | some one => rw [ho] at hd; exact ⟨one, rfl, by injection hd⟩
    have hat := (tup_at nd false xs.length (.inr (Nat.le_refl _))).2.2 k one hone
    have im : Im K H1 (namesD (ML.atN xs false (digs k (basesN false xs.length xs.length))).1) x := im
    rw [hat] at im
    exact im
  | pick kk s xs =>
    have hlv0 := hlv
    have ha' : (if kk = 1 then some ((combL xs s.toNat).map namesD) else some ((tupL xs (decide (kk = 2)) s.toNat).map namesD)) = some out := hall
    obtain ⟨nd, n0, n6, s00, k2, hk1, hk2, hx⟩ := he
    rcases (show kk = 0 ∨ kk = 1 ∨ kk = 2 by omega) with rfl | rfl | rfl
    · have : out = (tupL xs false s.toNat).map namesD := by rw [if_neg (by decide)] at ha'; injection ha' with ha'; exact ha'.symm
      subst this
      have hs := hk1 (by decide)
      obtain ⟨a, _, rfl, ha, _, _, rfl, rfl, _, _, rfl, rfl, nv, _, rfl, hnm, rfl⟩ := hlv
      kc_close
      refine s_fldO hob FL ?_
      kc_close
      refine s_if ?_
      kc_close
      refine ifFalse (by decide +kernel) ?_
      kc_close
      refine s_if ?_
      kc_close
      refine ifFalse (by decide +kernel) ?_
      kc_close
      refine ifFalse (by decide +kernel) ?_
      kc_close
      refine s_if ?_
      kc_close
      refine ifFalse (by decide +kernel) ?_
      kc_close
      refine s_if ?_
      kc_close
      refine ifFalse (by decide +kernel) ?_
      kc_close
      refine s_if ?_
      kc_close
      refine ifFalse (by decide +kernel) ?_
      kc_close
      refine s_fldO hob FL ?_
      kc_close
      refine ⟨.ref a, _, rfl, .pick 0 s xs, _, xs, rfl, hlv0, (by intro k s xs h; injection h; omega), by omega, by omega, by omega, by omega, (by intro _; omega), by omega, fun H1 x s1 im => ?_⟩
      refine q H1 x s1 ?_
      rw [Int.toNat_natCast] at im
      obtain ⟨one, hone, rfl⟩ : ∃ one, (tupL xs false s.toNat)[k]? = some one ∧ namesD one = d := by
        rw [List.getElem?_map] at hd
        cases ho : (tupL xs false s.toNat)[k]? with
        | none => rw [ho] at hd; cases hd
        | some one => rw [ho] at hd; exact ⟨one, rfl, by injection hd⟩
      have hat := (tup_at nd false s.toNat (.inr (by omega))).2.2 k one hone
      have im : Im K H1 (namesD (ML.atN xs false (digs k (basesN false xs.length s.toNat))).1) x := im
      rw [hat] at im
      exact im
    · have : out = (combL xs s.toNat).map namesD := by rw [if_pos rfl] at ha'; injection ha' with ha'; exact ha'.symm
      subst this
      have hs := hk1 (by decide)
      obtain ⟨a, _, rfl, ha, _, _, rfl, rfl, _, _, rfl, rfl, nv, _, rfl, hnm, rfl⟩ := hlv
      kc_close
      refine s_fldO hob FL ?_
      kc_close
      refine s_if ?_
      kc_close
      refine ifFalse (by decide +kernel) ?_
      kc_close
      refine s_if ?_
      kc_close
      refine ifFalse (by decide +kernel) ?_
      kc_close
      refine ifFalse (by decide +kernel) ?_
      kc_close
      refine s_if ?_
      kc_close
      refine ifFalse (by decide +kernel) ?_
      kc_close
      refine s_if ?_
      kc_close
      refine ifTrue (by decide +kernel) ?_
      kc_close
      refine s_fldO hob FL ?_
      kc_close
      refine ⟨.ref a, _, rfl, s, xs, hlv0, by omega, by omega, by omega, by omega, fun H1 x s1 im => ?_⟩
      refine q H1 x s1 ?_
      rw [Int.toNat_natCast] at im
      obtain ⟨one, hone, rfl⟩ : ∃ one, (combL xs s.toNat)[k]? = some one ∧ namesD one = d := by
        rw [List.getElem?_map] at hd
        cases ho : (combL xs s.toNat)[k]? with
        | none => rw [ho] at hd; cases hd
        | some one => rw [ho] at hd; exact ⟨one, rfl, by injection hd⟩
      rw [set_at xs s.toNat k one hone] at im
      exact im
    · have : out = (tupL xs true s.toNat).map namesD := by rw [if_neg (by decide)] at ha'; injection ha' with ha'; exact ha'.symm
      subst this
      have hs := hk2 rfl
      obtain ⟨a, _, rfl, ha, _, _, rfl, rfl, _, _, rfl, rfl, nv, _, rfl, hnm, rfl⟩ := hlv
      kc_close
      refine s_fldO hob FL ?_
      kc_close
      refine s_if ?_
      kc_close
      refine ifFalse (by decide +kernel) ?_
      kc_close
      refine s_if ?_
      kc_close
      refine ifFalse (by decide +kernel) ?_
      kc_close
      refine ifFalse (by decide +kernel) ?_
      kc_close
      refine s_if ?_
      kc_close
      refine ifFalse (by decide +kernel) ?_
      kc_close
      refine s_if ?_
      kc_close
      refine ifFalse (by decide +kernel) ?_
      kc_close
      refine s_if ?_
      kc_close
      refine ifFalse (by decide +kernel) ?_
      kc_close
      refine s_fldO hob FL ?_
      kc_close
      refine ⟨.ref a, _, rfl, .pick 2 s xs, _, xs, rfl, hlv0, (by intro k s xs h; injection h; omega), by omega, by omega, by omega, by omega, (by intro h; cases h), by omega, fun H1 x s1 im => ?_⟩
      refine q H1 x s1 ?_
      rw [Int.toNat_natCast] at im
      obtain ⟨one, hone, rfl⟩ : ∃ one, (tupL xs true s.toNat)[k]? = some one ∧ namesD one = d := by
        rw [List.getElem?_map] at hd
        cases ho : (tupL xs true s.toNat)[k]? with
        | none => rw [ho] at hd; cases hd
        | some one => rw [ho] at hd; exact ⟨one, rfl, by injection hd⟩
      have hat := (tup_at nd true s.toNat (.inl rfl)).2.2 k one hone
      have im : Im K H1 (namesD (ML.atN xs true (digs k (basesN true xs.length s.toNat))).1) x := im
      rw [hat] at im
      exact im
  | seats s rows =>
    have hlv0 := hlv
    obtain ⟨a, _, rfl, ha, _, _, rfl, rfl, _, _, rfl, rfl, vr, _, rfl, hvr, rfl⟩ := hlv
    have e1 : (List.range (Int.toNat (rows.map fun (r : Str × Int) => r.2).sum)).map (fun (i : Nat) => seatD s rows (i : Int)) = out := by injection hall
    subst e1
    obtain ⟨l6, s0, s1, hr, hpos, hmax⟩ := he
    have : d = seatD s rows (k : Int) := by
      rw [List.length_map, List.length_range] at hkl
      rw [List.getElem?_map, List.getElem?_range hkl] at hd
      injection hd with hd
      exact hd.symm
    subst this
    rw [List.length_map, List.length_range] at hkl
    kc_close
    refine s_fldO hob FL ?_
    kc_close
    refine s_if ?_
    kc_close
    refine ifFalse (by decide +kernel) ?_
    kc_close
    refine s_if ?_
    kc_close
    refine ifFalse (by decide +kernel) ?_
    kc_close
    refine ifFalse (by decide +kernel) ?_
    kc_close
    refine s_if ?_
    kc_close
    refine ifFalse (by decide +kernel) ?_
    kc_close
    refine s_if ?_
    kc_close
    refine ifFalse (by decide +kernel) ?_
    kc_close
    refine s_if ?_
    kc_close
    refine ifTrue (by decide +kernel) ?_
    kc_close
    refine s_fldO hob FL ?_
    kc_close
    exact ⟨.ref a, _, rfl, s, rows, hlv0, l6, s0, s1, fun r m => ⟨(hr r m).1, (hr r m).2.1⟩, hpos, by omega, by omega, q⟩
  | both ls =>
    obtain ⟨a, _, rfl, ha, _, _, rfl, rfl, vl, _, rfl, hvl, rfl⟩ := hlv
    obtain ⟨l6, hok⟩ := he
    obtain ⟨os, hlo, hout, hosk, hget⟩ := both_facts ⟨l6, hok⟩ hall
    obtain ⟨pa, vs, rfl, ⟨hpa, _⟩, hp⟩ := hsub
    have lvs := Paired.length hp
    obtain ⟨one, hone, rfl⟩ : ∃ one, (bothL os)[k]? = some one ∧ PyData.tuple one = d := by
      rw [hout, List.getElem?_map] at hd
      cases ho : (bothL os)[k]? with
      | none => rw [ho] at hd; cases hd
      | some one => rw [ho] at hd; exact ⟨one, rfl, by injection hd⟩
    have hba := both_at os.length os rfl k one hone
    have l1 : one.length = os.length := by
      have := congrArg List.length hba
      rw [List.length_map, List.length_map, List.length_zip, digs_len, List.length_map] at this
      omega
    kc_close
    refine s_fldO hob FL ?_
    kc_close
    refine s_if ?_
    kc_close
    refine ifFalse (by decide +kernel) ?_
    kc_close
    refine s_if ?_
    kc_close
    refine ifFalse (by decide +kernel) ?_
    kc_close
    refine ifFalse (by decide +kernel) ?_
    kc_close
    refine s_if ?_
    kc_close
    refine ifTrue (by decide +kernel) ?_
    refine s_seq ?_
    refine s_cut (fun σ' H' => ∃ B, σ' = stOa (some (.ref p)) (some (.int (k : Int))) (some (.str (Str.ofString "both"))) (some (.ref B)) ∧ Same H H' ∧ H' B = some (.lst ((digs k (os.map (·.length))).map fun (n : Nat) => V.int (n : Int)))) (fun N hN => ?_) ?_
    · kc_close
      refine s_fldO hob FP ?_
      kc_close
      refine s_ilistv (SqL.of hpa) ?_
      refine l_mapL (fun i => V.int ((os.map fun o => (o.length : Int)).getD i 0)) (SqL.of hpa) (by omega) ?_ ?_
      · intro D' N' i y H' e' s' k'
        obtain ⟨l, el, ndl⟩ := prd_get hp e'
        obtain ⟨o, eo⟩ : ∃ o, os[i]? = some o := ⟨_, List.getElem?_eq_getElem (by have := (List.getElem?_eq_some_iff.mp el).1; omega)⟩
        obtain ⟨p', F, rfl, ho, hF⟩ := (ndl.same s').tot (hget i o l eo el)
        kc_close
        refine s_fldO ho hF ?_
        rw [List.getD_eq_getElem?_getD, List.getElem?_map, eo] at k'
        exact k' _ (Same.refl _)
      intro T2 H2 nT s2 eT
      rw [show vs.length = os.length by omega, ← int_at, List.map_map] at eT
      have eT : H2 T2 = some (.lst ((os.map (·.length)).map fun (n : Nat) => V.int (n : Int))) := eT
      kc_close
      refine ⟨k, T2, rfl, os.map (·.length), SqL.of eT, by rw [List.length_map]; omega, fun m hm => ?_, fun H3 B s3 n3 e3 => ?_⟩
      · obtain ⟨o, ho, rfl⟩ := List.mem_map.mp hm
        have h1 := (hosk o ho).pos
        have h2 := (hosk o ho).le
        omega
      · kc_close
        exact hN _ _ ⟨B, rfl, s2.trans s3, e3⟩
    rintro _ H3 ⟨B, rfl, s3, eB⟩
    have hob3 := hob.same s3
    have hpa3 := s3 _ _ hpa
    kc_close
    refine s_izipA ?_
    kc_close
    refine s_fldO hob3 FP ?_
    kc_close
    refine s_zipLL (SqL.of hpa3) (SqL.of eB) ?_
    refine l_zipLL (xs := vs) (ys := (digs k (os.map (·.length))).map fun (n : Nat) => V.int (n : Int)) (fun D i H' => H3 D = none ∧ Same H3 H' ∧ ∃ us, H' D = some (.lst us) ∧ Ims K H' (one.take i) us) (by rw [List.length_map, digs_len, List.length_map]; omega) (fun D H4 nD s4 eD => ⟨nD, s4, [], eD, rfl⟩) (fun D i H' z => ⟨SqL.of (z.2.1 _ _ hpa3), SqL.of (z.2.1 _ _ eB)⟩) ?_ ?_
    · rintro D i x y H4 T H5 ex ey ⟨nD, s4, us, eD, iu⟩ nT s5 eT
      obtain ⟨l, el, ndl⟩ := prd_get hp ex
      obtain ⟨o, eo⟩ : ∃ o, os[i]? = some o := ⟨_, List.getElem?_eq_getElem (by have := (List.getElem?_eq_some_iff.mp el).1; omega)⟩
      obtain ⟨g, eg, hg⟩ := digs_at (k := k) (bs := os.map (·.length)) (i := i) (b := o.length) (by rw [List.getElem?_map, eo]; rfl) (hosk o (List.mem_of_getElem? eo)).pos
      rw [List.getElem?_map, eg] at ey
      have : y = V.int (g : Int) := by injection ey with ey; exact ey.symm
      subst this
      have e1 : (one.map some)[i]? = some (o[g]?) := by
        rw [hba, List.getElem?_map, zip_get eo eg]
        rfl
      rw [List.getElem?_map] at e1
      obtain ⟨c, ec, hc⟩ : ∃ c, one[i]? = some c ∧ o[g]? = some c := by
        cases hc : one[i]? with
        | none => rw [hc] at e1; cases e1
        | some c => rw [hc] at e1; exact ⟨c, rfl, by injection e1 with e1; exact e1.symm⟩
      have lus := Ims.length iu
      rw [List.length_take] at lus
      kc_close
      refine ⟨x, (g : Int), rfl, l, o, c, hok l (List.mem_of_getElem? el), hget i o l eo el, (ndl.same s3).same (s4.trans s5), by omega, by rw [Int.toNat_natCast, Nat.mod_eq_of_lt hg]; exact hc, fun H6 z s6 iz => ?_⟩
      have eD6 := s6 _ _ (s5 _ _ eD)
      refine s_lcEnd eD6 (by omega) fun H7 b7 e7 => ?_
      have tk7 := TK.but (K := K) b7 eD6
      refine ⟨nD, But.same b7 ((s4.trans s5).trans s6) nD, _, e7, ?_⟩
      rw [List.take_add_one, ec]
      exact Ims.app (Ims.tk (TK.trans (TK.same (s5.trans s6)) tk7) _ _ iu) (Ims.one (iz.tk tk7))
    · rintro D H4 ⟨nD, s4, us, eD, iu⟩
      rw [List.take_of_length_le (by omega)] at iu
      kc_close
      refine s_tupL (SqL.of eD) fun T H5 n5 s5 e5 => ?_
      exact q H5 _ ((s3.trans s4).trans s5) ⟨T, us, rfl, SqT.of e5, Ims.tk (TK.same s5) _ _ iu⟩
  | prizes s rows =>
    have hlv0 := hlv
    obtain ⟨a, _, rfl, ha, _, _, rfl, rfl, _, _, rfl, rfl, vr, _, rfl, hvr, rfl⟩ := hlv
    kc_close
    refine s_fldO hob FL ?_
    kc_close
    refine s_if ?_
    kc_close
    refine ifFalse (by decide +kernel) ?_
    kc_close
    refine s_if ?_
    kc_close
    refine ifFalse (by decide +kernel) ?_
    kc_close
    refine ifTrue (by decide +kernel) ?_
    kc_close
    exact ⟨.ref p, _, rfl, .prizes s rows, out, d, rfl, he, hall, hnd0, by omega, by rw [Int.toNat_natCast]; exact hd, q⟩
  | among ws ls =>
    have hlv0 := hlv
    obtain ⟨a, _, rfl, ha, _, _, rfl, rfl, vl, _, rfl, hvl, rfl⟩ := hlv
    kc_close
    refine s_fldO hob FL ?_
    kc_close
    refine s_if ?_
    kc_close
    refine ifFalse (by decide +kernel) ?_
    kc_close
    refine s_if ?_
    kc_close
    refine ifTrue (by decide +kernel) ?_
    refine iteT ?_
    kc_close
    exact ⟨.ref p, _, rfl, .among ws ls, out, d, rfl, he, hall, hnd0, by omega, by rw [Int.toNat_natCast]; exact hd, q⟩
theorem ok_outcome_at (T : NoB mg) (h : Has K mg "outcome_at" (topS 19) ["node", "k"]) (hc : Has K mg "_chosen_outcome" (topS 20) ["node", "k"]) (G__digits : Good P w K mg base 1 "_digits" ["k", "bases"] (spDigits K)) (G__set_at : Good P w K mg base 2 "_set_at" ["lot", "k"] (spSetAt K)) (G__seats_at : Good P w K mg base 1 "_seats_at" ["lot", "k"] (spSeatsL K)) (G__names_at : Good P w K mg base 3 "_names_at" ["lot", "k"] (spNamesAt K)) : Good P w K mg base 24 "outcome_at" ["node", "k"] (spOut K 10) := by
  have : ∀ n, Good P w K mg base (2 * n + 4) "outcome_at" ["node", "k"] (spOut K n) := fun n => by
    induction n with
    | zero =>
      refine good_noA h fun vs H Q E z => ?_
      obtain ⟨v, k, _, e, out, d, h, _⟩ := z
      exact h.elim
    | succ n ih => exact okn_outcome_at T n h (okn__chosen_outcome T n hc ih) G__digits ih G__set_at G__seats_at G__names_at
  exact this 10
end
end K1
end
section
open PySem PySem.Spec PyProof.Rows L2 Z
local macro_rules | `(tactic| ktr_room) => `(tactic| first
  | assumption
  | (apply SqT.of; assumption)
  | (apply SqL.of; assumption)
  | (apply sqt_same; assumption; ktr_room)
  | (apply sql_same; assumption; ktr_room)
  | (apply sqt_but; assumption; assumption; ktr_room)
  | (apply sql_but; assumption; assumption; ktr_room)
  | (apply Same.of_; assumption; ktr_room)
  | (apply But.of_; assumption; assumption; ktr_room)
  | exact same_refl
  | exact but_refl
  | (apply same_tr; assumption; ktr_room)
  | (apply same_but; assumption; ktr_room; assumption)
  | (apply but_tr; assumption; ktr_room)
  | (apply but_trB; assumption; ktr_room))
local macro_rules | `(tactic| ktr_units) => `(tactic| first | with_reducible assumption | omega | rfl | exact ⟨by omega, by omega⟩ | exact .inl ⟨by omega, by omega⟩ | exact .inr ⟨by omega, by omega⟩ | exact ⟨by decide, by decide, by decide⟩ | exact Nat.le_of_ble_eq_true rfl | decide)
local macro_rules | `(tactic| kc_close) => `(tactic| repeat (with_reducible first
  | refine s_var (by with_unfolding_all rfl) ?_
  | refine s_c ?_
  | refine s_op ?_
  | refine s_rI0 ?_
  | refine s_asg ?_
  | refine s_gname ?_
  | refine s_seq ?_
  | refine s_cons ?_
  | refine s_nil ?_
  | refine s_call ?_
  | refine s_ret ?_
  | o_fieldsN
  | refine s_test ?_
  | refine s_bl ?_
  | refine s_rI (by with_unfolding_all (ktr_units)) ?_
  | refine s_rEq rfl ?_
  | refine s_rNe rfl ?_
  | refine s_cb ?_
  | refine s_int1 ?_
  | refine s_intB ?_
  | refine s_max2 ?_
  | refine s_min2 ?_
  | refine s_tup ?_
  | refine s_lst ?_
  | refine s_newT (by with_unfolding_all first | decide | exact Nat.le_of_ble_eq_true rfl) ?_
  | refine s_newL (by with_unfolding_all first | decide | exact Nat.le_of_ble_eq_true rfl) ?_
  | refine s_ixT (by ktr_room) (by with_unfolding_all rfl) ?_
  | refine s_ixL (by ktr_room) (by with_unfolding_all rfl) ?_
  | refine s_lenT (by ktr_room) ?_
  | refine s_lenL (by ktr_room) ?_
  | refine s_un ?_
  | refine s_rU ?_
  | refine s_and ?_
  | refine s_or ?_
  | refine s_not ?_
  | refine s_tB ?_
  | refine s_tru ?_
  | refine s_drop ?_
  | refine s_next ?_
  | refine s_for ?_
  | refine s_rng1 ?_
  | refine s_rng2 ?_
  | refine s_rng3 ?_
  | refine s_ilist ?_
  | refine s_itup ?_
  | refine s_iany ?_
  | refine s_ienum ?_
  | refine s_irev ?_
  | refine s_gcons ?_
  | refine s_gnil ?_
  | refine s_gtup (by ktr_room) (by with_unfolding_all rfl) ?_
  | refine s_gsub ?_
  | refine s_augS ?_
  | refine s_aug (by with_unfolding_all rfl) ?_
  | refine s_ipI ?_
  | refine s_bm ?_
  | refine s_bm0 ?_
  | refine s_tyL (by ktr_room) ?_
  | refine s_tyL0 (by ktr_room) ?_
  | refine s_sl ?_
  | refine s_part ?_
  | refine s_partv ?_
  | refine s_noPart ?_
  | refine s_lc ?_
  | refine s_yes ?_
  | refine s_wipe (by with_unfolding_all rfl) ?_
  | refine iteT ?_
  | refine s_retN ?_
  | refine s_isN ?_
  | refine s_truB ?_
  | refine s_isB2 ?_
  | refine s_notB2 ?_
  | refine s_revT ?_
  | refine s_andV ?_
  | refine s_orV ?_
  | refine s_ifE ?_
  | refine s_notK ?_
  | refine s_notN ?_
  | refine s_truL (by ktr_room) ?_
  | refine s_truT (by ktr_room) ?_))
open K1
local macro_rules | `(tactic| ktr_room) => `(tactic| first
  | (apply DR.same; assumption; ktr_room)
  | (apply sqt_butD; assumption; ktr_room; ktr_room))
open K1
local macro_rules | `(tactic| o_fieldsN) => `(tactic| with_reducible first
  | refine s_tyS ?_
  | refine s_fld ?_)
namespace K1
open TL ML
section
variable {P : Program} {w : World} {K : PySem.W.Frag} {mg : Str → Option Value} {base : Heap}
theorem ok_unrank (h : Has K mg "unrank" (topS 18) ["e", "k"]) (G_outcome_at : Good P w K mg base (24) "outcome_at" ["node", "k"] (spOut K 10)) (G_measured : Good P w K mg base (14) "measured" ["e"] (spMeas K 10)) : Good P w K mg base 140 "unrank" ["e", "k"] (spUnrank K) := by
  have sc : FnScope ["e", "k"] ["e", "k"] (defScope (topS 18)) := ⟨rfl, rfl, rfl, by decide +kernel, rfl, by decide +kernel, by decide +kernel⟩
  have nd := sc.nd
  refine h.good sc (fun vs H Q E h => by obtain ⟨v, k, rfl, _⟩ := h; rfl) (fun f cdv A outer s H vs Q E hr h => ?_)
  obtain ⟨v, k, rfl, hyp⟩ := h
  refine ⟨_, (pss_one (ps_ret (pe_callG G_outcome_at (hr.mono (by first | decide | omega)) (by rfl) (pa_cons (pe_callG G_measured (hr.mono (by first | decide | omega)) (by rfl) (pa_cons (pv 0) pa_nil)) (pa_cons (pv 1) pa_nil))))), ?_⟩
  try dsimp only [cxOf, Cx.wish]
  obtain ⟨e, out, d, he, ha, him, k0, hd, q⟩ := hyp
  kc_close
  refine ⟨v, rfl, NoS, e, out, (fun _ z => z.elim), he, ha, him, fun H1 x s1 nd => ?_⟩
  kc_close
  refine ⟨x, k, rfl, e, out, d, he, ha, nd, k0, ?_, fun H2 y s2 im => q H2 y (s1.trans s2) im⟩
  rw [Nat.mod_eq_of_lt (List.getElem?_eq_some_iff.mp hd).1]
  exact hd
end
end K1
end
section
open PySem PySem.Spec PyProof.Rows L2 Z
namespace K1
theorem has_mk {K : PySem.W.Frag} {h : Heap} {mg : Str → Option Value} {x : Str} {st : Stmt} {ps : List Str} {f : Addr} {oc : Value} {od an : Option Addr} {osl : Array (Option Value)} {kV doc pm cdv ct : Value} (X : K.In h) (G : h.Ns mainGlobals mg) (a : PySem.W.nsIn K mainGlobals x = some (some (.ref f)))
    (l : K.lookup f = some ⟨oc, od, .func (PySem.W.fnOf x x (defArgs st) (defBody st) (defScope st) .none kV doc pm an cdv ct), osl⟩) (c : PySem.W.codeIn K cdv x = true) (k : PySem.W.keepIn K (.ref f) = true)
    (hb : ∀ (kV doc pm : Value) (an : Option Addr) (cdv ct : Value) (us : List Value), us.length = ps.length → bindArgs (PySem.W.fnOf x x (defArgs st) (defBody st) (defScope st) .none kV doc pm an cdv ct) ⟨us, []⟩ = pure (ps.zip us)) : Z.Has K mg x st ps :=
  ⟨f, _, fun_mk l c k, PySem.W.mg_of X G a, (fun_mk l c k).binds hb⟩
theorem all_mk {l : PySem.W.OpenLaw} {w : World} {K : PySem.W.Frag} {h : Heap} {mg : Str → Option Value} {fa f1 f2 f3 f4 f5 f6 f7 f8 f9 f10 f11 f12 f13 f14 f15 f16 f17 f18 f19 f20 f21 f22 f23 f24 f25 f26 f27 f28 f29 f30 f31 f32 C0 fi0 : Addr} (X : K.In h) (G : h.Ns mainGlobals mg) (hfa : mg "law" = some (.ref fa))
    {od1 an1 od2 an2 od3 an3 od4 an4 od5 an5 od6 an6 od7 an7 od8 an8 od9 an9 od10 an10 od11 an11 od12 an12 od13 an13 od14 an14 od15 an15 od16 an16 od17 an17 od18 an18 od19 an19 od20 an20 od21 an21 od22 an22 od23 an23 od24 an24 od25 an25 od26 an26 od27 an27 od28 an28 od29 an29 od30 an30 od31 an31 od32 an32 : Option Addr} {sl1 sl2 sl3 sl4 sl5 sl6 sl7 sl8 sl9 sl10 sl11 sl12 sl13 sl14 sl15 sl16 sl17 sl18 sl19 sl20 sl21 sl22 sl23 sl24 sl25 sl26 sl27 sl28 sl29 sl30 sl31 sl32 : Array (Option Value)} {oc1 kV1 dc1 pm1 cd1 ct1 oc2 kV2 dc2 pm2 cd2 ct2 oc3 kV3 dc3 pm3 cd3 ct3 oc4 kV4 dc4 pm4 cd4 ct4 oc5 kV5 dc5 pm5 cd5 ct5 oc6 kV6 dc6 pm6 cd6 ct6 oc7 kV7 dc7 pm7 cd7 ct7 oc8 kV8 dc8 pm8 cd8 ct8 oc9 kV9 dc9 pm9 cd9 ct9 oc10 kV10 dc10 pm10 cd10 ct10 oc11 kV11 dc11 pm11 cd11 ct11 oc12 kV12 dc12 pm12 cd12 ct12 oc13 kV13 dc13 pm13 cd13 ct13 oc14 kV14 dc14 pm14 cd14 ct14 oc15 kV15 dc15 pm15 cd15 ct15 oc16 kV16 dc16 pm16 cd16 ct16 oc17 kV17 dc17 pm17 cd17 ct17 oc18 kV18 dc18 pm18 cd18 ct18 oc19 kV19 dc19 pm19 cd19 ct19 oc20 kV20 dc20 pm20 cd20 ct20 oc21 kV21 dc21 pm21 cd21 ct21 oc22 kV22 dc22 pm22 cd22 ct22 oc23 kV23 dc23 pm23 cd23 ct23 oc24 kV24 dc24 pm24 cd24 ct24 oc25 kV25 dc25 pm25 cd25 ct25 oc26 kV26 dc26 pm26 cd26 ct26 oc27 kV27 dc27 pm27 cd27 ct27 oc28 kV28 dc28 pm28 cd28 ct28 oc29 kV29 dc29 pm29 cd29 ct29 oc30 kV30 dc30 pm30 cd30 ct30 oc31 kV31 dc31 pm31 cd31 ct31 oc32 kV32 dc32 pm32 cd32 ct32 : Value}
    (a1 : PySem.W.nsIn K mainGlobals "_law_start" = some (some (.ref f1))) (l1 : K.lookup f1 = some ⟨oc1, od1, .func (PySem.W.fnOf "_law_start" "_law_start" (defArgs (topS 26)) (defBody (topS 26)) (defScope (topS 26)) .none kV1 dc1 pm1 an1 cd1 ct1), sl1⟩) (c1 : PySem.W.codeIn K cd1 "_law_start" = true) (k1 : PySem.W.keepIn K (.ref f1) = true)
    (a2 : PySem.W.nsIn K mainGlobals "_law_fill" = some (some (.ref f2))) (l2 : K.lookup f2 = some ⟨oc2, od2, .func (PySem.W.fnOf "_law_fill" "_law_fill" (defArgs (topS 27)) (defBody (topS 27)) (defScope (topS 27)) .none kV2 dc2 pm2 an2 cd2 ct2), sl2⟩) (c2 : PySem.W.codeIn K cd2 "_law_fill" = true) (k2 : PySem.W.keepIn K (.ref f2) = true)
    (a3 : PySem.W.nsIn K mainGlobals "_law_take" = some (some (.ref f3))) (l3 : K.lookup f3 = some ⟨oc3, od3, .func (PySem.W.fnOf "_law_take" "_law_take" (defArgs (topS 28)) (defBody (topS 28)) (defScope (topS 28)) .none kV3 dc3 pm3 an3 cd3 ct3), sl3⟩) (c3 : PySem.W.codeIn K cd3 "_law_take" = true) (k3 : PySem.W.keepIn K (.ref f3) = true)
    (a4 : PySem.W.nsIn K mainGlobals "_law_plain" = some (some (.ref f4))) (l4 : K.lookup f4 = some ⟨oc4, od4, .func (PySem.W.fnOf "_law_plain" "_law_plain" (defArgs (topS 30)) (defBody (topS 30)) (defScope (topS 30)) .none kV4 dc4 pm4 an4 cd4 ct4), sl4⟩) (c4 : PySem.W.codeIn K cd4 "_law_plain" = true) (k4 : PySem.W.keepIn K (.ref f4) = true)
    (a5 : PySem.W.nsIn K mainGlobals "_law_lot" = some (some (.ref f5))) (l5 : K.lookup f5 = some ⟨oc5, od5, .func (PySem.W.fnOf "_law_lot" "_law_lot" (defArgs (topS 31)) (defBody (topS 31)) (defScope (topS 31)) .none kV5 dc5 pm5 an5 cd5 ct5), sl5⟩) (c5 : PySem.W.codeIn K cd5 "_law_lot" = true) (k5 : PySem.W.keepIn K (.ref f5) = true)
    (a6 : PySem.W.nsIn K mainGlobals "_law_words" = some (some (.ref f6))) (l6 : K.lookup f6 = some ⟨oc6, od6, .func (PySem.W.fnOf "_law_words" "_law_words" (defArgs (topS 29)) (defBody (topS 29)) (defScope (topS 29)) .none kV6 dc6 pm6 an6 cd6 ct6), sl6⟩) (c6 : PySem.W.codeIn K cd6 "_law_words" = true) (k6 : PySem.W.keepIn K (.ref f6) = true)
    (a7 : PySem.W.nsIn K mainGlobals "_law_drawn_lot" = some (some (.ref f7))) (l7 : K.lookup f7 = some ⟨oc7, od7, .func (PySem.W.fnOf "_law_drawn_lot" "_law_drawn_lot" (defArgs (topS 32)) (defBody (topS 32)) (defScope (topS 32)) .none kV7 dc7 pm7 an7 cd7 ct7), sl7⟩) (c7 : PySem.W.codeIn K cd7 "_law_drawn_lot" = true) (k7 : PySem.W.keepIn K (.ref f7) = true)
    (a8 : PySem.W.nsIn K mainGlobals "_law_tuples" = some (some (.ref f8))) (l8 : K.lookup f8 = some ⟨oc8, od8, .func (PySem.W.fnOf "_law_tuples" "_law_tuples" (defArgs (topS 34)) (defBody (topS 34)) (defScope (topS 34)) .none kV8 dc8 pm8 an8 cd8 ct8), sl8⟩) (c8 : PySem.W.codeIn K cd8 "_law_tuples" = true) (k8 : PySem.W.keepIn K (.ref f8) = true)
    (a9 : PySem.W.nsIn K mainGlobals "_law_sets" = some (some (.ref f9))) (l9 : K.lookup f9 = some ⟨oc9, od9, .func (PySem.W.fnOf "_law_sets" "_law_sets" (defArgs (topS 35)) (defBody (topS 35)) (defScope (topS 35)) .none kV9 dc9 pm9 an9 cd9 ct9), sl9⟩) (c9 : PySem.W.codeIn K cd9 "_law_sets" = true) (k9 : PySem.W.keepIn K (.ref f9) = true)
    (a10 : PySem.W.nsIn K mainGlobals "_law_seats" = some (some (.ref f10))) (l10 : K.lookup f10 = some ⟨oc10, od10, .func (PySem.W.fnOf "_law_seats" "_law_seats" (defArgs (topS 36)) (defBody (topS 36)) (defScope (topS 36)) .none kV10 dc10 pm10 an10 cd10 ct10), sl10⟩) (c10 : PySem.W.codeIn K cd10 "_law_seats" = true) (k10 : PySem.W.keepIn K (.ref f10) = true)
    (a11 : PySem.W.nsIn K mainGlobals "_law_common" = some (some (.ref f11))) (l11 : K.lookup f11 = some ⟨oc11, od11, .func (PySem.W.fnOf "_law_common" "_law_common" (defArgs (topS 33)) (defBody (topS 33)) (defScope (topS 33)) .none kV11 dc11 pm11 an11 cd11 ct11), sl11⟩) (c11 : PySem.W.codeIn K cd11 "_law_common" = true) (k11 : PySem.W.keepIn K (.ref f11) = true)
    (a12 : PySem.W.nsIn K mainGlobals "_law_mixed" = some (some (.ref f12))) (l12 : K.lookup f12 = some ⟨oc12, od12, .func (PySem.W.fnOf "_law_mixed" "_law_mixed" (defArgs (topS 37)) (defBody (topS 37)) (defScope (topS 37)) .none kV12 dc12 pm12 an12 cd12 ct12), sl12⟩) (c12 : PySem.W.codeIn K cd12 "_law_mixed" = true) (k12 : PySem.W.keepIn K (.ref f12) = true)
    (a13 : PySem.W.nsIn K mainGlobals "_law_all" = some (some (.ref f13))) (l13 : K.lookup f13 = some ⟨oc13, od13, .func (PySem.W.fnOf "_law_all" "_law_all" (defArgs (topS 38)) (defBody (topS 38)) (defScope (topS 38)) .none kV13 dc13 pm13 an13 cd13 ct13), sl13⟩) (c13 : PySem.W.codeIn K cd13 "_law_all" = true) (k13 : PySem.W.keepIn K (.ref f13) = true)
    (a14 : PySem.W.nsIn K mainGlobals "_checked" = some (some (.ref f14))) (l14 : K.lookup f14 = some ⟨oc14, od14, .func (PySem.W.fnOf "_checked" "_checked" (defArgs (topS 15)) (defBody (topS 15)) (defScope (topS 15)) .none kV14 dc14 pm14 an14 cd14 ct14), sl14⟩) (c14 : PySem.W.codeIn K cd14 "_checked" = true) (k14 : PySem.W.keepIn K (.ref f14) = true)
    (a15 : PySem.W.nsIn K mainGlobals "_chosen_among" = some (some (.ref f15))) (l15 : K.lookup f15 = some ⟨oc15, od15, .func (PySem.W.fnOf "_chosen_among" "_chosen_among" (defArgs (topS 12)) (defBody (topS 12)) (defScope (topS 12)) .none kV15 dc15 pm15 an15 cd15 ct15), sl15⟩) (c15 : PySem.W.codeIn K cd15 "_chosen_among" = true) (k15 : PySem.W.keepIn K (.ref f15) = true)
    (a16 : PySem.W.nsIn K mainGlobals "_measured_prizes" = some (some (.ref f16))) (l16 : K.lookup f16 = some ⟨oc16, od16, .func (PySem.W.fnOf "_measured_prizes" "_measured_prizes" (defArgs (topS 13)) (defBody (topS 13)) (defScope (topS 13)) .none kV16 dc16 pm16 an16 cd16 ct16), sl16⟩) (c16 : PySem.W.codeIn K cd16 "_measured_prizes" = true) (k16 : PySem.W.keepIn K (.ref f16) = true)
    (a17 : PySem.W.nsIn K mainGlobals "_product" = some (some (.ref f17))) (l17 : K.lookup f17 = some ⟨oc17, od17, .func (PySem.W.fnOf "_product" "_product" (defArgs (topS 14)) (defBody (topS 14)) (defScope (topS 14)) .none kV17 dc17 pm17 an17 cd17 ct17), sl17⟩) (c17 : PySem.W.codeIn K cd17 "_product" = true) (k17 : PySem.W.keepIn K (.ref f17) = true)
    (a18 : PySem.W.nsIn K mainGlobals "names_of" = some (some (.ref f18))) (l18 : K.lookup f18 = some ⟨oc18, od18, .func (PySem.W.fnOf "names_of" "names_of" (defArgs (topS 8)) (defBody (topS 8)) (defScope (topS 8)) .none kV18 dc18 pm18 an18 cd18 ct18), sl18⟩) (c18 : PySem.W.codeIn K cd18 "names_of" = true) (k18 : PySem.W.keepIn K (.ref f18) = true)
    (a19 : PySem.W.nsIn K mainGlobals "sets_of" = some (some (.ref f19))) (l19 : K.lookup f19 = some ⟨oc19, od19, .func (PySem.W.fnOf "sets_of" "sets_of" (defArgs (topS 10)) (defBody (topS 10)) (defScope (topS 10)) .none kV19 dc19 pm19 an19 cd19 ct19), sl19⟩) (c19 : PySem.W.codeIn K cd19 "sets_of" = true) (k19 : PySem.W.keepIn K (.ref f19) = true)
    (a20 : PySem.W.nsIn K mainGlobals "bases_of" = some (some (.ref f20))) (l20 : K.lookup f20 = some ⟨oc20, od20, .func (PySem.W.fnOf "bases_of" "bases_of" (defArgs (topS 9)) (defBody (topS 9)) (defScope (topS 9)) .none kV20 dc20 pm20 an20 cd20 ct20), sl20⟩) (c20 : PySem.W.codeIn K cd20 "bases_of" = true) (k20 : PySem.W.keepIn K (.ref f20) = true)
    (a21 : PySem.W.nsIn K mainGlobals "_size_by_itself" = some (some (.ref f21))) (l21 : K.lookup f21 = some ⟨oc21, od21, .func (PySem.W.fnOf "_size_by_itself" "_size_by_itself" (defArgs (topS 11)) (defBody (topS 11)) (defScope (topS 11)) .none kV21 dc21 pm21 an21 cd21 ct21), sl21⟩) (c21 : PySem.W.codeIn K cd21 "_size_by_itself" = true) (k21 : PySem.W.keepIn K (.ref f21) = true)
    (a22 : PySem.W.nsIn K mainGlobals "measured" = some (some (.ref f22))) (l22 : K.lookup f22 = some ⟨oc22, od22, .func (PySem.W.fnOf "measured" "measured" (defArgs (topS 7)) (defBody (topS 7)) (defScope (topS 7)) .none kV22 dc22 pm22 an22 cd22 ct22), sl22⟩) (c22 : PySem.W.codeIn K cd22 "measured" = true) (k22 : PySem.W.keepIn K (.ref f22) = true)
    (a23 : PySem.W.nsIn K mainGlobals "size" = some (some (.ref f23))) (l23 : K.lookup f23 = some ⟨oc23, od23, .func (PySem.W.fnOf "size" "size" (defArgs (topS 17)) (defBody (topS 17)) (defScope (topS 17)) .none kV23 dc23 pm23 an23 cd23 ct23), sl23⟩) (c23 : PySem.W.codeIn K cd23 "size" = true) (k23 : PySem.W.keepIn K (.ref f23) = true)
    (a24 : PySem.W.nsIn K mainGlobals "_law_exact" = some (some (.ref f24))) (l24 : K.lookup f24 = some ⟨oc24, od24, .func (PySem.W.fnOf "_law_exact" "_law_exact" (defArgs (topS 39)) (defBody (topS 39)) (defScope (topS 39)) .none kV24 dc24 pm24 an24 cd24 ct24), sl24⟩) (c24 : PySem.W.codeIn K cd24 "_law_exact" = true) (k24 : PySem.W.keepIn K (.ref f24) = true)
    (a25 : PySem.W.nsIn K mainGlobals "_chosen_outcome" = some (some (.ref f25))) (l25 : K.lookup f25 = some ⟨oc25, od25, .func (PySem.W.fnOf "_chosen_outcome" "_chosen_outcome" (defArgs (topS 20)) (defBody (topS 20)) (defScope (topS 20)) .none kV25 dc25 pm25 an25 cd25 ct25), sl25⟩) (c25 : PySem.W.codeIn K cd25 "_chosen_outcome" = true) (k25 : PySem.W.keepIn K (.ref f25) = true)
    (a26 : PySem.W.nsIn K mainGlobals "_digits" = some (some (.ref f26))) (l26 : K.lookup f26 = some ⟨oc26, od26, .func (PySem.W.fnOf "_digits" "_digits" (defArgs (topS 21)) (defBody (topS 21)) (defScope (topS 21)) .none kV26 dc26 pm26 an26 cd26 ct26), sl26⟩) (c26 : PySem.W.codeIn K cd26 "_digits" = true) (k26 : PySem.W.keepIn K (.ref f26) = true)
    (a27 : PySem.W.nsIn K mainGlobals "_set_at" = some (some (.ref f27))) (l27 : K.lookup f27 = some ⟨oc27, od27, .func (PySem.W.fnOf "_set_at" "_set_at" (defArgs (topS 23)) (defBody (topS 23)) (defScope (topS 23)) .none kV27 dc27 pm27 an27 cd27 ct27), sl27⟩) (c27 : PySem.W.codeIn K cd27 "_set_at" = true) (k27 : PySem.W.keepIn K (.ref f27) = true)
    (a28 : PySem.W.nsIn K mainGlobals "_seats_at" = some (some (.ref f28))) (l28 : K.lookup f28 = some ⟨oc28, od28, .func (PySem.W.fnOf "_seats_at" "_seats_at" (defArgs (topS 24)) (defBody (topS 24)) (defScope (topS 24)) .none kV28 dc28 pm28 an28 cd28 ct28), sl28⟩) (c28 : PySem.W.codeIn K cd28 "_seats_at" = true) (k28 : PySem.W.keepIn K (.ref f28) = true)
    (a29 : PySem.W.nsIn K mainGlobals "_names_at" = some (some (.ref f29))) (l29 : K.lookup f29 = some ⟨oc29, od29, .func (PySem.W.fnOf "_names_at" "_names_at" (defArgs (topS 22)) (defBody (topS 22)) (defScope (topS 22)) .none kV29 dc29 pm29 an29 cd29 ct29), sl29⟩) (c29 : PySem.W.codeIn K cd29 "_names_at" = true) (k29 : PySem.W.keepIn K (.ref f29) = true)
    (a30 : PySem.W.nsIn K mainGlobals "outcome_at" = some (some (.ref f30))) (l30 : K.lookup f30 = some ⟨oc30, od30, .func (PySem.W.fnOf "outcome_at" "outcome_at" (defArgs (topS 19)) (defBody (topS 19)) (defScope (topS 19)) .none kV30 dc30 pm30 an30 cd30 ct30), sl30⟩) (c30 : PySem.W.codeIn K cd30 "outcome_at" = true) (k30 : PySem.W.keepIn K (.ref f30) = true)
    (a31 : PySem.W.nsIn K mainGlobals "unrank" = some (some (.ref f31))) (l31 : K.lookup f31 = some ⟨oc31, od31, .func (PySem.W.fnOf "unrank" "unrank" (defArgs (topS 18)) (defBody (topS 18)) (defScope (topS 18)) .none kV31 dc31 pm31 an31 cd31 ct31), sl31⟩) (c31 : PySem.W.codeIn K cd31 "unrank" = true) (k31 : PySem.W.keepIn K (.ref f31) = true)
    (a32 : PySem.W.nsIn K mainGlobals "law" = some (some (.ref f32))) (l32 : K.lookup f32 = some ⟨oc32, od32, .func (PySem.W.fnOf "law" "law" (defArgs (topS 40)) (defBody (topS 40)) (defScope (topS 40)) .none kV32 dc32 pm32 an32 cd32 ct32), sl32⟩) (c32 : PySem.W.codeIn K cd32 "law" = true) (k32 : PySem.W.keepIn K (.ref f32) = true)
    (z0 : PySem.W.nsIn K mainGlobals "all" = some none)
    (z1 : PySem.W.nsIn K mainGlobals "any" = some none)
    (z2 : PySem.W.nsIn K mainGlobals "bool" = some none)
    (z3 : PySem.W.nsIn K mainGlobals "enumerate" = some none)
    (z4 : PySem.W.nsIn K mainGlobals "int" = some none)
    (z5 : PySem.W.nsIn K mainGlobals "isinstance" = some none)
    (z6 : PySem.W.nsIn K mainGlobals "len" = some none)
    (z7 : PySem.W.nsIn K mainGlobals "list" = some none)
    (z8 : PySem.W.nsIn K mainGlobals "max" = some none)
    (z9 : PySem.W.nsIn K mainGlobals "min" = some none)
    (z10 : PySem.W.nsIn K mainGlobals "range" = some none)
    (z11 : PySem.W.nsIn K mainGlobals "reversed" = some none)
    (z12 : PySem.W.nsIn K mainGlobals "sorted" = some none)
    (z13 : PySem.W.nsIn K mainGlobals "str" = some none)
    (z14 : PySem.W.nsIn K mainGlobals "sum" = some none)
    (z15 : PySem.W.nsIn K mainGlobals "tuple" = some none)
    (z16 : PySem.W.nsIn K mainGlobals "zip" = some none)
    (y0 : PySem.W.nsIn K mainGlobals "comb" = some (some (.builtin "math.comb")))
    (y1 : PySem.W.nsIn K mainGlobals "lcm" = some (some (.builtin "math.lcm")))
    {odI0 anI0 : Option Addr} {slI0 : Array (Option Value)} {ocI0 kVI0 dcI0 pmI0 cdI0 ctI0 : Value}
    (aC0 : PySem.W.nsIn K mainGlobals "Measured" = some (some (.ref C0))) (aI0 : PySem.W.findIn K (.ref C0) "__init__" = some (some (.ref fi0))) (iI0 : PySem.W.isFn K (.ref fi0) = true)
    (lI0 : K.lookup fi0 = some ⟨ocI0, odI0, .func (PySem.W.fnOf "__init__" "Measured.__init__" (defArgs sMInit) (defBody sMInit) (defScope sMInit) .none kVI0 dcI0 pmI0 anI0 cdI0 ctI0), slI0⟩) (cI0 : PySem.W.codeIn K cdI0 "Measured.__init__" = true) (kI0 : PySem.W.keepIn K (.ref fi0) = true)
    (pg0 : PySem.W.plainGet K C0 Str.empty = true) (hd0 : PySem.W.hasDictIn K C0 = true) (po0 : PySem.W.plainOver K C0 = true) (sa0 : PySem.W.findIn K (.ref C0) "__setattr__" = some (some (.builtin "object.__setattr__"))) (mk0 : PySem.W.makesIn K C0 = true) (kc0 : PySem.W.keepIn K (.ref C0) = true)
    (nA0_0 : PySem.W.findIn K (.ref C0) "lot" = some none)
    (nA0_1 : PySem.W.findIn K (.ref C0) "total" = some none)
    (nA0_2 : PySem.W.findIn K (.ref C0) "weights" = some none)
    (nA0_3 : PySem.W.findIn K (.ref C0) "parts" = some none)
    (nA0_4 : PySem.W.findIn K (.ref C0) "stride" = some none)
    {tv0 : Tok} (v0 : PySem.W.nsIn K mainGlobals "GREATEST_SIZE" = some (some (.int 1000000000000 tv0)))
    : ∃ fd : FuncData, (∀ (s : Shared) (v : Value), BindsTo s fd ⟨[v], []⟩ [("script", v)]) ∧ ∀ base : Heap, K.In base → base.Ns mainGlobals mg → FnOk l.prog w K mg base CX0 141 fa fd ["script"] (spLaw K) := by
  have e := hfa.symm.trans (PySem.W.mg_of X G a32)
  cases e
  have T : NoB mg := ⟨PySem.W.mg_none_of X G z0, PySem.W.mg_none_of X G z1, PySem.W.mg_none_of X G z2, PySem.W.mg_none_of X G z3, PySem.W.mg_none_of X G z4, PySem.W.mg_none_of X G z5, PySem.W.mg_none_of X G z6, PySem.W.mg_none_of X G z7, PySem.W.mg_none_of X G z8, PySem.W.mg_none_of X G z9, PySem.W.mg_none_of X G z10, PySem.W.mg_none_of X G z11, PySem.W.mg_none_of X G z12, PySem.W.mg_none_of X G z13, PySem.W.mg_none_of X G z14, PySem.W.mg_none_of X G z15, PySem.W.mg_none_of X G z16, PySem.W.mg_of X G y0, PySem.W.mg_of X G y1⟩
  have W : Gs K mg := ⟨⟨_, PySem.W.mg_of X G v0, ⟨_, rfl⟩⟩⟩
  have h__law_start := has_mk (st := topS 26) (ps := ["script"]) X G a1 l1 c1 k1 (fun _ _ _ _ _ _ us hl => match us, hl with | [_], _ => rfl)
  have h__law_fill := has_mk (st := topS 27) (ps := ["c"]) X G a2 l2 c2 k2 (fun _ _ _ _ _ _ us hl => match us, hl with | [_], _ => rfl)
  have h__law_take := has_mk (st := topS 28) (ps := ["c", "many"]) X G a3 l3 c3 k3 (fun _ _ _ _ _ _ us hl => match us, hl with | [_, _], _ => rfl)
  have h__law_plain := has_mk (st := topS 30) (ps := ["c", "words"]) X G a4 l4 c4 k4 (fun _ _ _ _ _ _ us hl => match us, hl with | [_, _], _ => rfl)
  have h__law_lot := has_mk (st := topS 31) (ps := ["c", "words", "depth"]) X G a5 l5 c5 k5 (fun _ _ _ _ _ _ us hl => match us, hl with | [_, _, _], _ => rfl)
  have h__law_words := has_mk (st := topS 29) (ps := ["c"]) X G a6 l6 c6 k6 (fun _ _ _ _ _ _ us hl => match us, hl with | [_], _ => rfl)
  have h__law_drawn_lot := has_mk (st := topS 32) (ps := ["c"]) X G a7 l7 c7 k7 (fun _ _ _ _ _ _ us hl => match us, hl with | [_], _ => rfl)
  have h__law_tuples := has_mk (st := topS 34) (ps := ["names", "s", "again"]) X G a8 l8 c8 k8 (fun _ _ _ _ _ _ us hl => match us, hl with | [_, _, _], _ => rfl)
  have h__law_sets := has_mk (st := topS 35) (ps := ["names", "s"]) X G a9 l9 c9 k9 (fun _ _ _ _ _ _ us hl => match us, hl with | [_, _], _ => rfl)
  have h__law_seats := has_mk (st := topS 36) (ps := ["e", "k"]) X G a10 l10 c10 k10 (fun _ _ _ _ _ _ us hl => match us, hl with | [_, _], _ => rfl)
  have h__law_common := has_mk (st := topS 33) (ps := ["a", "b"]) X G a11 l11 c11 k11 (fun _ _ _ _ _ _ us hl => match us, hl with | [_, _], _ => rfl)
  have h__law_mixed := has_mk (st := topS 37) (ps := ["rows"]) X G a12 l12 c12 k12 (fun _ _ _ _ _ _ us hl => match us, hl with | [_], _ => rfl)
  have h__law_all := has_mk (st := topS 38) (ps := ["e"]) X G a13 l13 c13 k13 (fun _ _ _ _ _ _ us hl => match us, hl with | [_], _ => rfl)
  have h__checked := has_mk (st := topS 15) (ps := ["total"]) X G a14 l14 c14 k14 (fun _ _ _ _ _ _ us hl => match us, hl with | [_], _ => rfl)
  have h__chosen_among := has_mk (st := topS 12) (ps := ["e", "weights", "parts"]) X G a15 l15 c15 k15 (fun _ _ _ _ _ _ us hl => match us, hl with | [_, _, _], _ => rfl)
  have h__measured_prizes := has_mk (st := topS 13) (ps := ["e", "known"]) X G a16 l16 c16 k16 (fun _ _ _ _ _ _ us hl => match us, hl with | [_, _], _ => rfl)
  have h__product := has_mk (st := topS 14) (ps := ["numbers"]) X G a17 l17 c17 k17 (fun _ _ _ _ _ _ us hl => match us, hl with | [_], _ => rfl)
  have h_names_of := has_mk (st := topS 8) (ps := ["e"]) X G a18 l18 c18 k18 (fun _ _ _ _ _ _ us hl => match us, hl with | [_], _ => rfl)
  have h_sets_of := has_mk (st := topS 10) (ps := ["many", "s"]) X G a19 l19 c19 k19 (fun _ _ _ _ _ _ us hl => match us, hl with | [_, _], _ => rfl)
  have h_bases_of := has_mk (st := topS 9) (ps := ["e"]) X G a20 l20 c20 k20 (fun _ _ _ _ _ _ us hl => match us, hl with | [_], _ => rfl)
  have h__size_by_itself := has_mk (st := topS 11) (ps := ["e"]) X G a21 l21 c21 k21 (fun _ _ _ _ _ _ us hl => match us, hl with | [_], _ => rfl)
  have h_measured := has_mk (st := topS 7) (ps := ["e"]) X G a22 l22 c22 k22 (fun _ _ _ _ _ _ us hl => match us, hl with | [_], _ => rfl)
  have h_size := has_mk (st := topS 17) (ps := ["e"]) X G a23 l23 c23 k23 (fun _ _ _ _ _ _ us hl => match us, hl with | [_], _ => rfl)
  have h__law_exact := has_mk (st := topS 39) (ps := ["value"]) X G a24 l24 c24 k24 (fun _ _ _ _ _ _ us hl => match us, hl with | [_], _ => rfl)
  have h__chosen_outcome := has_mk (st := topS 20) (ps := ["node", "k"]) X G a25 l25 c25 k25 (fun _ _ _ _ _ _ us hl => match us, hl with | [_, _], _ => rfl)
  have h__digits := has_mk (st := topS 21) (ps := ["k", "bases"]) X G a26 l26 c26 k26 (fun _ _ _ _ _ _ us hl => match us, hl with | [_, _], _ => rfl)
  have h__set_at := has_mk (st := topS 23) (ps := ["lot", "k"]) X G a27 l27 c27 k27 (fun _ _ _ _ _ _ us hl => match us, hl with | [_, _], _ => rfl)
  have h__seats_at := has_mk (st := topS 24) (ps := ["lot", "k"]) X G a28 l28 c28 k28 (fun _ _ _ _ _ _ us hl => match us, hl with | [_, _], _ => rfl)
  have h__names_at := has_mk (st := topS 22) (ps := ["lot", "k"]) X G a29 l29 c29 k29 (fun _ _ _ _ _ _ us hl => match us, hl with | [_, _], _ => rfl)
  have h_outcome_at := has_mk (st := topS 19) (ps := ["node", "k"]) X G a30 l30 c30 k30 (fun _ _ _ _ _ _ us hl => match us, hl with | [_, _], _ => rfl)
  have h_unrank := has_mk (st := topS 18) (ps := ["e", "k"]) X G a31 l31 c31 k31 (fun _ _ _ _ _ _ us hl => match us, hl with | [_, _], _ => rfl)
  refine ⟨PySem.W.fnOf "law" "law" (defArgs (topS 40)) (defBody (topS 40)) (defScope (topS 40)) .none kV32 dc32 pm32 an32 cd32 ct32, fun s v => .of_eq rfl, fun base _ _ => ?_⟩
  have FI0 := fun_mk (st := sMInit) lI0 cI0 kI0
  have cl0 : Cls K C0 := ⟨pg0, hd0, po0, sa0⟩
  have na0 : ∀ a ∈ mAs, NoAttr K C0 a := by
    intro a ha
    unfold mAs at ha
    rcases (by simpa using ha : a = ("lot" : Str) ∨ a = ("total" : Str) ∨ a = ("weights" : Str) ∨ a = ("parts" : Str) ∨ a = ("stride" : Str)) with rfl | rfl | rfl | rfl | rfl
    · exact nA0_0
    · exact nA0_1
    · exact nA0_2
    · exact nA0_3
    · exact nA0_4
  have GM_Measured := GoodM.mk (P := l.prog) (w := w) (base := base) (k := 1) (sp := spMInit) ⟨C0, fi0, _, PySem.W.mg_of X G aC0, ⟨mk0, aI0, iI0, kc0⟩, cl0, na0, FI0.binds (ps := ["self", "lot", "total", "weights", "parts", "stride"]) (fun _ _ _ _ _ _ us hl => match us, hl with | [_, _, _, _, _, _], _ => rfl), ok_MInit FI0 cl0 na0⟩
  have G__law_start := ok__law_start (P := l.prog) (w := w) (base := base) T h__law_start
  have G__law_fill := ok__law_fill (P := l.prog) (w := w) (base := base) T h__law_fill
  have G__law_take := ok__law_take (P := l.prog) (w := w) (base := base) T h__law_take G__law_fill
  have G__law_plain := ok__law_plain (P := l.prog) (w := w) (base := base) T h__law_plain G__law_take
  have G__law_lot := ok__law_lot (P := l.prog) (w := w) (base := base) T h__law_lot G__law_take G__law_plain
  have G__law_words := ok__law_words (P := l.prog) (w := w) (base := base) T h__law_words G__law_take
  have G__law_drawn_lot := ok__law_drawn_lot (P := l.prog) (w := w) (base := base) h__law_drawn_lot G__law_lot G__law_take G__law_words
  have G__law_tuples := ok__law_tuples (P := l.prog) (w := w) (base := base) T h__law_tuples
  have G__law_sets := ok__law_sets (P := l.prog) (w := w) (base := base) T h__law_sets G__law_tuples
  have G__law_seats := ok__law_seats (P := l.prog) (w := w) (base := base) T h__law_seats
  have G__law_common := ok__law_common (P := l.prog) (w := w) (base := base) T h__law_common
  have G__law_mixed := ok__law_mixed (P := l.prog) (w := w) (base := base) T h__law_mixed G__law_common
  have G__law_all := ok__law_all (P := l.prog) (w := w) (base := base) T h__law_all G__law_tuples G__law_sets G__law_seats G__law_mixed
  have G__checked := ok__checked (P := l.prog) (w := w) (base := base) W h__checked
  have G__chosen_among := ok__chosen_among (P := l.prog) (w := w) (base := base) T h__chosen_among GM_Measured G__checked
  have G__measured_prizes := ok__measured_prizes (P := l.prog) (w := w) (base := base) T h__measured_prizes GM_Measured G__chosen_among
  have G__product := ok__product (P := l.prog) (w := w) (base := base) h__product G__checked
  have G_names_of := ok_names_of (P := l.prog) (w := w) (base := base) T h_names_of
  have G_sets_of := ok_sets_of (P := l.prog) (w := w) (base := base) T h_sets_of
  have G_bases_of := ok_bases_of (P := l.prog) (w := w) (base := base) T h_bases_of G_names_of
  have G__size_by_itself := ok__size_by_itself (P := l.prog) (w := w) (base := base) T h__size_by_itself G__checked G_names_of G_sets_of G__product G_bases_of
  have G_measured := ok_measured (P := l.prog) (w := w) (base := base) h_measured GM_Measured G__chosen_among G__measured_prizes G__product G__size_by_itself
  have G_size := ok_size (P := l.prog) (w := w) (base := base) h_size G_measured
  have G__law_exact := ok__law_exact (P := l.prog) (w := w) (base := base) T h__law_exact
  have G__digits := ok__digits (P := l.prog) (w := w) (base := base) T h__digits
  have G__set_at := ok__set_at (P := l.prog) (w := w) (base := base) T h__set_at G_names_of G_sets_of
  have G__seats_at := ok__seats_at (P := l.prog) (w := w) (base := base) T h__seats_at
  have G__names_at := ok__names_at (P := l.prog) (w := w) (base := base) T h__names_at G_names_of G__digits G_bases_of
  have G_outcome_at := ok_outcome_at (P := l.prog) (w := w) (base := base) T h_outcome_at h__chosen_outcome G__digits G__set_at G__seats_at G__names_at
  have G_unrank := ok_unrank (P := l.prog) (w := w) (base := base) h_unrank G_outcome_at G_measured
  exact ok_law T (fun_mk (st := topS 40) l32 c32 k32) G__law_start G__law_drawn_lot G__law_all G_size G__law_take G__law_exact G_unrank
end K1
end
open PySem PySem.W PyProof.Rows
set_option maxHeartbeats 0 in
theorem PySem.Challenge.cw_sortes_k31_sizes_and_outcomes_holds : PySem.Challenge.rw_sortes_k31_sizes_and_outcomes.Holds := by
  w_on; o_law; k_head; (case hw => w_witness2)
  k_fill
  refine L2.walk_of (l := PySem.Challenge.rw_sortes_k31_sizes_and_outcomes) (n := 63) (k := 141) (x := "script") (CX := fun _ => L2.CX0) (sp := fun w => K1.spLaw _) rfl (by decide) rfl ⟨rfl, by decide, by decide⟩ (fun w h Y => PySem.W.kIn_of Y) ?F (fun _ _ a ns hl _ hS => ⟨a, rfl, ⟨ns, hS, hl⟩, fun _ => rfl⟩) (fun _ _ _ _ _ h => h)
  case F =>
    intro w mg fa h KX G hmg
    refine' K1.all_mk KX G hmg ?a1 ?l1 ?c1 ?k1 ?a2 ?l2 ?c2 ?k2 ?a3 ?l3 ?c3 ?k3 ?a4 ?l4 ?c4 ?k4 ?a5 ?l5 ?c5 ?k5 ?a6 ?l6 ?c6 ?k6 ?a7 ?l7 ?c7 ?k7 ?a8 ?l8 ?c8 ?k8 ?a9 ?l9 ?c9 ?k9 ?a10 ?l10 ?c10 ?k10 ?a11 ?l11 ?c11 ?k11 ?a12 ?l12 ?c12 ?k12 ?a13 ?l13 ?c13 ?k13 ?a14 ?l14 ?c14 ?k14 ?a15 ?l15 ?c15 ?k15 ?a16 ?l16 ?c16 ?k16 ?a17 ?l17 ?c17 ?k17 ?a18 ?l18 ?c18 ?k18 ?a19 ?l19 ?c19 ?k19 ?a20 ?l20 ?c20 ?k20 ?a21 ?l21 ?c21 ?k21 ?a22 ?l22 ?c22 ?k22 ?a23 ?l23 ?c23 ?k23 ?a24 ?l24 ?c24 ?k24 ?a25 ?l25 ?c25 ?k25 ?a26 ?l26 ?c26 ?k26 ?a27 ?l27 ?c27 ?k27 ?a28 ?l28 ?c28 ?k28 ?a29 ?l29 ?c29 ?k29 ?a30 ?l30 ?c30 ?k30 ?a31 ?l31 ?c31 ?k31 ?a32 ?l32 ?c32 ?k32 ?z0 ?z1 ?z2 ?z3 ?z4 ?z5 ?z6 ?z7 ?z8 ?z9 ?z10 ?z11 ?z12 ?z13 ?z14 ?z15 ?z16 ?y0 ?y1 ?aC0 ?aI0 ?iI0 ?lI0 ?cI0 ?kI0 ?pg0 ?hd0 ?po0 ?sa0 ?mk0 ?kc0 ?nA0_0 ?nA0_1 ?nA0_2 ?nA0_3 ?nA0_4 ?v0
    (case a1 => k_is); (case l1 => k_is); (case c1 => k_is); (case k1 => k_is); (case a2 => k_is); (case l2 => k_is); (case c2 => k_is); (case k2 => k_is); (case a3 => k_is); (case l3 => k_is); (case c3 => k_is); (case k3 => k_is); (case a4 => k_is); (case l4 => k_is); (case c4 => k_is); (case k4 => k_is); (case a5 => k_is); (case l5 => k_is); (case c5 => k_is); (case k5 => k_is); (case a6 => k_is); (case l6 => k_is); (case c6 => k_is); (case k6 => k_is); (case a7 => k_is); (case l7 => k_is); (case c7 => k_is); (case k7 => k_is); (case a8 => k_is); (case l8 => k_is); (case c8 => k_is); (case k8 => k_is); (case a9 => k_is); (case l9 => k_is); (case c9 => k_is); (case k9 => k_is); (case a10 => k_is); (case l10 => k_is); (case c10 => k_is); (case k10 => k_is); (case a11 => k_is); (case l11 => k_is); (case c11 => k_is); (case k11 => k_is); (case a12 => k_is); (case l12 => k_is); (case c12 => k_is); (case k12 => k_is); (case a13 => k_is); (case l13 => k_is); (case c13 => k_is); (case k13 => k_is); (case a14 => k_is); (case l14 => k_is); (case c14 => k_is); (case k14 => k_is); (case a15 => k_is); (case l15 => k_is); (case c15 => k_is); (case k15 => k_is); (case a16 => k_is); (case l16 => k_is); (case c16 => k_is); (case k16 => k_is); (case a17 => k_is); (case l17 => k_is); (case c17 => k_is); (case k17 => k_is); (case a18 => k_is); (case l18 => k_is); (case c18 => k_is); (case k18 => k_is); (case a19 => k_is); (case l19 => k_is); (case c19 => k_is); (case k19 => k_is); (case a20 => k_is); (case l20 => k_is); (case c20 => k_is); (case k20 => k_is); (case a21 => k_is); (case l21 => k_is); (case c21 => k_is); (case k21 => k_is); (case a22 => k_is); (case l22 => k_is); (case c22 => k_is); (case k22 => k_is); (case a23 => k_is); (case l23 => k_is); (case c23 => k_is); (case k23 => k_is); (case a24 => k_is); (case l24 => k_is); (case c24 => k_is); (case k24 => k_is); (case a25 => k_is); (case l25 => k_is); (case c25 => k_is); (case k25 => k_is); (case a26 => k_is); (case l26 => k_is); (case c26 => k_is); (case k26 => k_is); (case a27 => k_is); (case l27 => k_is); (case c27 => k_is); (case k27 => k_is); (case a28 => k_is); (case l28 => k_is); (case c28 => k_is); (case k28 => k_is); (case a29 => k_is); (case l29 => k_is); (case c29 => k_is); (case k29 => k_is); (case a30 => k_is); (case l30 => k_is); (case c30 => k_is); (case k30 => k_is); (case a31 => k_is); (case l31 => k_is); (case c31 => k_is); (case k31 => k_is); (case a32 => k_is); (case l32 => k_is); (case c32 => k_is); (case k32 => k_is); (case z0 => k_is); (case z1 => k_is); (case z2 => k_is); (case z3 => k_is); (case z4 => k_is); (case z5 => k_is); (case z6 => k_is); (case z7 => k_is); (case z8 => k_is); (case z9 => k_is); (case z10 => k_is); (case z11 => k_is); (case z12 => k_is); (case z13 => k_is); (case z14 => k_is); (case z15 => k_is); (case z16 => k_is); (case y0 => k_is); (case y1 => k_is); (case aC0 => k_is); (case aI0 => k_is); (case iI0 => k_is); (case lI0 => k_is); (case cI0 => k_is); (case kI0 => k_is); (case pg0 => k_is); (case hd0 => k_is); (case po0 => k_is); (case sa0 => k_is); (case mk0 => k_is); (case kc0 => k_is); (case nA0_0 => k_is); (case nA0_1 => k_is); (case nA0_2 => k_is); (case nA0_3 => k_is); (case nA0_4 => k_is); (case v0 => k_is)
