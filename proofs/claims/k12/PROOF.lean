import PyProof.Rows.All
import Wide.All
import OpenK.AllK
import Wide.FinOn
import HandS.ForMost
import HandS.Rev
import HandS.TupAny
import HandS.IsInst
import HandS.Flow
import KE.GoesMore
import KE.GoesEnum
import HandS.SortInts
import HandS.Style
import HandS.TupLe
import HandS.TupMul
import PyProof.AutoSeq1
import HandS.Zip
import PySem.Challenge.RW_sortes_k12_scripts
set_option Elab.async false
set_option linter.all false
set_option maxRecDepth 100000
set_option maxHeartbeats 4000000
namespace Z
open PySem PySem.Spec PyProof.Rows L2
/-! xs[k] op= e: the item of a list read -/
theorem get_list {X : Cx} : PGet X (fun o i H Q => ∃ p xs k v, o = .ref p ∧ i = .int k ∧ SqL X.K H p xs ∧ 0 ≤ k ∧ xs[k.toNat]? = some v ∧ Q v H) := by
  intro pins s σ H o i ov iv Q I r1 r2 h
  obtain ⟨p, xs, k, v, rfl, rfl, hq, h0, hx, q⟩ := h
  cases r1
  obtain ⟨t, rfl⟩ := r2
  obtain ⟨its, r, pl, hz⟩ := I.list hq
  obtain ⟨u, eu, ru⟩ := r.get hx
  have hl := r.length
  have hn := line63
  have hlt : k.toNat < xs.length := by
    have := List.getElem?_eq_some_iff.mp hx
    exact this.1
  exact wpAny_getItem_list pl.isList h0 (by omega) (by simpa using eu) ⟨v, H, I, ru, q⟩
/-! enumerate of a tuple -/
theorem meets_enum_new1 {v : Value} {o : Obj} {F : Heap → Prop} (B : Begins v o F) :
    Meets (Builtin.«enumerate.__new__» ⟨[.type "enumerate", v], []⟩) (fun _ R s => F s.heap ∧
      R (.ok (.ret (.ref (s.heap.push o).objs.size))) { s with heap := (s.heap.push o).push { cls := .type "enumerate", data := .fields #[.none, .bool false, .ref s.heap.objs.size, rawInt 0, .none, .none] } }) :=
  .of_wp fun prog w A R s h => by
    obtain ⟨hp, g, d, tk, os⟩ := s
    obtain ⟨h1, h⟩ := h
    have hsub := sub_enumerate
    have q1 : ∀ {A' : Around} {E Q : Value → Shared → Prop}, Q (.ref hp.objs.size) ⟨hp.push o, g, d, tk, os⟩ → wpAny (model prog w) A' (pyIter v) Q E ⟨hp, g, d, tk, os⟩ :=
      fun q => B.iter prog w _ _ ⟨hp, g, d, tk, os⟩ _ h1 q
    wp_walk using q1
    refine wpAny_stack_any fun st => wpAny_pure ?_
    split
    · rename_i c _ _ _ _ _
      cases (c == Value.type "enumerate") <;> (wp_walk using q1; exact ⟨_, rfl, h⟩)
    · (wp_walk using q1; exact ⟨_, rfl, h⟩)
theorem enum_new1 {prog : Program} {w : World} {A : Around} {E : Value → Shared → Prop} {s : Shared} {v : Value} {o : Obj} {G : Heap → Prop} {Q : Value → Shared → Prop} (B : Begins v o G) (h1 : G s.heap)
    (h : ∀ h', IsEnum h' (s.heap.objs.size + 1) s.heap.objs.size 0 .none → h'.get? s.heap.objs.size = some o →
      (∀ b o, s.heap.get? b = some o → h'.get? b = some o) → Q (.ref (s.heap.objs.size + 1)) { s with heap := h' }) :
    wpAny (model prog w) A (call (.type "enumerate") [v]) Q E s := by
  refine callType_new F.called_enumerate (by decide) (F.typeCall_enumerate_1 _) (F.newCall_enumerate_1 _) (fun obj => F.args_object_init_2 obj _) F.entry_enumerate_new
    (meets_enum_new1 B) ⟨h1, ?_⟩
  have hz : (s.heap.push o).objs.size = s.heap.objs.size + 1 := Heap.size_push ..
  show _ ∧ _
  rw [hz]
  have he : IsEnum ((s.heap.push o).push { cls := .type "enumerate", data := .fields #[.none, .bool false, .ref s.heap.objs.size, rawInt 0, .none, .none] }) (s.heap.objs.size + 1) s.heap.objs.size 0 .none := by
    have e1 := Heap.get?_push_size (s.heap.push o) (o := { cls := .type "enumerate", data := .fields #[.none, .bool false, .ref s.heap.objs.size, rawInt 0, .none, .none] }) rfl
    rw [hz] at e1
    exact e1
  exact ⟨⟨_, he, rfl⟩, h _ he (Heap.get?_push_of_some _ (Heap.get?_push_size _ B.free)) fun b o x => Heap.get?_push_of_some _ (Heap.get?_push_of_some _ x)⟩
/-- the tuple at a, each item in a new pair -/
def IteT (K : PySem.W.Frag) (a : Addr) : It :=
  ⟨fun i H => ∃ (xs : List V) (x : V), SqT K H a xs ∧ xs[i]? = some x, fun i H v H' => ∃ T x, v = .ref T ∧ H T = none ∧ H' = upd H T (.tup [.int (i : Nat), x]) ∧ ∀ xs, SqT K H a xs → xs[i]? = some x, fun i H => ∃ xs : List V, SqT K H a xs ∧ xs.length ≤ i⟩
theorem enumT_end {prog : Program} {w : World} {A : Around} {E : Value → Shared → Prop} {s : Shared} {e it t : Addr} {i : Nat} {items : Array Value} {old : Value} {Q : Option Value → Shared → Prop} (hh : A.handled = none)
    (he : IsEnum s.heap e it i old) (hit : s.heap.IsTupleIter it t i) (ht : s.heap.IsTuple t items) (hx : items[i]? = none)
    (hQ : ∀ h', Heap.ExtBut it s.heap h' → Q none { s with heap := h' }) : wpAny (model prog w) A (pyNext (.ref e)) Q E s := by
  have hT : s.TypeIs (.ref e) "enumerate" := ⟨_, he, rfl⟩
  unfold pyNext
  refine wpAny_bind (wpAny_attempt (wpAny_callSpecial?_slot (name := Str.ofString "__next__") hT F.slot_enumerate_next
    (wpAny_call_entry F.slot_enumerate_next hT F.entry_enumerate_next ?_ (F.args_enumerate_next_1 _))))
  show wpAny _ _ (field (.ref e) 2 >>= _) _ _ _
  refine wpAny_bind (wpAny_field he rfl (x := .ref it) rfl ?_)
  refine wpAny_bind (wpAny_nextOf_tuple_end hh hit ht hx fun h' x he' hx' => ?_)
  obtain ⟨o, ho, hc⟩ := hx'
  refine wpAny_bind (wpAny_isInstance (T := "StopIteration") (b := true) ⟨o, ho, hc⟩ isSubtype_stop ?_)
  exact wpAny_pure (hQ _ he')
theorem turn_enumT {P : Program} {w : World} {K : PySem.W.Frag} {elts : List Expr} {kk : Nat} {tpos : Pos} (a e it : Addr) :
    Turn P w K (.Tuple elts kk tpos) (IteT K a) [e, it] e (fun i h => (∃ old, IsEnum h e it ((i : Nat) : Int) old) ∧ h.IsTupleIter it a i ∧ e ≠ it ∧ a ≠ it ∧ e ≠ a) where
  mem := by simp
  obj := fun i h st b hb => by
    obtain ⟨⟨old, he⟩, ⟨o, ho, hc, hd⟩, _⟩ := st
    have e' : b = e ∨ b = it := by simpa using hb
    rcases e' with z | z
    · rw [z]
      exact ⟨_, he, fun v q => nomatch q⟩
    · rw [z]
      exact ⟨o, ho, fun v q => by rw [hd] at q; cases q⟩
  keep := fun i h h' st k => by
    obtain ⟨⟨old, he⟩, hi, hne⟩ := st
    exact ⟨⟨old, k e (by simp) _ he⟩, hi.at fun o q => k it (by simp) o q, hne⟩
  item := by
    intro X hP hw hK hc i pins s σ H E I hf st hg
    subst hP hw hK
    obtain ⟨⟨old, he⟩, hit, hne, hai, hea⟩ := st
    obtain ⟨xs, x, hq, hx⟩ := hg
    obtain ⟨its, rv, p, hz⟩ := I.tuple hq
    obtain ⟨u, hu, ru⟩ := rv.get hx
    have hel : e < s.heap.objs.size := Heap.lt_size he
    have hil : it < s.heap.objs.size := by
      obtain ⟨_, q, _⟩ := hit
      exact Heap.lt_size q
    have hlt : i < its.toArray.size := by
      obtain ⟨h1, _⟩ := List.getElem?_eq_some_iff.mp hu
      simpa using h1
    have D := Draws.tuple (prog := X.prog) (w := X.w) (A := X.A.in1) (show X.A.in1.handled = none from I.ok.hd hc) it a hai its.toArray
    refine wpAny_pyNext_enum_itemD D he ⟨hit, p⟩ hlt hne (by simp [hne, hea]) fun u' h' tk hP ho hst' hT hsz hk => ?_
    have eu : u' = u := by
      have h2 : its.toArray[i]? = some u' := hP
      have h3 : its.toArray[i]? = some u := by simpa using hu
      rw [h2] at h3
      exact Option.some.inj h3
    subst eu
    refine ⟨_, rfl, wpAny_letOwnedTupleGo_enum (s := { s with heap := h', toks := tk + 1 }) ho fun h'' he' sb => ?_⟩
    have hT2 : h''.get? s.heap.objs.size = some { cls := .type "tuple", data := .seq #[.int i tk, u'] } := (sb.2 _ (Nat.ne_of_gt hel)).trans hT
    have new : ObjOk X.prog X.w (upd H s.heap.objs.size (.tup [.int (i : Nat), x])) h'' s.heap.objs.size (.tup [.int (i : Nat), x]) :=
      ⟨by show 2 ≤ sizeLine; decide, [.int i tk, u'], .cons ⟨_, rfl⟩ (.cons ru .nil), ⟨_, hT2, rfl, _, rfl⟩⟩
    have I1 : Inv X pins σ (upd H s.heap.objs.size (.tup [.int (i : Nat), x])) { s with heap := h'', toks := tk + 1 } :=
      I.turnedNew (ch := [e, it]) (fun b ob hb q => (sb.2 b (fun z => hb (by simp [z]))).trans (hk b ob (fun z => hb (by simp [z])) (fun z => hb (by simp [z])) q)) hf (Nat.le_refl _) new
    refine ⟨.ref s.heap.objs.size, _, I1, rfl, ⟨_, x, rfl, I.hok.fresh (Nat.le_refl _), rfl, fun ys hy => by rw [I.tuple_inj hy hq]; exact hx⟩, ⟨⟨u', ?_⟩, hst'.1.at fun o q => (sb.2 it (Ne.symm hne)).trans q, hne, hai, hea⟩, fun b hb => ?_⟩
    · have e1 : ((i + 1 : Nat) : Int) = (i : Int) + 1 := by omega
      rw [e1]
      exact he'
    · have hb' : b < s.heap.objs.size := by
        have e' : b = e ∨ b = it := by simpa using hb
        rcases e' with z | z
        · rw [z]; exact hel
        · rw [z]; exact hil
      rw [upd_ne (Nat.ne_of_lt hb')]
      exact (hf b hb).1
  done := by
    intro X hP hw hK hc i pins s σ H E I hf st hg
    subst hP hw hK
    obtain ⟨⟨old, he⟩, hit, hne, hai, hea⟩ := st
    obtain ⟨xs, hq, hx⟩ := hg
    obtain ⟨its, rv, p, hz⟩ := I.tuple hq
    obtain ⟨f0, f1, f2, f3, f4, f5⟩ := hf it (by simp)
    have hl := rv.length
    exact enumT_end (I.ok.hd hc) he hit p (by simp; omega) fun h' eb => ⟨rfl, I.turned (t' := s.toks) (fun b o hb q => eb b o hb q) f0 f1 f3 f4 f5⟩
  self := fun A i s Q E st h => by
    obtain ⟨⟨_, he⟩, _⟩ := st
    exact wpAny_pyIter_enum he h
def iEnumA (K : PySem.W.Frag) (ta : TA) : TI := fun σ H R => ta σ H fun vs H1 => ∃ a xs, vs = [.ref a] ∧ ((SqL K H1 a xs ∧ R (Ite K a) H1) ∨ (SqT K H1 a xs ∧ R (IteT K a) H1))
theorem pi_enumA {X : Cx} {e : Expr} {ta : TA} {p pos tpos : Pos} {elts : List Expr} {kk : Nat} (hg : Gl X "enumerate") (hm : X.mg "enumerate" = none) (ha : PA X [e] ta) (hs : starEach [e] X.env = [(false, eval e X.env)] := by rfl) :
    PI X (.Tuple elts kk tpos) (.Call (.Name "enumerate" p) [e] [] pos) (iEnumA X.K ta) := by
  refine ⟨fun pins s σ H R I h => ?_⟩
  refine Call_ (ld_blt I hg hm boot_enumerate (PyProof.Rows.callWith_type1 (thn (ha.run pos pins s σ H _ I h) fun us s1 ⟨vs, H1, I1, r1, q1⟩ => ?_) hs rfl))
  obtain ⟨a, xs, ex, q⟩ := q1
  subst ex
  cases r1 with
  | cons r rr =>
    cases rr
    cases r
    have fp : ∀ (H' : Hp) (b : Addr), b ∈ [s1.heap.objs.size + 1, s1.heap.objs.size] → FpOk X pins H1 b := fun _ b hb => by
      have e' : b = s1.heap.objs.size + 1 ∨ b = s1.heap.objs.size := by simpa using hb
      have hle : s1.heap.objs.size ≤ b := by
        rcases e' with z | z
        · rw [z]; exact Nat.le_add_right _ _
        · rw [z]; exact Nat.le_refl _
      exact I1.fpOk hle (I1.hok.fresh hle)
    rcases q with ⟨hq, q⟩ | ⟨hq, q⟩
    · obtain ⟨its, rv, p', hz⟩ := I1.list hq
      refine call_enumerate_list p'.isList fun h' he hit hsz hk => wpAny_pyIter_enum he ?_
      have I2 : Inv X pins σ H1 { s1 with heap := h' } := I1.kept (t' := s1.toks) hk
      exact ⟨s1.heap.objs.size + 1, [s1.heap.objs.size + 1, s1.heap.objs.size], _, _, H1, rfl, I2, turn_enum a (s1.heap.objs.size + 1) s1.heap.objs.size, ⟨⟨.none, he⟩, hit, Nat.succ_ne_self _⟩, fp H1, q⟩
    · obtain ⟨its, rv, p', hz⟩ := I1.tuple hq
      have ha : a < s1.heap.objs.size := p'.lt
      refine enum_new1 (begins_tuple a its.toArray) p' fun h' he hit hk => wpAny_pyIter_enum he ?_
      have I2 : Inv X pins σ H1 { s1 with heap := h' } := I1.kept (t' := s1.toks) hk
      exact ⟨s1.heap.objs.size + 1, [s1.heap.objs.size + 1, s1.heap.objs.size], _, _, H1, rfl, I2, turn_enumT a (s1.heap.objs.size + 1) s1.heap.objs.size, ⟨⟨.none, he⟩, ⟨_, hit, rfl, rfl⟩, Nat.succ_ne_self _, Nat.ne_of_lt ha, Nat.ne_of_gt (Nat.lt_succ_of_lt ha)⟩, fp H1, q⟩
/-- for i, x in enumerate(a tuple): each turn a new pair -/
theorem for_enumT {K : PySem.W.Frag} {a : Addr} {xs : List V} {g : TG} {tb : TS} {D : Ends} {σ : L2.St} {H : Hp} (Pv : Nat → L2.St → Hp → Prop) (h0 : Pv 0 σ H) (hl : ∀ i σ H, i ≤ xs.length → Pv i σ H → SqT K H a xs)
    (hs : ∀ i x σ H T, xs[i]? = some x → Pv i σ H → H T = none → g (.ref T) σ (upd H T (.tup [.int (i : Nat), x])) fun σ2 H2 => tb { D with nx := Pv (i + 1), ct := Pv (i + 1), bk := D.nx } σ2 H2) (hd : ∀ σ H, Pv xs.length σ H → D.nx σ H) :
    ∃ W : Nat → Nat → L2.St → Hp → Prop, (∃ m, W 0 m σ H) ∧ ∀ i m σ H, W i m σ H →
      ((IteT K a).stop i H ∧ D.nx σ H) ∨ ((IteT K a).go i H ∧ ∃ N : L2.St → Hp → Prop, (∀ σ' H', N σ' H' → ∃ m', m' < m ∧ W (i + 1) m' σ' H') ∧ ∀ x H', (IteT K a).yld i H x H' → g x σ H' fun σ2 H2 => tb { D with nx := N, ct := N, bk := D.nx } σ2 H2) := by
  refine ⟨fun i m σ H => m = xs.length - i ∧ i ≤ xs.length ∧ Pv i σ H, ⟨xs.length, by simp, Nat.zero_le _, h0⟩, ?_⟩
  rintro i m σ H ⟨rfl, hi, p⟩
  have q := hl i σ H hi p
  by_cases hlt : i < xs.length
  · refine .inr ⟨⟨xs, xs[i], q, by simp [hlt]⟩, Pv (i + 1), fun σ' H' p' => ⟨xs.length - (i + 1), by omega, rfl, hlt, p'⟩, fun x H' y => ?_⟩
    obtain ⟨T, y, rfl, nT, rfl, f⟩ := y
    exact hs i y σ H T (f xs q) p nT
  · have e : i = xs.length := by omega
    subst e
    exact .inl ⟨⟨xs, q, Nat.le_refl _⟩, hd σ H p⟩
end Z
namespace Z
open PySem PySem.Spec PyProof.Rows L2
/-! more rules -/
theorem piOr {X : Cx} {tg l : Expr} {w1 w2 : TI} (h1 : PI X tg l w1) (h2 : PI X tg l w2) : PI X tg l (fun σ H R => w1 σ H R ∨ w2 σ H R) :=
  ⟨fun pins s σ H R I h => h.elim (h1.run pins s σ H R I) (h2.run pins s σ H R I)⟩
def iAny (K : PySem.W.Frag) (tl : TE) : TI := fun σ H R => tl σ H fun x H1 => ∃ a, x = .ref a ∧ ((∃ xs, SqL K H1 a xs ∧ R (Itl K a) H1) ∨ (∃ xs, SqT K H1 a xs ∧ R (Itt K a) H1))
theorem pi_any {X : Cx} {tg l : Expr} {tl : TE} (hl : PE X l tl) : PI X tg l (iAny X.K tl) := by
  refine ⟨fun pins s σ H R I h => ?_⟩
  refine thn (hl.run pins s σ H _ I h) fun v s1 ⟨x, H1, I1, r1, q1⟩ => ?_
  obtain ⟨a, e, q⟩ := q1
  subst e
  cases r1
  rcases q with ⟨xs, hq, q⟩ | ⟨xs, hq, q⟩
  · obtain ⟨its, rv, p, hz⟩ := I1.list hq
    refine wpAny_pyIter_list p.isList ?_
    refine ⟨s1.heap.objs.size, [s1.heap.objs.size], _, _, H1, rfl, I1.kept (t' := s1.toks) fun b o e => Heap.get?_push_of_some _ e, turn_list a _, ⟨_, Heap.get?_push_size _ rfl, rfl, rfl⟩, fun b hb => ?_, q⟩
    have e : b = s1.heap.objs.size := by simpa using hb
    subst e
    exact I1.fpOk (Nat.le_refl _) (I1.hok.fresh (Nat.le_refl _))
  · obtain ⟨its, rv, p, hz⟩ := I1.tuple hq
    refine wpAny_pyIter_tuple (show s1.heap.IsTuple a its.toArray from p) ?_
    refine ⟨s1.heap.objs.size, [s1.heap.objs.size], _, _, H1, rfl, I1.kept (t' := s1.toks) fun b o e => Heap.get?_push_of_some _ e, turn_tuple a _, ⟨_, Heap.get?_push_size _ rfl, rfl, rfl⟩, fun b hb => ?_, q⟩
    have e : b = s1.heap.objs.size := by simpa using hb
    subst e
    exact I1.fpOk (Nat.le_refl _) (I1.hok.fresh (Nat.le_refl _))
/-- the rules of built-in calls under names -/
def rLen (K : PySem.W.Frag) : List V → Hp → VK → Prop := fun xs H Q => ∃ p ys, xs = [.ref p] ∧ (SqL K H p ys ∨ SqT K H p ys) ∧ Q (.int ys.length) H
theorem c_len {X : Cx} : CallR X (.builtin "len") (rLen X.K) := call_len_seq
def rMax2 : List V → Hp → VK → Prop := fun xs H Q => ∃ i j, xs = [.int i, .int j] ∧ Q (.int (if j > i then j else i)) H
theorem c_max2 {X : Cx} (hc : X.calm = true) : CallR X (.builtin "max") rMax2 := call_max2 hc
def rInt1 : List V → Hp → VK → Prop := fun xs H Q => (∃ i, xs = [.int i] ∧ Q (.int i) H) ∨ ∃ k, xs = [.bl k] ∧ Q (.int (if k then 1 else 0)) H
theorem c_int1 {X : Cx} : CallR X (.type "int") rInt1 := call_int1
def rTup (K : PySem.W.Frag) : List V → Hp → VK → Prop := fun xs H Q => ∃ p ys, xs = [.ref p] ∧ ((SqL K H p ys ∧ ∀ l, H l = none → Q (.ref l) (upd H l (.tup ys))) ∨ (SqT K H p ys ∧ Q (.ref p) H))
theorem c_tup {X : Cx} : CallR X (.type "tuple") (rTup X.K) := call_tuple_of
def kGetL (K : PySem.W.Frag) : V → V → Hp → VK → Prop := fun o i H Q => ∃ p xs k v, o = .ref p ∧ i = .int k ∧ SqL K H p xs ∧ 0 ≤ k ∧ xs[k.toNat]? = some v ∧ Q v H
theorem g_list {X : Cx} : PGet X (kGetL X.K) := get_list
def tTru (K : PySem.W.Frag) (ta : TE) : TT := fun σ H Q => ta σ H fun x H' => ∃ k, TruV K x H' k ∧ Q k H'
theorem pt_tru {X : Cx} {a : Expr} {ta : TE} (ha : PE X a ta) (he : ∀ whole, isTrue a X.env whole = (do let v ← whole; standAt a.pos; holding [v] (truthy v))) : PT X a (tTru X.K ta) := pt_truth ha he
/-! a def that keeps its promise, by its name -/
structure Good (P : Program) (w : World) (K : PySem.W.Frag) (mg : Str → Option Value) (base : Heap) (k : Nat) (x : Str) (ps : List Str) (sp : Sp) : Prop where
  ex : ∃ (f : Addr) (fd : FuncData), mg x = some (.ref f) ∧ PySem.W.keepIn K (.ref f) = true ∧ Binds K fd ps [] ∧ FnOk P w K mg base CX0 k f fd ps sp
theorem pe_callG {X : Cx} {k : Nat} {x : Str} {ps : List Str} {sp : Sp} {p pos : Pos} {e : Expr} {es : List Expr} {t : TA} (G : Good X.prog X.w X.K X.mg X.base k x ps sp) (hr : Room k X.A) (hg : Gl X x) (ha : PA X (e :: es) t)
    (hdb : (x == ("__debug__" : Str)) = false := by decide) (he : starEach (e :: es) X.env = (false, eval e X.env) :: starEach es X.env := by rfl) (hpl : (backTo pos (starEach es X.env)).any (·.1) = false := by rfl) :
    PE X (.Call (.Name x p) (e :: es) [] pos) (tCall sp [] E0 t) := by
  obtain ⟨f, fd, hm, hk, hb, F⟩ := G.ex
  exact pe_call F hr hg hm hk hb .nil pass0 ha hdb he hpl
theorem pe_callG0 {X : Cx} {k : Nat} {x : Str} {ps : List Str} {sp : Sp} {p pos : Pos} (G : Good X.prog X.w X.K X.mg X.base k x ps sp) (hr : Room k X.A) (hg : Gl X x)
    (hdb : (x == ("__debug__" : Str)) = false := by decide) : PE X (.Call (.Name x p) [] [] pos) (tCall sp [] E0 tNil) := by
  obtain ⟨f, fd, hm, hk, hb, F⟩ := G.ex
  exact pe_call0 F hr hg hm hk hb .nil pass0 hdb
/-- what the top leaves of a def -/
structure Has (K : PySem.W.Frag) (mg : Str → Option Value) (x : Str) (st : Stmt) (ps : List Str) : Prop where
  ex : ∃ (f : Addr) (fd : FuncData), Fun K x x st f fd ∧ mg x = some (.ref f) ∧ Binds K fd ps []
theorem Has.good {P : Program} {w : World} {K : PySem.W.Frag} {mg : Str → Option Value} {base : Heap} {x : Str} {st : Stmt} {N ps : List Str} {k : Nat} {sp : Sp} (h : Has K mg x st ps) (S : FnScope N ps (defScope st)) (len : ∀ vs H Q E, sp vs H Q E → vs.length = ps.length)
    (hbody : ∀ (f : Addr) (cdv : Value) (A : Around) (outer : List Env) (s : Shared) (H : Hp) (vs : List V) (Q : VK) (E : XK), Room k (A.deeper (envOfC x (defScope st) s.heap.objs.size f cdv)) → sp vs H Q E →
      ∃ t, PSs (cxOf CX0 P w K mg base N x (defScope st) f cdv A outer s H E).nox (defBody st) t ∧ t ⟨fun _ H' => Q .non H', Q, fun _ _ => False, fun _ _ => False⟩ (start N vs) H) : Good P w K mg base (k + 1) x ps sp := by
  obtain ⟨f, fd, F, hm, hb⟩ := h.ex
  exact ⟨f, fd, hm, F.kp, hb, F.ok S len (hbody f)⟩
/-! heaps -/
/-- all but the object at c is as it was -/
def But (c : Addr) (H H' : Hp) : Prop := ∀ b o, b ≠ c → H b = some o → H' b = some o
theorem But.of {c : Addr} {H H' : Hp} (h : Same H H') : But c H H' := fun b o _ e => h b o e
theorem But.refl (c : Addr) (H : Hp) : But c H H := fun _ _ _ e => e
theorem But.trans {c : Addr} {H H1 H2 : Hp} (a : But c H H1) (b : But c H1 H2) : But c H H2 := fun x o n e => b x o n (a x o n e)
theorem But.upd {c : Addr} {H : Hp} {o : HO} : But c H (L2.upd H c o) := fun b u n e => by
  rw [upd_ne n]
  exact e
theorem Same.new {H : Hp} {p : Addr} {o : HO} (h : H p = none) : Same H (L2.upd H p o) := fun b u e => by
  rw [upd_ne (ne_of_none e h)]
  exact e
/-- of an object that is new behind H, whatever was done to it -/
theorem But.same {c : Addr} {H H1 H2 : Hp} (b : But c H1 H2) (a : Same H H1) (n : H c = none) : Same H H2 := fun x o e => b x o (ne_of_none e n) (a x o e)
theorem Same.rd {H H' : Hp} {a : Addr} {u : HO} (e : Same H H') (h : Rd H a u) : Rd H' a u := by
  rcases h with h | ⟨o, h⟩
  · exact .inl (e _ _ h)
  · exact .inr ⟨o, e _ _ h⟩
theorem But.rd {c : Addr} {H H' : Hp} {a : Addr} {u : HO} (e : But c H H') (n : a ≠ c) (h : Rd H a u) : Rd H' a u := by
  rcases h with h | ⟨o, h⟩
  · exact .inl (e _ _ n h)
  · exact .inr ⟨o, e _ _ n h⟩
theorem sqt_same {K : PySem.W.Frag} {H H' : Hp} {a : Addr} {xs : List V} (e : Same H H') (h : SqT K H a xs) : SqT K H' a xs := h.elim (fun h => .inl (Same.rd e h)) .inr
theorem sql_same {K : PySem.W.Frag} {H H' : Hp} {a : Addr} {xs : List V} (e : Same H H') (h : SqL K H a xs) : SqL K H' a xs := h.elim (fun h => .inl (Same.rd e h)) .inr
theorem sql_but {K : PySem.W.Frag} {c : Addr} {H H' : Hp} {a : Addr} {xs : List V} (e : But c H H') (n : a ≠ c) (h : SqL K H a xs) : SqL K H' a xs := h.elim (fun h => .inl (But.rd e n h)) .inr
theorem sqt_but {K : PySem.W.Frag} {c : Addr} {H H' : Hp} {a : Addr} {xs ys : List V} (e : But c H H') (hc : H c = some (.lst ys)) (h : SqT K H a xs) : SqT K H' a xs := h.elim (fun h => .inl (But.rd e (fun z => by
  subst z
  rcases h with h | ⟨o, h⟩
  · rw [h] at hc
    cases hc
  · rw [h] at hc
    cases hc) h)) .inr
theorem Same.of_ {H H' : Hp} {a : Addr} {o : HO} (e : Same H H') (h : H a = some o) : H' a = some o := e _ _ h
theorem But.of_ {c : Addr} {H H' : Hp} {a : Addr} {o : HO} (e : But c H H') (n : a ≠ c) (h : H a = some o) : H' a = some o := e _ _ n h
theorem same_tr {H H1 H2 : Hp} (e : Same H1 H2) (h : Same H H1) : Same H H2 := h.trans e
theorem same_but {c : Addr} {H H1 H2 : Hp} (e : But c H1 H2) (h : Same H H1) (n : H c = none) : Same H H2 := But.same e h n
theorem but_tr {c : Addr} {H H1 H2 : Hp} (e : Same H1 H2) (h : But c H H1) : But c H H2 := h.trans (But.of e)
theorem but_trB {c : Addr} {H H1 H2 : Hp} (e : But c H1 H2) (h : But c H H1) : But c H H2 := h.trans e
theorem but_refl {c : Addr} {H : Hp} : But c H H := But.refl c H
theorem same_refl {H : Hp} : Same H H := Same.refl H
/-! what is asked of a value, its wish kept apart -/
def IsBl (x : V) (H : Hp) (F : Bool → Hp → Prop) : Prop := ∃ k, x = .bl k ∧ F k H
def IsTru (K : PySem.W.Frag) (x : V) (H : Hp) (F : Bool → Hp → Prop) : Prop := ∃ k, TruV K x H k ∧ F k H
def IsPart (x : V) (H : Hp) (F : Option Int → Hp → Prop) : Prop := ∃ i, x = .int i ∧ F (some i) H
def NewT (xs : List V) (H : Hp) (Q : VK) : Prop := xs.length ≤ sizeLine ∧ ∀ p, H p = none → Q (.ref p) (upd H p (.tup xs))
def NewL (xs : List V) (H : Hp) (Q : VK) : Prop := xs.length ≤ sizeLine ∧ ∀ p, H p = none → Q (.ref p) (upd H p (.lst xs))
def Rng1 (vs : List V) (H : Hp) (R : It → Hp → Prop) : Prop := ∃ j : Int, vs = [.int j] ∧ -(2 ^ 62) ≤ j ∧ j < 2 ^ 62 ∧ R (Itr 0 j.toNat) H
def Rng2 (vs : List V) (H : Hp) (R : It → Hp → Prop) : Prop := ∃ i j : Int, vs = [.int i, .int j] ∧ (-(2 ^ 62) ≤ i ∧ i < 2 ^ 62 ∧ -(2 ^ 62) ≤ j ∧ j < 2 ^ 62) ∧ R (Itr i (j - i).toNat) H
def Rng3 (vs : List V) (H : Hp) (R : It → Hp → Prop) : Prop := ∃ (i j c : Int) (n : Nat), vs = [.int i, .int j, .int c] ∧ RgC i j c n ∧ R (Itc i c n) H
def WlkL (K : PySem.W.Frag) (x : V) (H : Hp) (R : It → Hp → Prop) : Prop := ∃ a, x = .ref a ∧ (∃ xs, SqL K H a xs) ∧ R (Itl K a) H
def WlkT (K : PySem.W.Frag) (x : V) (H : Hp) (R : It → Hp → Prop) : Prop := ∃ a, x = .ref a ∧ (∃ xs, SqT K H a xs) ∧ R (Itt K a) H
def WlkA (K : PySem.W.Frag) (x : V) (H : Hp) (R : It → Hp → Prop) : Prop := ∃ a, x = .ref a ∧ ((∃ xs, SqL K H a xs ∧ R (Itl K a) H) ∨ (∃ xs, SqT K H a xs ∧ R (Itt K a) H))
def WlkE (K : PySem.W.Frag) (vs : List V) (H : Hp) (R : It → Hp → Prop) : Prop := ∃ a xs, vs = [.ref a] ∧ ((SqL K H a xs ∧ R (Ite K a) H) ∨ (SqT K H a xs ∧ R (IteT K a) H))
def WlkV (K : PySem.W.Frag) (v : V) (H : Hp) (R : It → Hp → Prop) : Prop := ∃ (a : Addr) (xs : List V), v = .ref a ∧ ((SqL K H a xs ∧ R (Itv K a xs.length) H) ∨ (SqT K H a xs ∧ R (RT.ItvT K a xs.length) H))
def ForW (g : TG) (tb : TS) (r : VK) (n : L2.St → Hp → Prop) (J : It) (σ : L2.St) (H : Hp) : Prop := ∃ W : Nat → Nat → L2.St → Hp → Prop, (∃ m, W 0 m σ H) ∧ ∀ i m σ H, W i m σ H →
  (J.stop i H ∧ n σ H) ∨ (J.go i H ∧ ∃ N : L2.St → Hp → Prop, (∀ σ' H', N σ' H' → ∃ m', m' < m ∧ W (i + 1) m' σ' H') ∧ ∀ x H', J.yld i H x H' → g x σ H' fun σ2 H2 => tb ⟨N, r, n, N⟩ σ2 H2)
def LcW (g : TG) (tt : TT) (te : TE) (vs : List Nat) (Q : VK) (σ : L2.St) (J : It) (H : Hp) : Prop := ∀ D, H D = none → ∃ W : Nat → Nat → Hp → Prop, (∃ m, W 0 m (upd H D (.lst []))) ∧ ∀ i m H, W i m H →
  (J.stop i H ∧ Q (.ref D) H) ∨ (J.go i H ∧ ∃ Nx : Hp → Prop, (∀ H', Nx H' → ∃ m', m' < m ∧ W (i + 1) m' H') ∧ ∀ x H', J.yld i H x H' → g x (wipe σ vs) H' fun σ2 H2 => wipe σ2 vs = wipe σ vs ∧ tt σ2 H2 fun b H3 =>
    if b = true then te σ2 H3 fun y H4 => ∃ acc, H4 D = some (.lst acc) ∧ acc.length < sizeLine ∧ Nx (upd H4 D (.lst (acc ++ [y]))) else Nx H3)
/-! branches -/
theorem ifP {p A B : Prop} [Decidable p] (h1 : p → A) (h2 : ¬ p → B) : if decide p = true then A else B := ite2 (fun e => h1 (of_decide_eq_true e)) (fun e => h2 fun z => e (decide_eq_true z))
theorem ifI {x y : Int} {A B : Prop} (h1 : x = y → A) (h2 : x ≠ y → B) : if decide (V.int x = V.int y) = true then A else B := ifP (fun e => h1 (V.int.inj e)) (fun e => h2 fun z => e (by rw [z]))
theorem ifN {x y : Int} {A B : Prop} (h1 : x ≠ y → A) (h2 : x = y → B) : if (!decide (V.int x = V.int y)) = true then A else B := by
  by_cases e : x = y
  · subst e
    rw [decide_eq_true rfl]
    exact iteF (h2 rfl)
  · rw [decide_eq_false (fun z => e (V.int.inj z))]
    exact iteT (h1 e)
theorem ifTrue {k : Bool} {A B : Prop} (e : k = true) (h : A) : if k = true then A else B := by
  rw [if_pos e]
  exact h
theorem ifFalse {k : Bool} {A B : Prop} (e : k = false) (h : B) : if k = true then A else B := by
  subst e
  exact iteF h
theorem item_int {ns : List Int} {i : Nat} {x : V} (e : (ns.map V.int)[i]? = some x) : x = .int (ns.getD i 0) ∧ i < ns.length := by
  rw [List.getElem?_map] at e
  cases h : ns[i]? with
  | none =>
    rw [h] at e
    cases e
  | some y =>
    rw [h] at e
    have e1 : V.int y = x := Option.some.inj e
    refine ⟨?_, (List.getElem?_eq_some_iff.mp h).1⟩
    rw [← e1, List.getD_eq_getElem?_getD, h]
    rfl
theorem at_int {ns : List Int} {i : Nat} (h : i < ns.length) : (ns.map V.int)[i]? = some (.int (ns.getD i 0)) := by
  rw [List.getElem?_map, List.getD_eq_getElem?_getD, List.getElem?_eq_getElem h]
  rfl
theorem range_map {ns : List Int} (f : Int → Int) : ((List.range ns.length).map fun i => V.int (f (ns.getD i 0))) = (ns.map f).map V.int := by
  refine List.ext_getElem? fun i => ?_
  simp only [List.getElem?_map]
  by_cases h : i < ns.length
  · rw [List.getElem?_range h, List.getElem?_eq_getElem h]
    simp [List.getD_eq_getElem?_getD, List.getElem?_eq_getElem h]
  · rw [List.getElem?_eq_none (by simpa using Nat.le_of_not_lt h), List.getElem?_eq_none (by simpa using Nat.le_of_not_lt h)]
    rfl
theorem ixN_nat {m i : Nat} (h : i < m) : ixN m (i : Int) = some i := by
  unfold ixN
  rw [if_pos (by omega), if_pos (by omega), Int.toNat_natCast]
theorem map_set (ns : List Int) (i : Nat) (x : Int) : (ns.map V.int).set i (.int x) = (ns.set i x).map V.int := by rw [List.map_set]
theorem flat_rep (m : Nat) (x : V) : (List.replicate m [x]).flatten = List.replicate m x := by simp
theorem at_nat {ns : List Int} {i : Int} (h0 : 0 ≤ i) (h : i < ns.length) : atI (ns.map V.int) i = some (.int (ns.getD i.toNat 0)) := at_of (j := i.toNat) (by omega) (at_int (by omega))
theorem at_end {ns : List Int} (h : ns ≠ []) : ∃ v : Int, atI (ns.map V.int) (-1) = some (.int v) := by
  refine ⟨ns.getLast h, ?_⟩
  have e : ns.map V.int = ns.dropLast.map V.int ++ [V.int (ns.getLast h)] := by
    rw [show [V.int (ns.getLast h)] = [ns.getLast h].map V.int from rfl, ← List.map_append, List.dropLast_concat_getLast]
  rw [e]
  exact atI_last _ _
theorem cut_to (xs : List V) (m : Nat) : cutV xs none (some (m : Int)) = xs.take m := by
  unfold cutV
  rw [show HT.sIx xs.length xs.length (some (m : Int)) = min m xs.length from HT.sIx_nat _ _ _, HT.sIx_none, List.drop_zero, Nat.sub_zero]
  rw [List.take_eq_take_iff]
  omega
/-- how many items the list at D has -/
def lenAt (H : Hp) (D : Addr) : Nat := match H D with
  | some (.lst xs) => xs.length
  | _ => 0
theorem lenAt_of {H : Hp} {D : Addr} {xs : List V} (h : H D = some (.lst xs)) : lenAt H D = xs.length := by
  unfold lenAt
  rw [h]
theorem snoc_cases {α : Type} (l : List α) : l = [] ∨ ∃ l0 a, l = l0 ++ [a] := by
  cases h : l.reverse with
  | nil => exact .inl (by simpa using h)
  | cons a r => exact .inr ⟨r.reverse, a, by rw [← List.reverse_reverse l, h, List.reverse_cons]⟩
/-! one step of a reading -/
section
variable {K : PySem.W.Frag} {σ : L2.St} {H : Hp} {n b c : L2.St → Hp → Prop} {r : VK} {Q : VK}
theorem s_seq {t u : TS} (h : t ⟨u ⟨n, r, b, c⟩, r, b, c⟩ σ H) : tSeq t u ⟨n, r, b, c⟩ σ H := h
theorem s_next (h : n σ H) : tNext ⟨n, r, b, c⟩ σ H := h
theorem s_break (h : b σ H) : tBreak ⟨n, r, b, c⟩ σ H := h
theorem s_cont (h : c σ H) : tCont ⟨n, r, b, c⟩ σ H := h
theorem s_asg {te : TE} {g : TG} (h : te σ H fun x H1 => g x σ H1 n) : tAsg te g ⟨n, r, b, c⟩ σ H := h
theorem s_aug {i : Nat} {te : TE} {ti : TIp} {x : V} (e : σ[i]? = some (some x)) (h : te σ H fun y H1 => ti x y H1 fun z H2 => n (σ.set i (some z)) H2) : tAug i te ti ⟨n, r, b, c⟩ σ H := ⟨x, e, h⟩
theorem s_augS {to ti te : TE} {tget : V → V → Hp → VK → Prop} {tip : TIp} {tset : TSet} (h : to σ H fun o H1 => ti σ H1 fun i H2 => tget o i H2 fun x H3 => te σ H3 fun y H4 => tip x y H4 fun z H5 => tset o i z H5 fun H6 => n σ H6) : tAugS to ti te tget tip tset ⟨n, r, b, c⟩ σ H := h
theorem s_drop {te : TE} (h : te σ H fun _ H1 => n σ H1) : tDrop te ⟨n, r, b, c⟩ σ H := h
theorem s_ret {te : TE} (h : te σ H r) : tRet te ⟨n, r, b, c⟩ σ H := h
theorem s_retN (h : r .non H) : tRetN ⟨n, r, b, c⟩ σ H := h
theorem s_if {tc : TT} {t u : TS} (h : tc σ H fun k H1 => if k = true then t ⟨n, r, b, c⟩ σ H1 else u ⟨n, r, b, c⟩ σ H1) : tIfS tc t u ⟨n, r, b, c⟩ σ H := h
/-- what is known behind a statement that has several ways -/
theorem s_cut {t : TS} (Pv : L2.St → Hp → Prop) (h1 : ∀ N : L2.St → Hp → Prop, (∀ σ' H', Pv σ' H' → N σ' H') → t ⟨N, r, b, c⟩ σ H) (h2 : ∀ σ' H', Pv σ' H' → n σ' H') : t ⟨n, r, b, c⟩ σ H := h1 n h2
theorem s_gname {i : Nat} {v : V} {F : L2.St → Hp → Prop} (h : F (σ.set i (some v)) H) : gName i v σ H F := h
theorem s_gtup {a : Addr} {xs : List V} {k : Nat} {t : TGs} {F : L2.St → Hp → Prop} (hx : SqT K H a xs) (hl : xs.length = k) (h : t xs σ H F) : gTup K k t (.ref a) σ H F := ⟨a, xs, rfl, hx, hl, h⟩
theorem s_gcons {t : TG} {u : TGs} {v : V} {vs : List V} {F : L2.St → Hp → Prop} (h : t v σ H fun σ' H' => u vs σ' H' F) : gCons t u (v :: vs) σ H F := ⟨v, vs, rfl, h⟩
theorem s_gnil {F : L2.St → Hp → Prop} (h : F σ H) : gNil [] σ H F := ⟨rfl, h⟩
theorem s_gsub {to ti : TE} {t : TSet} {v : V} {F : L2.St → Hp → Prop} (h : to σ H fun o H1 => ti σ H1 fun i H2 => t o i v H2 fun H3 => F σ H3) : gSub to ti t v σ H F := h
/-- expressions -/
theorem s_var {i : Nat} {v : V} (e : σ[i]? = some (some v)) (h : Q v H) : tVar i σ H Q := ⟨v, e, h⟩
theorem s_c {v : V} (h : Q v H) : tC v σ H Q := h
theorem s_op {r2 : R2} {ta tb : TE} (h : ta σ H fun x H1 => tb σ H1 fun y H2 => r2 x y H2 Q) : tOp r2 ta tb σ H Q := h
theorem s_un {f : V → Hp → VK → Prop} {ta : TE} (h : ta σ H fun x H1 => f x H1 Q) : tUn f ta σ H Q := h
theorem s_rI0 {g : Int → Int → V} {i j : Int} (h : Q (g i j) H) : rI0 g (.int i) (.int j) H Q := ⟨i, j, rfl, rfl, h⟩
theorem s_rI {C : Int → Int → Prop} {g : Int → Int → V} {i j : Int} (hc : C i j) (h : Q (g i j) H) : rI C g (.int i) (.int j) H Q := ⟨i, j, rfl, rfl, hc, h⟩
theorem s_rU {g : Int → V} {i : Int} (h : Q (g i) H) : rU g (.int i) H Q := ⟨i, rfl, h⟩
theorem s_rEq {x y : V} (hs : scal x y = true) (h : Q (.bl (decide (x = y))) H) : rEq x y H Q := ⟨hs, h⟩
theorem s_rNe {x y : V} (hs : scal x y = true) (h : Q (.bl (!decide (x = y))) H) : rNe x y H Q := ⟨hs, h⟩
theorem s_ipI {f : Int → Int → Int} {i j : Int} (h : Q (.int (f i j)) H) : ipI f (.int i) (.int j) H Q := ⟨i, j, rfl, rfl, h⟩
theorem s_call {sp : Sp} {E : XK} {t : TA} (h : t σ H fun vs H1 => sp vs H1 Q E) : tCall sp [] E t σ H Q := by
  unfold tCall
  simp only [List.append_nil]
  exact h
theorem s_nil {F : List V → Hp → Prop} (h : F [] H) : tNil σ H F := h
theorem s_cons {ta : TE} {tr : TA} {F : List V → Hp → Prop} (h : ta σ H fun x H1 => tr σ H1 fun xs H2 => F (x :: xs) H2) : tCons ta tr σ H F := h
theorem s_tup {t : TA} (h : t σ H fun xs H1 => NewT xs H1 Q) : tTup t σ H Q := h
theorem s_lst {t : TA} (h : t σ H fun xs H1 => NewL xs H1 Q) : tLst t σ H Q := h
theorem s_new {o : HO} {Q : VK} (h : ∀ p H', H p = none → Same H H' → H' p = some o → Q (.ref p) H') : ∀ p, H p = none → Q (.ref p) (upd H p o) := fun p np => h p _ np (Same.new np) upd_same
theorem s_newT {xs : List V} (hz : xs.length ≤ sizeLine) (h : ∀ p H', H p = none → Same H H' → H' p = some (.tup xs) → Q (.ref p) H') : NewT xs H Q := ⟨hz, s_new h⟩
theorem s_newL {xs : List V} (hz : xs.length ≤ sizeLine) (h : ∀ p H', H p = none → Same H H' → H' p = some (.lst xs) → Q (.ref p) H') : NewL xs H Q := ⟨hz, s_new h⟩
theorem s_cb {f : List V → Hp → VK → Prop} {t : TA} (h : t σ H fun vs H1 => f vs H1 Q) : tCB f t σ H Q := h
theorem s_lenT {p : Addr} {xs : List V} (hx : SqT K H p xs) (h : Q (.int xs.length) H) : rLen K [.ref p] H Q := ⟨p, xs, rfl, .inr hx, h⟩
theorem s_lenL {p : Addr} {xs : List V} (hx : SqL K H p xs) (h : Q (.int xs.length) H) : rLen K [.ref p] H Q := ⟨p, xs, rfl, .inl hx, h⟩
theorem s_max2 {i j : Int} (h : Q (.int (if j > i then j else i)) H) : rMax2 [.int i, .int j] H Q := ⟨i, j, rfl, h⟩
theorem s_int1 {i : Int} (h : Q (.int i) H) : rInt1 [.int i] H Q := .inl ⟨i, rfl, h⟩
theorem s_intB {k : Bool} (h : Q (.int (if k then 1 else 0)) H) : rInt1 [.bl k] H Q := .inr ⟨k, rfl, h⟩
theorem s_tupL {p : Addr} {xs : List V} (hx : SqL K H p xs) (h : ∀ q H', H q = none → Same H H' → H' q = some (.tup xs) → Q (.ref q) H') : rTup K [.ref p] H Q := ⟨p, xs, rfl, .inl ⟨hx, s_new h⟩⟩
theorem s_tupT {p : Addr} {xs : List V} (hx : SqT K H p xs) (h : Q (.ref p) H) : rTup K [.ref p] H Q := ⟨p, xs, rfl, .inr ⟨hx, h⟩⟩
theorem s_ixL {p : Addr} {xs : List V} {i : Int} {v : V} (hx : SqL K H p xs) (e : atI xs i = some v) (h : Q v H) : rIxL K (.ref p) (.int i) H Q := ⟨p, xs, i, v, rfl, rfl, hx, e, h⟩
theorem s_ixT {p : Addr} {xs : List V} {i : Int} {v : V} (hx : SqT K H p xs) (e : atI xs i = some v) (h : Q v H) : rIxT K (.ref p) (.int i) H Q := ⟨p, xs, i, v, rfl, rfl, hx, e, h⟩
theorem s_getL {p : Addr} {xs : List V} {k : Int} {v : V} (hx : SqL K H p xs) (h0 : 0 ≤ k) (e : xs[k.toNat]? = some v) (h : Q v H) : kGetL K (.ref p) (.int k) H Q := ⟨p, xs, k, v, rfl, rfl, hx, h0, e, h⟩
theorem s_setL {p : Addr} {xs : List V} {k : Int} {j : Nat} {v : V} {F : Hp → Prop} (hx : H p = some (.lst xs)) (e : ixN xs.length k = some j) (h : ∀ H', But p H H' → H' p = some (.lst (xs.set j v)) → F H') : rSetL (.ref p) (.int k) v H F := ⟨p, xs, k, j, rfl, rfl, hx, e, h _ But.upd upd_same⟩
theorem s_rep {p : Addr} {xs : List V} {k : Int} (hx : H p = some (.lst xs)) (h0 : -(2 ^ 63) ≤ k) (h1 : k < 2 ^ 63) (hz : xs.length * k.toNat ≤ sizeLine) (h : ∀ q H', H q = none → Same H H' → H' q = some (.lst (List.replicate k.toNat xs).flatten) → Q (.ref q) H') : rRep (.ref p) (.int k) H Q :=
  ⟨p, k, xs, rfl, rfl, hx, h0, h1, hz, s_new h⟩
theorem s_catL {p q : Addr} {xs ys : List V} (hx : H p = some (.lst xs)) (hy : H q = some (.lst ys)) (hz : xs.length + ys.length ≤ sizeLine) (h : ∀ l H', H l = none → Same H H' → H' l = some (.lst (xs ++ ys)) → Q (.ref l) H') : rCat (.ref p) (.ref q) H Q :=
  ⟨p, q, xs, ys, rfl, rfl, hx, hy, hz, s_new h⟩
theorem s_catA {p q : Addr} {xs ys : List V} (hx : SqT K H p xs) (hy : SqT K H q ys) (hz : xs.length + ys.length ≤ sizeLine) (h : ∀ l H', Same H H' → SqT K H' l (xs ++ ys) → Q (.ref l) H') : rCatA K (.ref p) (.ref q) H Q :=
  ⟨p, q, xs, ys, rfl, rfl, hx, hy, hz, fun e => h q H (Same.refl H) (by subst e; exact hy), fun _ e => h p H (Same.refl H) (by subst e; rw [List.append_nil]; exact hx), fun _ _ => s_new fun l H' _ sm e => h l H' sm (SqT.of e)⟩
def TyR (K : PySem.W.Frag) (T : String) (f : V → List V → Hp → VK → Prop) (t : TA) (σ : L2.St) (x : V) (H : Hp) (Q : VK) : Prop := tyV K T x H ∧ t σ H fun xs H2 => f x xs H2 Q
def TyR0 (K : PySem.W.Frag) (T : String) (f : V → List V → Hp → VK → Prop) (x : V) (H : Hp) (Q : VK) : Prop := tyV K T x H ∧ f x [] H Q
theorem s_bm {T : String} {f : V → List V → Hp → VK → Prop} {to : TE} {t : TA} (h : to σ H fun x H1 => TyR K T f t σ x H1 Q) : tBM K T f to t σ H Q := h
theorem s_bm0 {T : String} {f : V → List V → Hp → VK → Prop} {to : TE} (h : to σ H fun x H1 => TyR0 K T f x H1 Q) : tBM0 K T f to σ H Q := h
theorem s_tyL {p : Addr} {xs : List V} {f : V → List V → Hp → VK → Prop} {t : TA} (hx : H p = some (.lst xs)) (h : t σ H fun xs H2 => f (.ref p) xs H2 Q) : TyR K "list" f t σ (.ref p) H Q := ⟨.inl ⟨rfl, _, SqL.of hx⟩, h⟩
theorem s_tyL0 {p : Addr} {xs : List V} {f : V → List V → Hp → VK → Prop} (hx : H p = some (.lst xs)) (h : f (.ref p) [] H Q) : TyR0 K "list" f (.ref p) H Q := ⟨.inl ⟨rfl, _, SqL.of hx⟩, h⟩
theorem s_append {p : Addr} {xs : List V} {y : V} (hx : H p = some (.lst xs)) (hz : xs.length < sizeLine) (h : ∀ H', But p H H' → H' p = some (.lst (xs ++ [y])) → Q .non H') : rAppend (.ref p) [y] H Q := ⟨p, xs, y, rfl, rfl, hx, hz, h _ But.upd upd_same⟩
theorem s_pop {p : Addr} {xs : List V} {y : V} (hx : H p = some (.lst xs)) (e : xs[xs.length - 1]? = some y) (h : ∀ H', But p H H' → H' p = some (.lst xs.dropLast) → Q y H') : rPop (.ref p) [] H Q := ⟨p, xs, y, rfl, rfl, hx, e, h _ But.upd upd_same⟩
theorem s_popAt {p : Addr} {xs : List V} {y : V} {i : Int} (hx : H p = some (.lst xs)) (h0 : 0 ≤ i) (hi : i < 2 ^ 63) (e : xs[i.toNat]? = some y) (h : ∀ H', But p H H' → H' p = some (.lst (xs.eraseIdx i.toNat)) → Q y H') : rPopAt (.ref p) [.int i] H Q := by
  have hl := (List.getElem?_eq_some_iff.mp e).1
  exact ⟨p, xs, i, i.toNat, y, rfl, rfl, hx, by omega, hi, seqIndex_of h0 (by omega), e, h _ But.upd upd_same⟩
/-- tests -/
theorem s_test {te : TE} {F : Bool → Hp → Prop} (h : te σ H fun x H' => IsBl x H' F) : tTest te σ H F := h
theorem s_tB {te : TE} {F : Bool → Hp → Prop} (h : te σ H fun x H' => IsBl x H' F) : tB te σ H F := h
theorem s_bl {k : Bool} {F : Bool → Hp → Prop} (h : F k H) : IsBl (.bl k) H F := ⟨k, rfl, h⟩
theorem s_and {t u : TT} {F : Bool → Hp → Prop} (h : t σ H fun k H1 => if k = true then u σ H1 F else F false H1) : tAnd t u σ H F := h
theorem s_or {t u : TT} {F : Bool → Hp → Prop} (h : t σ H fun k H1 => if k = true then F true H1 else u σ H1 F) : tOr t u σ H F := h
theorem s_not {t : TT} {F : Bool → Hp → Prop} (h : t σ H fun k H1 => F (!k) H1) : tNot t σ H F := h
theorem s_tru {ta : TE} {F : Bool → Hp → Prop} (h : ta σ H fun x H' => IsTru K x H' F) : tTru K ta σ H F := h
theorem s_truL {p : Addr} {xs : List V} {F : Bool → Hp → Prop} (hx : SqL K H p xs) (h : F (!xs.isEmpty) H) : IsTru K (.ref p) H F := ⟨_, .inl ⟨xs, hx, rfl⟩, h⟩
theorem s_truT {p : Addr} {xs : List V} {F : Bool → Hp → Prop} (hx : SqT K H p xs) (h : F (!xs.isEmpty) H) : IsTru K (.ref p) H F := ⟨_, .inr (.inl ⟨xs, hx, rfl⟩), h⟩
/-- loops -/
theorem s_for {wi : TI} {g : TG} {tb : TS} (h : wi σ H fun J H1 => ForW g tb r n J σ H1) : tFor wi g tb ⟨n, r, b, c⟩ σ H := h
theorem s_rng1 {ta : TA} {R : It → Hp → Prop} (h : ta σ H fun vs H1 => Rng1 vs H1 R) : iRng1 ta σ H R := h
theorem s_rng2 {ta : TA} {R : It → Hp → Prop} (h : ta σ H fun vs H1 => Rng2 vs H1 R) : iRng2 ta σ H R := h
theorem s_rng3 {ta : TA} {R : It → Hp → Prop} (h : ta σ H fun vs H1 => Rng3 vs H1 R) : iRng3 ta σ H R := h
theorem s_rng1v {j : Int} {R : It → Hp → Prop} (h0 : -(2 ^ 62) ≤ j) (h1 : j < 2 ^ 62) (h : R (Itr 0 j.toNat) H) : Rng1 [.int j] H R := ⟨j, rfl, h0, h1, h⟩
theorem s_rng2v {i j : Int} {R : It → Hp → Prop} (h0 : -(2 ^ 62) ≤ i) (h1 : i < 2 ^ 62) (h2 : -(2 ^ 62) ≤ j) (h3 : j < 2 ^ 62) (h : R (Itr i (j - i).toNat) H) : Rng2 [.int i, .int j] H R := ⟨i, j, rfl, ⟨h0, h1, h2, h3⟩, h⟩
theorem s_rng3v {i j c : Int} {m : Nat} {R : It → Hp → Prop} (hc : RgC i j c m) (h : R (Itc i c m) H) : Rng3 [.int i, .int j, .int c] H R := ⟨i, j, c, m, rfl, hc, h⟩
theorem s_ilist {tl : TE} {R : It → Hp → Prop} (h : tl σ H fun x H1 => WlkL K x H1 R) : iList K tl σ H R := h
theorem s_ilistv {a : Addr} {xs : List V} {R : It → Hp → Prop} (hx : SqL K H a xs) (h : R (Itl K a) H) : WlkL K (.ref a) H R := ⟨a, rfl, ⟨xs, hx⟩, h⟩
theorem s_itup {tl : TE} {R : It → Hp → Prop} (h : tl σ H fun x H1 => WlkT K x H1 R) : iTup K tl σ H R := h
theorem s_itupv {a : Addr} {xs : List V} {R : It → Hp → Prop} (hx : SqT K H a xs) (h : R (Itt K a) H) : WlkT K (.ref a) H R := ⟨a, rfl, ⟨xs, hx⟩, h⟩
theorem s_iany {tl : TE} {R : It → Hp → Prop} (h : tl σ H fun x H1 => WlkA K x H1 R) : iAny K tl σ H R := h
theorem s_ianyL {a : Addr} {xs : List V} {R : It → Hp → Prop} (hx : SqL K H a xs) (h : R (Itl K a) H) : WlkA K (.ref a) H R := ⟨a, rfl, .inl ⟨xs, hx, h⟩⟩
theorem s_ianyT {a : Addr} {xs : List V} {R : It → Hp → Prop} (hx : SqT K H a xs) (h : R (Itt K a) H) : WlkA K (.ref a) H R := ⟨a, rfl, .inr ⟨xs, hx, h⟩⟩
theorem s_ienum {ta : TA} {R : It → Hp → Prop} (h : ta σ H fun vs H1 => WlkE K vs H1 R) : iEnumA K ta σ H R := h
theorem s_ienumT {a : Addr} {xs : List V} {R : It → Hp → Prop} (hx : SqT K H a xs) (h : R (IteT K a) H) : WlkE K [.ref a] H R := ⟨a, xs, rfl, .inr ⟨hx, h⟩⟩
theorem s_ienumL {a : Addr} {xs : List V} {R : It → Hp → Prop} (hx : SqL K H a xs) (h : R (Ite K a) H) : WlkE K [.ref a] H R := ⟨a, xs, rfl, .inl ⟨hx, h⟩⟩
theorem s_irev {te : TE} {R : It → Hp → Prop} (h : te σ H fun v H1 => WlkV K v H1 R) : RT.iRevA K te σ H R := h
theorem s_irevT {a : Addr} {xs : List V} {R : It → Hp → Prop} (hx : SqT K H a xs) (h : R (RT.ItvT K a xs.length) H) : WlkV K (.ref a) H R := ⟨a, xs, rfl, .inr ⟨hx, h⟩⟩
theorem s_irevL {a : Addr} {xs : List V} {R : It → Hp → Prop} (hx : SqL K H a xs) (h : R (Itv K a xs.length) H) : WlkV K (.ref a) H R := ⟨a, xs, rfl, .inl ⟨hx, h⟩⟩
/-- loops by an invariant over the turn -/
theorem w_list {g : TG} {tb : TS} {a : Addr} {xs : List V} (Pv : Nat → L2.St → Hp → Prop) (h0 : Pv 0 σ H) (hl : ∀ i σ H, i ≤ xs.length → Pv i σ H → SqL K H a xs)
    (hs : ∀ i x σ H, xs[i]? = some x → Pv i σ H → g x σ H fun σ2 H2 => tb ⟨Pv (i + 1), r, n, Pv (i + 1)⟩ σ2 H2) (hd : ∀ σ H, Pv xs.length σ H → n σ H) : ForW g tb r n (Itl K a) σ H :=
  for_list (D := ⟨n, r, fun _ _ => False, fun _ _ => False⟩) Pv h0 hl hs hd
theorem w_tup {g : TG} {tb : TS} {a : Addr} {xs : List V} (Pv : Nat → L2.St → Hp → Prop) (h0 : Pv 0 σ H) (hl : ∀ i σ H, i ≤ xs.length → Pv i σ H → SqT K H a xs)
    (hs : ∀ i x σ H, xs[i]? = some x → Pv i σ H → g x σ H fun σ2 H2 => tb ⟨Pv (i + 1), r, n, Pv (i + 1)⟩ σ2 H2) (hd : ∀ σ H, Pv xs.length σ H → n σ H) : ForW g tb r n (Itt K a) σ H :=
  for_tup (D := ⟨n, r, fun _ _ => False, fun _ _ => False⟩) Pv h0 hl hs hd
theorem w_range {g : TG} {tb : TS} {lo : Int} {m : Nat} (Pv : Nat → L2.St → Hp → Prop) (h0 : Pv 0 σ H)
    (hs : ∀ i σ H, i < m → Pv i σ H → g (.int (lo + i)) σ H fun σ2 H2 => tb ⟨Pv (i + 1), r, n, Pv (i + 1)⟩ σ2 H2) (hd : ∀ σ H, Pv m σ H → n σ H) : ForW g tb r n (Itr lo m) σ H :=
  for_range (D := ⟨n, r, fun _ _ => False, fun _ _ => False⟩) Pv h0 hs hd
theorem w_rangeC {g : TG} {tb : TS} {lo c' : Int} {m : Nat} (Pv : Nat → L2.St → Hp → Prop) (h0 : Pv 0 σ H)
    (hs : ∀ i σ H, i < m → Pv i σ H → g (.int (lo + i * c')) σ H fun σ2 H2 => tb ⟨Pv (i + 1), r, n, Pv (i + 1)⟩ σ2 H2) (hd : ∀ σ H, Pv m σ H → n σ H) : ForW g tb r n (Itc lo c' m) σ H :=
  for_rangeC (D := ⟨n, r, fun _ _ => False, fun _ _ => False⟩) Pv h0 hs hd
theorem w_enumT {g : TG} {tb : TS} {a : Addr} {xs : List V} (Pv : Nat → L2.St → Hp → Prop) (h0 : Pv 0 σ H) (hl : ∀ i σ H, i ≤ xs.length → Pv i σ H → SqT K H a xs)
    (hs : ∀ i x σ H T H', xs[i]? = some x → Pv i σ H → H T = none → Same H H' → H' T = some (.tup [.int (i : Nat), x]) → g (.ref T) σ H' fun σ2 H2 => tb ⟨Pv (i + 1), r, n, Pv (i + 1)⟩ σ2 H2) (hd : ∀ σ H, Pv xs.length σ H → n σ H) : ForW g tb r n (IteT K a) σ H :=
  for_enumT (D := ⟨n, r, fun _ _ => False, fun _ _ => False⟩) Pv h0 hl (fun i x σ H T e p nT => hs i x σ H T _ e p nT (Same.new nT) upd_same) hd
theorem w_revT {g : TG} {tb : TS} {a : Addr} {xs : List V} (Pv : Nat → L2.St → Hp → Prop) (h0 : Pv 0 σ H) (hq : ∀ i σ H, Pv i σ H → SqT K H a xs)
    (hs : ∀ (i : Nat) (x : V) (σ : L2.St) (H : Hp), i < xs.length → xs[xs.length - 1 - i]? = some x → Pv i σ H → g x σ H fun σ2 H2 => tb ⟨Pv (i + 1), r, n, Pv (i + 1)⟩ σ2 H2) (hd : ∀ σ H, Pv xs.length σ H → n σ H) : ForW g tb r n (RT.ItvT K a xs.length) σ H :=
  RT.for_ItvT (D := ⟨n, r, fun _ _ => False, fun _ _ => False⟩) Pv h0 hq hs hd
/-- the int in a slot -/
def ival (σ : L2.St) (i : Nat) : Int := match σ[i]? with
  | some (some (.int k)) => k
  | _ => 0
theorem s_wh {tc : TT} {tb : TS} (Pv : L2.St → Hp → Prop) (μ : L2.St → Hp → Nat) (h0 : Pv σ H) (hs : ∀ σ H, Pv σ H → tc σ H (fun k H1 => if k = true then ∃ N : L2.St → Hp → Prop, (∀ σ' H', N σ' H' → ∃ m', m' < μ σ H ∧ m' = μ σ' H' ∧ Pv σ' H') ∧ tb ⟨N, r, n, N⟩ σ H1 else n σ H1)) :
    tWhile tc tb ⟨n, r, b, c⟩ σ H := by
  refine ⟨fun m σ H => m = μ σ H ∧ Pv σ H, ⟨_, rfl, h0⟩, ?_⟩
  rintro m σ H ⟨rfl, p⟩
  exact hs σ H p
theorem s_wN {tb : TS} {Pv : L2.St → Hp → Prop} {μ : L2.St → Hp → Nat} {m : Nat} (h : tb ⟨fun σ' H' => Pv σ' H' ∧ μ σ' H' < m, r, n, fun σ' H' => Pv σ' H' ∧ μ σ' H' < m⟩ σ H) : ∃ N : L2.St → Hp → Prop, (∀ σ' H', N σ' H' → ∃ m', m' < m ∧ m' = μ σ' H' ∧ Pv σ' H') ∧ tb ⟨N, r, n, N⟩ σ H :=
  ⟨_, fun σ' H' x => ⟨_, x.2, rfl, x.1⟩, h⟩
/-- slices -/
theorem s_sl {f : V → Option Int → Option Int → Hp → VK → Prop} {te : TE} {tl th : TO} (h : te σ H fun x H1 => tl σ H1 fun l H2 => th σ H2 fun u H3 => f x l u H3 Q) : tSl f te tl th σ H Q := h
theorem s_part {t : TE} {F : Option Int → Hp → Prop} (h : t σ H fun x H1 => IsPart x H1 F) : tPart t σ H F := h
theorem s_partv {i : Int} {F : Option Int → Hp → Prop} (h : F (some i) H) : IsPart (.int i) H F := ⟨i, rfl, h⟩
theorem s_noPart {F : Option Int → Hp → Prop} (h : F none H) : tNoPart σ H F := h
theorem s_slL {p : Addr} {xs : List V} {lo hi : Option Int} (hx : SqL K H p xs) (h : ∀ q H', H q = none → Same H H' → H' q = some (.lst (cutV xs lo hi)) → Q (.ref q) H') : rSlL K (.ref p) lo hi H Q := ⟨p, xs, rfl, hx, s_new h⟩
/-- comprehensions -/
theorem s_lc {wi : TI} {g : TG} {tt : TT} {te : TE} {vs : List Nat} (h : wi σ H fun J H1 => LcW g tt te vs Q σ J H1) : tLc wi g tt te vs σ H Q := h
def LcEnd (D : Addr) (Nx : Hp → Prop) (y : V) (H : Hp) : Prop := ∃ acc, H D = some (.lst acc) ∧ acc.length < sizeLine ∧ Nx (upd H D (.lst (acc ++ [y])))
theorem s_lcEnd {D : Addr} {acc : List V} {y : V} {Nx : Hp → Prop} (hD : H D = some (.lst acc)) (hz : acc.length < sizeLine) (h : ∀ H', But D H H' → H' D = some (.lst (acc ++ [y])) → Nx H') : LcEnd D Nx y H := ⟨acc, hD, hz, h _ But.upd upd_same⟩
/-- .. by an invariant over the turn and what the new list at D holds -/
theorem l_range {g : TG} {tt : TT} {te : TE} {vs : List Nat} {lo : Int} {m : Nat} (Pv : Addr → Nat → Hp → Prop) (h0 : ∀ D H', H D = none → Same H H' → H' D = some (.lst []) → Pv D 0 H')
    (hs : ∀ D i H, i < m → Pv D i H → g (.int (lo + i)) (wipe σ vs) H fun σ2 H2 => wipe σ2 vs = wipe σ vs ∧ tt σ2 H2 fun b H3 => if b = true then te σ2 H3 fun y H4 => LcEnd D (Pv D (i + 1)) y H4 else Pv D (i + 1) H3) (hd : ∀ D H, Pv D m H → Q (.ref D) H) : LcW g tt te vs Q σ (Itr lo m) H :=
  fun D nD => lc_range (Pv D) (h0 D _ nD (Same.new nD) upd_same) (hs D) (hd D)
theorem l_list {g : TG} {tt : TT} {te : TE} {vs : List Nat} {a : Addr} {xs : List V} (Pv : Addr → Nat → Hp → Prop) (h0 : ∀ D H', H D = none → Same H H' → H' D = some (.lst []) → Pv D 0 H') (hl : ∀ D i H, i ≤ xs.length → Pv D i H → SqL K H a xs)
    (hs : ∀ D i x H, xs[i]? = some x → Pv D i H → g x (wipe σ vs) H fun σ2 H2 => wipe σ2 vs = wipe σ vs ∧ tt σ2 H2 fun b H3 => if b = true then te σ2 H3 fun y H4 => LcEnd D (Pv D (i + 1)) y H4 else Pv D (i + 1) H3) (hd : ∀ D H, Pv D xs.length H → Q (.ref D) H) : LcW g tt te vs Q σ (Itl K a) H :=
  fun D nD => lc_list (Pv D) (h0 D _ nD (Same.new nD) upd_same) (hl D) (hs D) (hd D)
theorem l_tup {g : TG} {tt : TT} {te : TE} {vs : List Nat} {a : Addr} {xs : List V} (Pv : Addr → Nat → Hp → Prop) (h0 : ∀ D H', H D = none → Same H H' → H' D = some (.lst []) → Pv D 0 H') (hl : ∀ D i H, i ≤ xs.length → Pv D i H → SqT K H a xs)
    (hs : ∀ D i x H, xs[i]? = some x → Pv D i H → g x (wipe σ vs) H fun σ2 H2 => wipe σ2 vs = wipe σ vs ∧ tt σ2 H2 fun b H3 => if b = true then te σ2 H3 fun y H4 => LcEnd D (Pv D (i + 1)) y H4 else Pv D (i + 1) H3) (hd : ∀ D H, Pv D xs.length H → Q (.ref D) H) : LcW g tt te vs Q σ (Itt K a) H :=
  fun D nD => lc_tup (Pv D) (h0 D _ nD (Same.new nD) upd_same) (hl D) (hs D) (hd D)
/-- a list made item by item, nothing else changed: the k-th item is F k -/
theorem map_range_succ (F : Nat → V) (i : Nat) : (List.range (i + 1)).map F = (List.range i).map F ++ [F i] := by
  rw [List.range_succ, List.map_append]
  rfl
theorem l_mapL {g : TG} {tt : TT} {te : TE} {vs : List Nat} {a : Addr} {xs : List V} (F : Nat → V) (hx : SqL K H a xs) (hz : xs.length ≤ 100000)
    (hs : ∀ (D : Addr) (N : Hp → Prop) (i : Nat) (x : V) (H' : Hp), xs[i]? = some x → Same H H' → (∀ H4, Same H' H4 → LcEnd D N (F i) H4) → g x (wipe σ vs) H' fun σ2 H2 => wipe σ2 vs = wipe σ vs ∧ tt σ2 H2 fun b H3 => if b = true then te σ2 H3 fun y H4 => LcEnd D N y H4 else N H3)
    (hd : ∀ D H', H D = none → Same H H' → H' D = some (.lst ((List.range xs.length).map F)) → Q (.ref D) H') : LcW g tt te vs Q σ (Itl K a) H := by
  have line : (100000 : Nat) < sizeLine := by decide
  refine l_list (fun D i H' => H D = none ∧ Same H H' ∧ H' D = some (.lst ((List.range i).map F))) (fun D H' n sm e => ⟨n, sm, e⟩) (fun D i H' _ p => sql_same p.2.1 hx) ?_ fun D H' p => hd D H' p.1 p.2.1 p.2.2
  rintro D i x H' e ⟨n, sm, eD⟩
  have hi := (List.getElem?_eq_some_iff.mp e).1
  refine hs D (fun H' => H D = none ∧ Same H H' ∧ H' D = some (.lst ((List.range (i + 1)).map F))) i x H' e sm fun H4 s4 => ?_
  refine s_lcEnd (s4 _ _ eD) (by rw [List.length_map, List.length_range]; omega) fun H5 b5 e5 => ⟨n, But.same b5 (sm.trans s4) n, ?_⟩
  rw [map_range_succ]
  exact e5
theorem l_mapT {g : TG} {tt : TT} {te : TE} {vs : List Nat} {a : Addr} {xs : List V} (F : Nat → V) (hx : SqT K H a xs) (hz : xs.length ≤ 100000)
    (hs : ∀ (D : Addr) (N : Hp → Prop) (i : Nat) (x : V) (H' : Hp), xs[i]? = some x → Same H H' → (∀ H4, Same H' H4 → LcEnd D N (F i) H4) → g x (wipe σ vs) H' fun σ2 H2 => wipe σ2 vs = wipe σ vs ∧ tt σ2 H2 fun b H3 => if b = true then te σ2 H3 fun y H4 => LcEnd D N y H4 else N H3)
    (hd : ∀ D H', H D = none → Same H H' → H' D = some (.lst ((List.range xs.length).map F)) → Q (.ref D) H') : LcW g tt te vs Q σ (Itt K a) H := by
  have line : (100000 : Nat) < sizeLine := by decide
  refine l_tup (fun D i H' => H D = none ∧ Same H H' ∧ H' D = some (.lst ((List.range i).map F))) (fun D H' n sm e => ⟨n, sm, e⟩) (fun D i H' _ p => sqt_same p.2.1 hx) ?_ fun D H' p => hd D H' p.1 p.2.1 p.2.2
  rintro D i x H' e ⟨n, sm, eD⟩
  have hi := (List.getElem?_eq_some_iff.mp e).1
  refine hs D (fun H' => H D = none ∧ Same H H' ∧ H' D = some (.lst ((List.range (i + 1)).map F))) i x H' e sm fun H4 s4 => ?_
  refine s_lcEnd (s4 _ _ eD) (by rw [List.length_map, List.length_range]; omega) fun H5 b5 e5 => ⟨n, But.same b5 (sm.trans s4) n, ?_⟩
  rw [map_range_succ]
  exact e5
theorem l_map {g : TG} {tt : TT} {te : TE} {vs : List Nat} {a : Addr} {xs : List V} (F : Nat → V) (hx : SqL K H a xs ∨ SqT K H a xs) (hz : xs.length ≤ 100000)
    (hs : ∀ (D : Addr) (N : Hp → Prop) (i : Nat) (x : V) (H' : Hp), xs[i]? = some x → Same H H' → (∀ H4, Same H' H4 → LcEnd D N (F i) H4) → g x (wipe σ vs) H' fun σ2 H2 => wipe σ2 vs = wipe σ vs ∧ tt σ2 H2 fun b H3 => if b = true then te σ2 H3 fun y H4 => LcEnd D N y H4 else N H3)
    (hd : ∀ D H', H D = none → Same H H' → H' D = some (.lst ((List.range xs.length).map F)) → Q (.ref D) H') : WlkA K (.ref a) H (fun J H1 => LcW g tt te vs Q σ J H1) :=
  hx.elim (fun hx => s_ianyL hx (l_mapL F hx hz hs hd)) (fun hx => s_ianyT hx (l_mapT F hx hz hs hd))
theorem l_mapR {g : TG} {tt : TT} {te : TE} {vs : List Nat} {lo : Int} {m : Nat} (F : Nat → V) (hz : m ≤ 100000)
    (hs : ∀ (D : Addr) (N : Hp → Prop) (i : Nat) (H' : Hp), i < m → Same H H' → (∀ H4, Same H' H4 → LcEnd D N (F i) H4) → g (.int (lo + i)) (wipe σ vs) H' fun σ2 H2 => wipe σ2 vs = wipe σ vs ∧ tt σ2 H2 fun b H3 => if b = true then te σ2 H3 fun y H4 => LcEnd D N y H4 else N H3)
    (hd : ∀ D H', H D = none → Same H H' → H' D = some (.lst ((List.range m).map F)) → Q (.ref D) H') : LcW g tt te vs Q σ (Itr lo m) H := by
  have line : (100000 : Nat) < sizeLine := by decide
  refine l_range (fun D i H' => H D = none ∧ Same H H' ∧ H' D = some (.lst ((List.range i).map F))) (fun D H' n sm e => ⟨n, sm, e⟩) ?_ fun D H' p => hd D H' p.1 p.2.1 p.2.2
  rintro D i H' hi ⟨n, sm, eD⟩
  refine hs D (fun H' => H D = none ∧ Same H H' ∧ H' D = some (.lst ((List.range (i + 1)).map F))) i H' hi sm fun H4 s4 => ?_
  refine s_lcEnd (s4 _ _ eD) (by rw [List.length_map, List.length_range]; omega) fun H5 b5 e5 => ⟨n, But.same b5 (sm.trans s4) n, ?_⟩
  rw [map_range_succ]
  exact e5
theorem s_wipe {σ1 σ2 : L2.St} {vs : List Nat} {B : Prop} (e : wipe σ1 vs = wipe σ2 vs) (h : B) : wipe σ1 vs = wipe σ2 vs ∧ B := ⟨e, h⟩
theorem s_yes {F : Bool → Hp → Prop} (h : F true H) : tYes σ H F := h
end
end Z
namespace Z
open PySem PySem.Spec PyProof.Rows L2
/-! the rules with the written part named -/
section
variable {X : Cx} (K : PySem.W.Frag)
theorem pe_notK {a : Expr} {ta : TE} {pos : Pos} (ha : PE X a ta) (e : X.K = K := by rfl) : PE X (.UnaryOp .Not a pos) (tNotT K ta) := by subst e; exact pe_notT ha
theorem op_catK (e : X.K = K := by rfl) : OpR X (binaryOp .Add) (rCatA K) := by subst e; exact op_catA
theorem op_eqK (hu : X.A.units + 64 < cLine) (e : X.K = K := by rfl) : OpR X (compareOp .Eq) (rEqD K) := by subst e; exact op_eqD hu
theorem op_neK (hu : X.A.units + 64 < cLine) (e : X.K = K := by rfl) : OpR X (compareOp .NotEq) (rNeD K) := by subst e; exact op_neD hu
theorem sl_listK (e : X.K = K := by rfl) : SlR X (rSlL K) := by subst e; exact sl_list
theorem sl_tupK (e : X.K = K := by rfl) : SlR X (rSlA K) := by subst e; exact sl_tupA
theorem ix_listK (e : X.K = K := by rfl) : IxR X (rIxL K) := by subst e; exact ix_list
theorem ix_tupK (e : X.K = K := by rfl) : IxR X (rIxT K) := by subst e; exact ix_tup
theorem ix_seqK (e : X.K = K := by rfl) : IxR X (rIx K) := by subst e; exact ix_seq
theorem c_lenK (e : X.K = K := by rfl) : CallR X (.builtin "len") (rLen K) := by subst e; exact c_len
theorem cr_sumK (hc : X.calm = true) (e : X.K = K := by rfl) : CallR X (.builtin "sum") (rSum K) := by subst e; exact cr_sum hc
theorem cr_anyK (hc : X.calm = true) (e : X.K = K := by rfl) : CallR X (.builtin "any") (rAny K) := by subst e; exact cr_any hc
theorem cr_allK (hc : X.calm = true) (e : X.K = K := by rfl) : CallR X (.builtin "all") (rAll K) := by subst e; exact cr_all hc
theorem c_tupK (e : X.K = K := by rfl) : CallR X (.type "tuple") (rTup K) := by subst e; exact c_tup
theorem c_isiK (e : X.K = K := by rfl) : CallR X (.builtin "isinstance") (rIsi K) := by subst e; exact call_isi
theorem pi_listK {tg l : Expr} {tl : TE} (hl : PE X l tl) (e : X.K = K := by rfl) : PI X tg l (iList K tl) := by subst e; exact pi_list hl
theorem pi_tupK {tg l : Expr} {tl : TE} (hl : PE X l tl) (e : X.K = K := by rfl) : PI X tg l (iTup K tl) := by subst e; exact pi_tup hl
theorem pi_anyK {tg l : Expr} {tl : TE} (hl : PE X l tl) (e : X.K = K := by rfl) : PI X tg l (iAny K tl) := by subst e; exact pi_any hl
theorem pt_truK {a : Expr} {ta : TE} (ha : PE X a ta) (he : ∀ whole, isTrue a X.env whole = (do let v ← whole; standAt a.pos; holding [v] (truthy v))) (e : X.K = K := by rfl) : PT X a (tTru K ta) := by subst e; exact pt_tru ha he
theorem pg_tupK {es : List Expr} {k : Nat} {t : TGs} {pos : Pos} (n : Nat) (hc : X.calm = true) (h : PGs X es t) (hn : (assignEach es X.env).length = n := by rfl) (hst : (assignEach es X.env).findIdx? (·.1) = none := by rfl) (e : X.K = K := by rfl) : PG X (.Tuple es k pos) (gTup K n t) := by subst e; exact pg_tup hc h hn hst
theorem pi_enumK {e : Expr} {ta : TA} {p pos tpos : Pos} {elts : List Expr} {kk : Nat} (hg : Gl X "enumerate") (hm : X.mg "enumerate" = none) (ha : PA X [e] ta) (hs : starEach [e] X.env = [(false, eval e X.env)] := by rfl) (ek : X.K = K := by rfl) :
    PI X (.Tuple elts kk tpos) (.Call (.Name "enumerate" p) [e] [] pos) (iEnumA K ta) := by subst ek; exact pi_enumA hg hm ha hs
theorem pi_revK {tg e : Expr} {te : TE} {p pos : Pos} (hg : Gl X "reversed") (hm : X.mg "reversed" = none) (he : PE X e te) (hs : starEach [e] X.env = (false, eval e X.env) :: starEach [] X.env := by rfl) (ek : X.K = K := by rfl) :
    PI X tg (.Call (.Name "reversed" p) [e] [] pos) (RT.iRevA K te) := by subst ek; exact RT.pi_revA hg hm he hs
section
variable {o e : Expr} {es : List Expr} {to : TE} {t : TA} {name : Str} {apos cpos : Pos} {T id : String} {r : V → List V → Hp → VK → Prop}
theorem pe_bm0K (pa : PlainAttrs T) (slot : Slot T name id) (hty : typeOf (.builtin id) = pure (.type "method_descriptor")) (hm : MtR X id r) (ho : PE X o to)
    (hbase : attributeBase o name X.env (eval o X.env) = eval o X.env := by rfl) (hline : (apos.endLine == cpos.line) = true := by rfl) (ek : X.K = K := by rfl) : PE X (.Call (.Attribute o name apos) [] [] cpos) (tBM0 K T r to) := by subst ek; exact pe_bm0 pa slot hty hm ho hbase hline
theorem pe_bmK (pa : PlainAttrs T) (slot : Slot T name id) (hty : typeOf (.builtin id) = pure (.type "method_descriptor")) (hm : MtR X id r) (ho : PE X o to) (ha : PA X (e :: es) t)
    (hbase : attributeBase o name X.env (eval o X.env) = eval o X.env := by rfl)
    (hfew : ((backTo cpos (starEach (e :: es) X.env)).all (fun x => !x.1) && (backToKw cpos (keywordEach [] X.env)).all (fun x => x.1.isSome)
      && decide ((e :: es).length + ([] : List Keyword).length + (if ([] : List Keyword).isEmpty then 0 else 1) < 30)) = true := by rfl)
    (hline : (apos.endLine == cpos.line) = true := by rfl) (hs : starEach (e :: es) X.env = (false, eval e X.env) :: starEach es X.env := by rfl) (hplain : (backTo cpos (starEach es X.env)).any (·.1) = false := by rfl) (ek : X.K = K := by rfl) :
    PE X (.Call (.Attribute o name apos) (e :: es) [] cpos) (tBM K T r to t) := by subst ek; exact pe_bm pa slot hty hm ho ha hbase hfew hline hs hplain
end
theorem g_listK (e : X.K = K := by rfl) : PGet X (kGetL K) := by subst e; exact g_list
end
/-! heaps, lists, further steps -/
theorem But.sameN {c d : Addr} {H H1 H2 : Hp} (b : But c H1 H2) (a : But d H H1) (n : H c = none) : But d H H2 := fun x o nd e => b x o (ne_of_none e n) (a x o nd e)
theorem map_erase (ns : List Int) (i : Nat) : (ns.map V.int).eraseIdx i = (ns.eraseIdx i).map V.int := by
  induction ns generalizing i with
  | nil => rfl
  | cons a r ih =>
    cases i with
    | zero => rfl
    | succ i => show V.int a :: (r.map V.int).eraseIdx i = V.int a :: (r.eraseIdx i).map V.int; rw [ih]
theorem range_all (n : Nat) (v : Bool) : ((List.range n).map fun _ => V.bl v) = (List.replicate n v).map V.bl := by
  induction n with
  | zero => rfl
  | succ n ih => rw [List.range_succ, List.map_append, ih, List.replicate_succ', List.map_append]; rfl
theorem any_false (n : Nat) : (List.replicate n false).any id = false := by induction n with
  | zero => rfl
  | succ n ih => rw [List.replicate_succ, List.any_cons, ih]; rfl
theorem all_true (n : Nat) : (List.replicate n true).all id = true := by induction n with
  | zero => rfl
  | succ n ih => rw [List.replicate_succ, List.all_cons, ih]; rfl
section
variable {K : PySem.W.Frag} {H : Hp} {Q : VK}
theorem s_sum {p : Addr} {ns : List Int} (hx : SqL K H p (ns.map V.int)) (h : Q (.int ns.sum) H) : rSum K [.ref p] H Q := ⟨p, ns, rfl, hx, h⟩
theorem s_any {p : Addr} {bs : List Bool} (hx : SqL K H p (bs.map V.bl)) (h : Q (.bl (bs.any id)) H) : rAny K [.ref p] H Q := ⟨p, bs, rfl, hx, h⟩
theorem s_all {p : Addr} {bs : List Bool} (hx : SqL K H p (bs.map V.bl)) (h : Q (.bl (bs.all id)) H) : rAll K [.ref p] H Q := ⟨p, bs, rfl, hx, h⟩
theorem dp_ints : ∀ ns : List Int, DpAll K H (ns.map V.int) (ns.map PyData.int)
  | [] => .nil
  | n :: r => .cons (.int n) (dp_ints r)
theorem dp_t {a : Addr} {ns : List Int} (h : SqT K H a (ns.map V.int)) : Dp K H (.ref a) (.tuple (ns.map PyData.int)) := .tup h (dp_ints ns)
theorem dp_l {a : Addr} {ns : List Int} (h : SqL K H a (ns.map V.int)) : Dp K H (.ref a) (.list (ns.map PyData.int)) := .lst h (dp_ints ns)
end
end Z
namespace Z
open PySem PySem.Spec PyProof.Rows L2
/-! data -/
mutual
/-- no truth values, no dicts -/
def noB : PyData → Bool
  | .none => true
  | .bool _ => false
  | .int _ => true
  | .str _ => true
  | .list xs => noBs xs
  | .tuple xs => noBs xs
  | .dict _ => false
def noBs : List PyData → Bool
  | [] => true
  | x :: xs => noB x && noBs xs
end
mutual
theorem eqv_iff : ∀ d e : PyData, noB d = true → noB e = true → (PyData.eqv d e = true ↔ d = e)
  | .none, e, _, he => by cases e <;> simp_all [PyData.eqv, noB]
  | .int a, e, _, he => by cases e <;> simp_all [PyData.eqv, noB]
  | .str a, e, _, he => by cases e <;> simp_all [PyData.eqv, noB]
  | .list xs, e, hd, he => by
    cases e with
    | list ys =>
      rw [PyData.eqv, eqvs_iff xs ys (by simpa [noB] using hd) (by simpa [noB] using he)]
      exact ⟨fun h => by rw [h], fun h => by cases h; rfl⟩
    | _ => simp_all [PyData.eqv, noB]
  | .tuple xs, e, hd, he => by
    cases e with
    | tuple ys =>
      rw [PyData.eqv, eqvs_iff xs ys (by simpa [noB] using hd) (by simpa [noB] using he)]
      exact ⟨fun h => by rw [h], fun h => by cases h; rfl⟩
    | _ => simp_all [PyData.eqv, noB]
  | .bool _, _, hd, _ => by simp [noB] at hd
  | .dict _, _, hd, _ => by simp [noB] at hd
theorem eqvs_iff : ∀ xs ys : List PyData, noBs xs = true → noBs ys = true → (PyData.eqvAll xs ys = true ↔ xs = ys)
  | [], [], _, _ => by simp [PyData.eqvAll]
  | [], _ :: _, _, _ => by simp [PyData.eqvAll]
  | _ :: _, [], _, _ => by simp [PyData.eqvAll]
  | x :: xs, y :: ys, h, g => by
    have h' : noB x = true ∧ noBs xs = true := by simpa [noBs] using h
    have g' : noB y = true ∧ noBs ys = true := by simpa [noBs] using g
    rw [PyData.eqvAll, Bool.and_eq_true, eqv_iff x y h'.1 g'.1, eqvs_iff xs ys h'.2 g'.2]
    exact ⟨fun z => by rw [z.1, z.2], fun z => by cases z; exact ⟨rfl, rfl⟩⟩
end
theorem noBs_ints : ∀ ns : List Int, noBs (ns.map PyData.int) = true
  | [] => rfl
  | _ :: r => by simp [noBs, noB, noBs_ints r]
theorem canLayAll_ints : ∀ ns : List Int, PyData.canLayAll0 (ns.map PyData.int) = true
  | [] => rfl
  | _ :: r => by simp [PyData.canLayAll0, PyData.canLay0, canLayAll_ints r]
theorem depthAll_ints : ∀ ns : List Int, PyData.depthAll (ns.map PyData.int) = 0
  | [] => rfl
  | _ :: r => by simp [PyData.depthAll, PyData.depth, depthAll_ints r]
theorem shaped_t (ns : List Int) : SeqAt.shaped (.tuple (ns.map PyData.int)) = true := by
  simp [SeqAt.shaped, PyData.canLay0, PyData.depth, canLayAll_ints, depthAll_ints]
theorem shaped_l (ns : List Int) : SeqAt.shaped (.list (ns.map PyData.int)) = true := by
  simp [SeqAt.shaped, PyData.canLay0, PyData.depth, canLayAll_ints, depthAll_ints]
theorem eqv_self {d : PyData} (h : SeqAt.shaped d = true) : PyData.eqv d d = true := SeqAt.eqv_refl d (SeqAt.canLay_of_shaped h)
theorem op_inK {X : Cx} (K : PySem.W.Frag) (e : X.K = K := by rfl) : OpR X (compareOp .In) (rIn K false) := by subst e; exact op_in_seq
theorem op_notInK {X : Cx} (K : PySem.W.Frag) (e : X.K = K := by rfl) : OpR X (compareOp .NotIn) (rIn K true) := by subst e; exact op_notIn_seq
theorem cr_sortedK {X : Cx} (K : PySem.W.Frag) (e : X.K = K := by rfl) : CallR X (.builtin "sorted") (rSortedI K) := by subst e; exact cr_sortedI
def rMin2 : List V → Hp → VK → Prop := fun xs H Q => ∃ i j, xs = [.int i, .int j] ∧ Q (.int (if j < i then j else i)) H
theorem c_min2 {X : Cx} (hc : X.calm = true) : CallR X (.builtin "min") rMin2 := call_min2 hc
def rIsN : R2 := fun x y H Q => y = .non ∧ Q (.bl (decide (x = .non))) H
def rNotN : R2 := fun x y H Q => y = .non ∧ Q (.bl (!decide (x = .non))) H
theorem op_isNn {X : Cx} : OpR X (compareOp .Is) rIsN := op_isN
theorem op_notNn {X : Cx} : OpR X (compareOp .IsNot) rNotN := op_notN
section
variable {K : PySem.W.Frag} {H : Hp} {Q : VK}
theorem s_eqD {x y : V} {d e : PyData} (hx : Dp K H x d) (hy : Dp K H y e) (sd : SeqAt.shaped d = true) (se : SeqAt.shaped e = true) (h : Q (.bl (PyData.eqv d e)) H) : rEqD K x y H Q := ⟨d, e, hx, hy, sd, se, h⟩
theorem s_neD {x y : V} {d e : PyData} (hx : Dp K H x d) (hy : Dp K H y e) (sd : SeqAt.shaped d = true) (se : SeqAt.shaped e = true) (h : Q (.bl (!PyData.eqv d e)) H) : rNeD K x y H Q := ⟨d, e, hx, hy, sd, se, h⟩
theorem s_eqSame {x y : V} {d : PyData} (hx : Dp K H x d) (hy : Dp K H y d) (sd : SeqAt.shaped d = true) (h : Q (.bl true) H) : rEqD K x y H Q := ⟨d, d, hx, hy, sd, sd, by rw [eqv_self sd]; exact h⟩
theorem s_neSameD {x y : V} {d : PyData} (hx : Dp K H x d) (hy : Dp K H y d) (sd : SeqAt.shaped d = true) (h : Q (.bl false) H) : rNeD K x y H Q := ⟨d, d, hx, hy, sd, sd, by rw [eqv_self sd]; exact h⟩
theorem s_neSame {a b : Addr} {ns : List Int} (hx : SqT K H a (ns.map V.int)) (hy : SqT K H b (ns.map V.int)) (h : Q (.bl false) H) : rNeD K (.ref a) (.ref b) H Q := s_neSameD (dp_t hx) (dp_t hy) (shaped_t ns) h
theorem s_isi {i : Int} {c : String} {b : Bool} (e : kitB "int" c = some b) (h : Q (.bl b) H) : rIsi K [.int i, .ty c] H Q := ⟨_, _, _, _, b, rfl, .ty c, .base (.int i), kit_ty e, h⟩
theorem s_isiI {i : Int} (h : Q (.bl false) H) : rIsi K [.int i, .ty "bool"] H Q := s_isi (by decide +kernel) h
theorem s_min2 {i j : Int} (h : Q (.int (if j < i then j else i)) H) : rMin2 [.int i, .int j] H Q := ⟨i, j, rfl, h⟩
theorem inV_ints (x : Int) (ns : List Int) : inV (.int x) (ns.map V.int) = decide (x ∈ ns) := by
  unfold inV
  induction ns with
  | nil => rfl
  | cons a r ih =>
    rw [List.map_cons, List.any_cons, ih]
    by_cases h : a = x
    · subst h
      rw [show eqV (V.int a) (V.int a) = true by simp [eqV], decide_eq_true (List.mem_cons_self ..)]
      rfl
    · rw [show eqV (V.int a) (V.int x) = false by simp [eqV, h], Bool.false_or]
      by_cases h2 : x ∈ r
      · rw [decide_eq_true h2, decide_eq_true (List.mem_cons_of_mem _ h2)]
      · rw [decide_eq_false h2, decide_eq_false (fun m => by rcases List.mem_cons.mp m with m | m; exact h m.symm; exact h2 m)]
theorem flat_ints (ns : List Int) : (ns.map V.int).all flatV = true := by
  induction ns with
  | nil => rfl
  | cons a r ih => rw [List.map_cons, List.all_cons, ih]; rfl
theorem s_inI {p : Addr} {x : Int} {ns : List Int} (hx : SqL K H p (ns.map V.int) ∨ SqT K H p (ns.map V.int)) (h : Q (.bl (decide (x ∈ ns))) H) : rIn K false (.int x) (.ref p) H Q := ⟨p, _, rfl, hx, rfl, flat_ints ns, by rw [inV_ints]; exact h⟩
theorem s_notInI {p : Addr} {x : Int} {ns : List Int} (hx : SqL K H p (ns.map V.int) ∨ SqT K H p (ns.map V.int)) (h : Q (.bl (!decide (x ∈ ns))) H) : rIn K true (.int x) (.ref p) H Q := ⟨p, _, rfl, hx, rfl, flat_ints ns, by rw [inV_ints]; exact h⟩
theorem s_sorted {p : Addr} {ns : List Int} (hx : SqL K H p (ns.map V.int)) (h : ∀ (ys : List Int) (q : Addr) (H' : Hp), ys.Perm ns → ys.Pairwise (· ≤ ·) → H q = none → Same H H' → H' q = some (.lst (ys.map V.int)) → Q (.ref q) H') : rSortedI K [.ref p] H Q := ⟨p, ns, rfl, hx, fun ys q hp hw nq => h ys q _ hp hw nq (Same.new nq) upd_same⟩
theorem s_andV {ta tb : TE} {σ : L2.St} (h : ta σ H fun x H1 => IsBl x H1 fun c H2 => if c = true then tb σ H2 Q else Q (.bl false) H2) : tAndV ta tb σ H Q := h
theorem s_orV {ta tb : TE} {σ : L2.St} (h : ta σ H fun x H1 => IsBl x H1 fun c H2 => if c = true then Q (.bl true) H2 else tb σ H2 Q) : tOrV ta tb σ H Q := h
theorem s_ifE {tc : TT} {ta tb : TE} {σ : L2.St} (h : tc σ H fun c H1 => if c = true then ta σ H1 Q else tb σ H1 Q) : tIf tc ta tb σ H Q := h
theorem s_notK {ta : TE} {σ : L2.St} (h : ta σ H fun x H1 => IsTru K x H1 fun k H2 => Q (.bl (!k)) H2) : tNotT K ta σ H Q := h
theorem s_lenA {p : Addr} {xs : List V} (hx : SqL K H p xs ∨ SqT K H p xs) (h : Q (.int xs.length) H) : rLen K [.ref p] H Q := ⟨p, xs, rfl, hx, h⟩
theorem s_ixA {p : Addr} {xs : List V} {i : Int} {v : V} (hx : SqL K H p xs ∨ SqT K H p xs) (e : atI xs i = some v) (h : Q v H) : rIx K (.ref p) (.int i) H Q := hx.elim (fun hx => .inl ⟨p, xs, i, v, rfl, rfl, hx, e, h⟩) (fun hx => .inr (.inl ⟨p, xs, i, v, rfl, rfl, hx, e, h⟩))
theorem s_isN {x : V} (h : Q (.bl (decide (x = .non))) H) : rIsN x .non H Q := ⟨rfl, h⟩
theorem s_notN {x : V} (h : Q (.bl (!decide (x = .non))) H) : rNotN x .non H Q := ⟨rfl, h⟩
end
end Z
namespace M
/-! powers modulo p -/
def pw (p a : Int) (k : Nat) : Int := a ^ k % p
theorem pow_sq (a : Int) (k : Nat) : a ^ (2 * k) = (a * a) ^ k := by
  induction k with
  | zero => rw [Nat.mul_zero, Int.pow_zero, Int.pow_zero]
  | succ k ih =>
    rw [show 2 * (k + 1) = 2 * k + 1 + 1 by omega, Int.pow_succ, Int.pow_succ, ih, Int.pow_succ, Int.mul_assoc]
theorem pow_emod (p a : Int) (k : Nat) : (a % p) ^ k % p = a ^ k % p := by
  induction k with
  | zero => rw [Int.pow_zero, Int.pow_zero]
  | succ k ih => rw [Int.pow_succ, Int.pow_succ, Int.mul_emod, ih, Int.emod_emod_of_dvd _ (Int.dvd_refl p), ← Int.mul_emod]
/-- the loop of squares: what is left is a power of the square -/
theorem mul_pow_emod (p t s : Int) (k : Nat) : t * (s % p) ^ k % p = t * s ^ k % p := by
  rw [Int.mul_emod, pow_emod, ← Int.mul_emod]
theorem loop_even {p t s l x : Int} (h0 : 0 ≤ l) (he : l % 2 = 0) (h : t * s ^ l.toNat % p = x) : t * (s * s % p) ^ (l / 2).toNat % p = x := by
  rw [mul_pow_emod, ← pow_sq, show 2 * (l / 2).toNat = l.toNat by omega]
  exact h
theorem loop_odd {p t s l x : Int} (h0 : 0 ≤ l) (he : l % 2 = 1) (h : t * s ^ l.toNat % p = x) : (t * s % p) * (s * s % p) ^ (l / 2).toNat % p = x := by
  rw [mul_pow_emod, ← pow_sq, Int.mul_emod, Int.emod_emod_of_dvd _ (Int.dvd_refl p), ← Int.mul_emod, Int.mul_assoc, Int.mul_comm s, ← Int.pow_succ, show (2 * (l / 2).toNat).succ = l.toNat by omega]
  exact h
end M
namespace M
/-! lists of coefficients -/
/-- zeros at the end cut off -/
def trim : List Int → List Int
  | [] => []
  | a :: r => if a = 0 ∧ trim r = [] then [] else a :: trim r
theorem trim_snoc_zero : ∀ l : List Int, trim (l ++ [0]) = trim l
  | [] => rfl
  | a :: r => by
    show (if a = 0 ∧ trim (r ++ [0]) = [] then [] else a :: trim (r ++ [0])) = _
    rw [trim_snoc_zero r]
    rfl
theorem trim_snoc : ∀ (l : List Int) (a : Int), a ≠ 0 → trim (l ++ [a]) = l ++ [a]
  | [], a, h => by
    show (if a = 0 ∧ ([] : List Int) = [] then [] else [a]) = [a]
    rw [if_neg (fun z => h z.1)]
  | b :: r, a, h => by
    show (if b = 0 ∧ trim (r ++ [a]) = [] then [] else b :: trim (r ++ [a])) = b :: (r ++ [a])
    rw [trim_snoc r a h, if_neg (fun z => by simp at z)]
theorem trim_length : ∀ l : List Int, (trim l).length ≤ l.length
  | [] => Nat.le_refl _
  | a :: r => by
    show (if a = 0 ∧ trim r = [] then [] else a :: trim r).length ≤ r.length + 1
    have h := trim_length r
    split
    · exact Nat.zero_le _
    · simpa using h
theorem trim_trim : ∀ l : List Int, trim (trim l) = trim l
  | [] => rfl
  | a :: r => by
    show trim (if a = 0 ∧ trim r = [] then [] else a :: trim r) = (if a = 0 ∧ trim r = [] then [] else a :: trim r)
    have h := trim_trim r
    by_cases e : a = 0 ∧ trim r = []
    · rw [if_pos e]
      rfl
    · rw [if_neg e]
      show (if a = 0 ∧ trim (trim r) = [] then [] else a :: trim (trim r)) = a :: trim r
      rw [h, if_neg e]
theorem mem_trim : ∀ {l : List Int} {x : Int}, x ∈ trim l → x ∈ l
  | [], _, h => h
  | a :: r, x, h => by
    have h' : x ∈ (if a = 0 ∧ trim r = [] then [] else a :: trim r) := h
    split at h'
    · cases h'
    · rcases List.mem_cons.mp h' with e | e
      · rw [e]
        exact List.mem_cons_self ..
      · exact List.mem_cons_of_mem _ (mem_trim e)
end M
namespace M
/-! values -/
def hv (p : Int) : List Int → Int → Int
  | [], _ => 0
  | c :: r, x => (hv p r x * x + c) % p
theorem hv_lt {p : Int} (h : 0 < p) : ∀ (l : List Int) (x : Int), 0 ≤ hv p l x ∧ hv p l x < p
  | [], _ => ⟨Int.le_refl _, h⟩
  | _ :: _, _ => ⟨Int.emod_nonneg _ (by omega), Int.emod_lt_of_pos _ h⟩
theorem hv_drop (p : Int) (l : List Int) (x : Int) {i : Nat} (h : i < l.length) : hv p (l.drop i) x = (hv p (l.drop (i + 1)) x * x + l.getD i 0) % p := by
  rw [List.drop_eq_getElem_cons h, List.getD_eq_getElem?_getD, List.getElem?_eq_getElem h]
  rfl
/-- c added at the place k -/
def bump (s : List Int) (k : Nat) (c : Int) : List Int := s.set k (s.getD k 0 + c)
theorem bump_length (s : List Int) (k : Nat) (c : Int) : (bump s k c).length = s.length := by simp [bump]
/-- a times a list, added from the place k on -/
def addMul (s : List Int) (k : Nat) (a : Int) : List Int → List Int
  | [] => s
  | b :: r => addMul (bump s k (a * b)) (k + 1) a r
theorem addMul_length : ∀ (l : List Int) (s : List Int) (k : Nat) (a : Int), (addMul s k a l).length = s.length
  | [], _, _, _ => rfl
  | b :: r, s, k, a => by
    show (addMul (bump s k (a * b)) (k + 1) a r).length = s.length
    rw [addMul_length r, bump_length]
theorem addMul_take : ∀ (l : List Int) (s : List Int) (k : Nat) (a : Int) (i : Nat), i < l.length → addMul s k a (l.take (i + 1)) = bump (addMul s k a (l.take i)) (k + i) (a * l.getD i 0)
  | [], _, _, _, _, h => by simp at h
  | b :: r, s, k, a, 0, _ => by simp [addMul]
  | b :: r, s, k, a, i + 1, h => by
    show addMul (bump s k (a * b)) (k + 1) a (r.take (i + 1)) = bump (addMul (bump s k (a * b)) (k + 1) a (r.take i)) (k + (i + 1)) (a * r.getD i 0)
    rw [addMul_take r _ _ _ i (by simpa using h), show k + 1 + i = k + (i + 1) by omega]
def zeros (n : Nat) : List Int := List.replicate n 0
def addL (n : Nat) (f g : List Int) : List Int := addMul (addMul (zeros n) 0 1 f) 0 1 g
/-- products -/
def mulFrom (s : List Int) (j : Nat) (g : List Int) : List Int → List Int
  | [] => s
  | a :: r => mulFrom (addMul s j a g) (j + 1) g r
theorem mulFrom_length : ∀ (f : List Int) (s : List Int) (j : Nat) (g : List Int), (mulFrom s j g f).length = s.length
  | [], _, _, _ => rfl
  | a :: r, s, j, g => by
    show (mulFrom (addMul s j a g) (j + 1) g r).length = s.length
    rw [mulFrom_length r, addMul_length]
theorem mulFrom_take : ∀ (f : List Int) (s : List Int) (j : Nat) (g : List Int) (i : Nat), i < f.length → mulFrom s j g (f.take (i + 1)) = addMul (mulFrom s j g (f.take i)) (j + i) (f.getD i 0) g
  | [], _, _, _, _, h => by simp at h
  | b :: r, s, j, g, 0, _ => by simp [mulFrom]
  | b :: r, s, j, g, i + 1, h => by
    show mulFrom (addMul s j b g) (j + 1) g (r.take (i + 1)) = addMul (mulFrom (addMul s j b g) (j + 1) g (r.take i)) (j + (i + 1)) (r.getD i 0) g
    rw [mulFrom_take r _ _ _ i (by simpa using h), show j + 1 + i = j + (i + 1) by omega]
def mulL (f g : List Int) : List Int := mulFrom (zeros (f.length + g.length)) 0 g f
end M
namespace M
/-! modulo p -/
def Cg (p a b : Int) : Prop := p ∣ a - b
theorem Cg.refl (p a : Int) : Cg p a a := by
  unfold Cg
  rw [Int.sub_self]
  exact Int.dvd_zero p
theorem Cg.symm {p a b : Int} (h : Cg p a b) : Cg p b a := by
  obtain ⟨k, e⟩ := h
  exact ⟨-k, by grind⟩
theorem Cg.trans {p a b c : Int} (h : Cg p a b) (g : Cg p b c) : Cg p a c := by
  obtain ⟨k, e⟩ := h
  obtain ⟨l, e'⟩ := g
  exact ⟨k + l, by grind⟩
theorem Cg.add {p a b c d : Int} (h : Cg p a b) (g : Cg p c d) : Cg p (a + c) (b + d) := by
  obtain ⟨k, e⟩ := h
  obtain ⟨l, e'⟩ := g
  exact ⟨k + l, by grind⟩
theorem Cg.sub {p a b c d : Int} (h : Cg p a b) (g : Cg p c d) : Cg p (a - c) (b - d) := by
  obtain ⟨k, e⟩ := h
  obtain ⟨l, e'⟩ := g
  exact ⟨k - l, by grind⟩
theorem Cg.mul {p a b c d : Int} (h : Cg p a b) (g : Cg p c d) : Cg p (a * c) (b * d) := by
  obtain ⟨k, e⟩ := h
  obtain ⟨l, e'⟩ := g
  exact ⟨k * c + b * l, by grind⟩
theorem Cg.mod (p a : Int) : Cg p (a % p) a := ⟨-(a / p), by
  have := Int.emod_add_mul_ediv a p
  grind⟩
theorem Cg.emod {p a b : Int} (h : Cg p a b) : a % p = b % p := by
  obtain ⟨k, e⟩ := h
  have : a = b + p * k := by omega
  rw [this, Int.add_mul_emod_self_left]
theorem Cg.of {p a b : Int} (h : a % p = b % p) : Cg p a b := (Cg.mod p a).symm.trans (by rw [h]; exact Cg.mod p b)
theorem Cg.eq {p a b : Int} (h : Cg p a b) (a0 : 0 ≤ a) (a1 : a < p) (b0 : 0 ≤ b) (b1 : b < p) : a = b := by
  have e := h.emod
  rwa [Int.emod_eq_of_lt a0 a1, Int.emod_eq_of_lt b0 b1] at e
/-! a list's value, unreduced -/
def ev : List Int → Int → Int
  | [], _ => 0
  | c :: r, x => ev r x * x + c
theorem hv_ev (p : Int) : ∀ (l : List Int) (x : Int), Cg p (hv p l x) (ev l x)
  | [], _ => Cg.refl _ _
  | c :: r, x => (Cg.mod p _).trans (((hv_ev p r x).mul (Cg.refl p x)).add (Cg.refl p c))
theorem ev_bump : ∀ (s : List Int) (k : Nat) (c x : Int), k < s.length → ev (bump s k c) x = ev s x + c * x ^ k
  | [], _, _, _, h => by simp at h
  | a :: r, 0, c, x, _ => by
    show ev r x * x + (a + c) = ev r x * x + a + c * x ^ 0
    grind
  | a :: r, k + 1, c, x, h => by
    have ih := ev_bump r k c x (by simpa using h)
    show ev (bump r k c) x * x + a = ev r x * x + a + c * x ^ (k + 1)
    rw [ih]
    grind
theorem ev_addMul : ∀ (l : List Int) (s : List Int) (k : Nat) (a x : Int), k + l.length ≤ s.length → ev (addMul s k a l) x = ev s x + a * x ^ k * ev l x
  | [], s, k, a, x, _ => by
    show ev s x = ev s x + a * x ^ k * 0
    grind
  | b :: r, s, k, a, x, h => by
    have h' : k + (r.length + 1) ≤ s.length := h
    show ev (addMul (bump s k (a * b)) (k + 1) a r) x = ev s x + a * x ^ k * (ev r x * x + b)
    rw [ev_addMul r _ _ _ _ (by rw [bump_length]; omega), ev_bump _ _ _ _ (by omega)]
    grind
theorem ev_mulFrom : ∀ (f : List Int) (s : List Int) (j : Nat) (g : List Int) (x : Int), j + f.length + g.length ≤ s.length → ev (mulFrom s j g f) x = ev s x + x ^ j * (ev f x * ev g x)
  | [], s, j, g, x, _ => by
    show ev s x = ev s x + x ^ j * (0 * ev g x)
    grind
  | a :: r, s, j, g, x, h => by
    have h' : j + (r.length + 1) + g.length ≤ s.length := h
    show ev (mulFrom (addMul s j a g) (j + 1) g r) x = ev s x + x ^ j * ((ev r x * x + a) * ev g x)
    rw [ev_mulFrom r _ _ _ _ (by rw [addMul_length]; omega), ev_addMul _ _ _ _ _ (by omega)]
    grind
theorem ev_zeros (n : Nat) (x : Int) : ev (zeros n) x = 0 := by
  induction n with
  | zero => rfl
  | succ n ih =>
    show ev (zeros n) x * x + 0 = 0
    rw [ih]
    omega
theorem ev_addL (n : Nat) (f g : List Int) (x : Int) (hf : f.length ≤ n) (hg : g.length ≤ n) : ev (addL n f g) x = ev f x + ev g x := by
  have lz : (zeros n).length = n := by simp [zeros]
  unfold addL
  rw [ev_addMul _ _ _ _ _ (by rw [addMul_length, lz]; omega), ev_addMul _ _ _ _ _ (by rw [lz]; omega), ev_zeros]
  grind
theorem ev_mulL (f g : List Int) (x : Int) : ev (mulL f g) x = ev f x * ev g x := by
  have lz : (zeros (f.length + g.length)).length = f.length + g.length := by simp [zeros]
  unfold mulL
  rw [ev_mulFrom _ _ _ _ _ (by rw [lz]; omega), ev_zeros]
  grind
theorem ev_mod (p : Int) : ∀ (l : List Int) (x : Int), Cg p (ev (l.map (· % p)) x) (ev l x)
  | [], _ => Cg.refl _ _
  | c :: r, x => ((ev_mod p r x).mul (Cg.refl p x)).add (Cg.mod p c)
theorem ev_trim : ∀ (l : List Int) (x : Int), ev (trim l) x = ev l x
  | [], _ => rfl
  | a :: r, x => by
    have ih := ev_trim r x
    show ev (if a = 0 ∧ trim r = [] then [] else a :: trim r) x = ev r x * x + a
    by_cases e : a = 0 ∧ trim r = []
    · rw [if_pos e, ← ih, e.2, e.1]
      show (0 : Int) = 0 * x + 0
      omega
    · rw [if_neg e, ← ih]
      rfl
/-! the reduced polynomials -/
def red (p : Int) (l : List Int) : List Int := trim (l.map (· % p))
def plus (p : Int) (f g : List Int) : List Int := red p (addL (max f.length g.length) f g)
def times (p : Int) (f g : List Int) : List Int := red p (mulL f g)
theorem ev_red (p : Int) (l : List Int) (x : Int) : Cg p (ev (red p l) x) (ev l x) := by
  unfold red
  rw [ev_trim]
  exact ev_mod p l x
theorem hv_red (p : Int) (l : List Int) (x : Int) : Cg p (hv p (red p l) x) (ev l x) := (hv_ev p _ x).trans (ev_red p l x)
theorem hv_plus (p : Int) (f g : List Int) (x : Int) : Cg p (hv p (plus p f g) x) (hv p f x + hv p g x) := by
  refine (hv_red p _ x).trans ?_
  rw [ev_addL _ _ _ _ (Nat.le_max_left _ _) (Nat.le_max_right _ _)]
  exact ((hv_ev p f x).add (hv_ev p g x)).symm
theorem hv_times (p : Int) (f g : List Int) (x : Int) : Cg p (hv p (times p f g) x) (hv p f x * hv p g x) := by
  refine (hv_red p _ x).trans ?_
  rw [ev_mulL]
  exact ((hv_ev p f x).mul (hv_ev p g x)).symm
theorem red_mem {p : Int} (h : 0 < p) {l : List Int} {x : Int} (m : x ∈ red p l) : 0 ≤ x ∧ x < p := by
  obtain ⟨y, _, e⟩ := List.mem_map.mp (mem_trim m)
  rw [← e]
  exact ⟨Int.emod_nonneg _ (by omega), Int.emod_lt_of_pos _ h⟩
theorem map_mod_id {p : Int} {l : List Int} (h : ∀ x ∈ l, 0 ≤ x ∧ x < p) : l.map (· % p) = l := by
  induction l with
  | nil => rfl
  | cons a r ih =>
    rw [List.map_cons, ih (fun x m => h x (List.mem_cons_of_mem _ m))]
    have := h a (List.mem_cons_self ..)
    rw [Int.emod_eq_of_lt this.1 this.2]
theorem red_red {p : Int} (h : 0 < p) (l : List Int) : red p (red p l) = red p l := by
  have e : (red p l).map (· % p) = red p l := map_mod_id fun x m => red_mem h m
  show trim ((red p l).map (· % p)) = red p l
  rw [e]
  exact trim_trim _
/-! lengths -/
theorem trim_le {l : List Int} {n : Nat} (h : ∀ i, n ≤ i → l.getD i 0 = 0) : (trim l).length ≤ n := by
  induction l generalizing n with
  | nil => exact Nat.zero_le _
  | cons a r ih =>
    show (if a = 0 ∧ trim r = [] then [] else a :: trim r).length ≤ n
    cases n with
    | zero =>
      have h0 : a = 0 := by simpa using h 0 (Nat.le_refl _)
      have h1 : (trim r).length ≤ 0 := ih fun i _ => by simpa using h (i + 1) (Nat.zero_le _)
      have h2 : trim r = [] := List.length_eq_zero_iff.mp (Nat.le_zero.mp h1)
      rw [if_pos ⟨h0, h2⟩]
      exact Nat.le_refl _
    | succ n =>
      have h1 : (trim r).length ≤ n := ih fun i hi => by simpa using h (i + 1) (by omega)
      split
      · exact Nat.zero_le _
      · simpa using h1
theorem bump_get (s : List Int) (k : Nat) (c : Int) (i : Nat) (h : i ≠ k) : (bump s k c).getD i 0 = s.getD i 0 := by
  unfold bump
  rw [List.getD_eq_getElem?_getD, List.getD_eq_getElem?_getD, List.getElem?_set_ne (Ne.symm h)]
  rfl
theorem addMul_get : ∀ (l : List Int) (s : List Int) (k : Nat) (a : Int) (i : Nat), k + l.length ≤ i → (addMul s k a l).getD i 0 = s.getD i 0
  | [], _, _, _, _, _ => rfl
  | b :: r, s, k, a, i, h => by
    have h' : k + (r.length + 1) ≤ i := h
    show (addMul (bump s k (a * b)) (k + 1) a r).getD i 0 = s.getD i 0
    rw [addMul_get r _ _ _ i (by omega), bump_get _ _ _ _ (by omega)]
theorem mulFrom_get : ∀ (f : List Int) (s : List Int) (j : Nat) (g : List Int) (i : Nat), j + f.length + g.length ≤ i + 1 → (mulFrom s j g f).getD i 0 = s.getD i 0
  | [], _, _, _, _, _ => rfl
  | a :: r, s, j, g, i, h => by
    have h' : j + (r.length + 1) + g.length ≤ i + 1 := h
    show (mulFrom (addMul s j a g) (j + 1) g r).getD i 0 = s.getD i 0
    rw [mulFrom_get r _ _ _ i (by omega), addMul_get _ _ _ _ _ (by omega)]
theorem zeros_get (n i : Nat) : (zeros n).getD i 0 = 0 := by
  unfold zeros
  rw [List.getD_eq_getElem?_getD, List.getElem?_replicate]
  split <;> rfl
theorem getD_map_mod (p : Int) (l : List Int) (i : Nat) (h : l.getD i 0 = 0) : (l.map (· % p)).getD i 0 = 0 := by
  rw [List.getD_eq_getElem?_getD] at h ⊢
  rw [List.getElem?_map]
  cases e : l[i]? with
  | none => rfl
  | some y =>
    rw [e] at h
    have : y = 0 := h
    subst this
    show (0 : Int) % p = 0
    exact Int.zero_emod p
theorem times_length (p : Int) (f g : List Int) : (times p f g).length ≤ f.length + g.length - 1 := by
  refine trim_le fun i hi => getD_map_mod p _ i ?_
  show (mulFrom (zeros (f.length + g.length)) 0 g f).getD i 0 = 0
  rw [mulFrom_get _ _ _ _ _ (by omega), zeros_get]
theorem plus_length (p : Int) (f g : List Int) : (plus p f g).length ≤ max f.length g.length := by
  refine Nat.le_trans (trim_length _) ?_
  rw [List.length_map]
  unfold addL
  rw [addMul_length, addMul_length]
  simp [zeros]
theorem addMul_at : ∀ (l : List Int) (s : List Int) (k : Nat) (a : Int) (i : Nat), k + l.length ≤ s.length → (addMul s k a l).getD i 0 = s.getD i 0 + (if k ≤ i then a * l.getD (i - k) 0 else 0)
  | [], s, k, a, i, _ => by
    show s.getD i 0 = s.getD i 0 + (if k ≤ i then a * 0 else 0)
    split <;> omega
  | b :: r, s, k, a, i, h => by
    have h' : k + (r.length + 1) ≤ s.length := h
    show (addMul (bump s k (a * b)) (k + 1) a r).getD i 0 = _
    rw [addMul_at r _ _ _ i (by rw [bump_length]; omega)]
    by_cases e : i = k
    · subst e
      have hb : (bump s i (a * b)).getD i 0 = s.getD i 0 + a * b := by
        unfold bump
        rw [List.getD_eq_getElem?_getD, List.getElem?_set_self (by omega)]
        rfl
      rw [hb, if_neg (by omega), if_pos (Nat.le_refl _), Nat.sub_self, Int.add_zero]
      rfl
    · rw [bump_get _ _ _ _ e]
      by_cases e2 : k ≤ i
      · rw [if_pos (by omega), if_pos e2, show i - k = (i - (k + 1)) + 1 by omega]
        rfl
      · rw [if_neg (by omega), if_neg e2]
theorem getD_range (m i : Nat) (f : Nat → Int) (h : ∀ i, m ≤ i → f i = 0) : ((List.range m).map f).getD i 0 = f i := by
  rw [List.getD_eq_getElem?_getD, List.getElem?_map]
  by_cases e : i < m
  · rw [List.getElem?_range e]
    rfl
  · rw [List.getElem?_eq_none (by simpa using Nat.le_of_not_lt e), h i (by omega)]
    rfl
theorem ext_getD {l l' : List Int} (h : l.length = l'.length) (g : ∀ i, l.getD i 0 = l'.getD i 0) : l = l' := by
  refine List.ext_getElem h fun i h1 h2 => ?_
  have := g i
  rwa [List.getD_eq_getElem?_getD, List.getD_eq_getElem?_getD, List.getElem?_eq_getElem h1, List.getElem?_eq_getElem h2] at this
theorem getD_ge {l : List Int} {i : Nat} (h : l.length ≤ i) : l.getD i 0 = 0 := by
  rw [List.getD_eq_getElem?_getD, List.getElem?_eq_none h]
  rfl
theorem addL_range (n : Nat) (f g : List Int) (hf : f.length ≤ n) (hg : g.length ≤ n) : addL n f g = (List.range n).map fun j => f.getD j 0 + g.getD j 0 := by
  have lz : (zeros n).length = n := by simp [zeros]
  refine ext_getD ?_ fun i => ?_
  · unfold addL
    rw [addMul_length, addMul_length, lz, List.length_map, List.length_range]
  · unfold addL
    rw [addMul_at _ _ _ _ _ (by rw [addMul_length, lz]; omega), addMul_at _ _ _ _ _ (by rw [lz]; omega), zeros_get, if_pos (Nat.zero_le _), if_pos (Nat.zero_le _), Nat.sub_zero,
      getD_range _ _ _ fun j hj => by rw [getD_ge (by omega), getD_ge (by omega)]; rfl]
    omega
def sel (l : List Int) (j : Nat) : List Int := if j < l.length then [l.getD j 0] else []
theorem sel_yes {l : List Int} {j : Nat} (h : j < l.length) : sel l j = [l.getD j 0] := if_pos h
theorem sel_no {l : List Int} {j : Nat} (h : ¬ j < l.length) : sel l j = [] := if_neg h
theorem sel_sum (l : List Int) (j : Nat) : (sel l j).sum = l.getD j 0 := by
  by_cases h : j < l.length
  · rw [sel_yes h]
    simp
  · rw [sel_no h, getD_ge (by omega)]
    rfl
def selN (f g : List Int) (j : Nat) : Nat → List Int
  | 0 => []
  | 1 => sel f j
  | _ => sel f j ++ sel g j
theorem selN_sum (f g : List Int) (j : Nat) : (selN f g j 2).sum = f.getD j 0 + g.getD j 0 := by
  show (sel f j ++ sel g j).sum = _
  rw [List.sum_append, sel_sum, sel_sum]
end M
namespace M
/-- the primes of the setups -/
def PR (p : Int) : Prop := p = 11 ∨ p = 13 ∨ p = 17 ∨ p = 31 ∨ p = 101
theorem PR.lt {p : Int} (h : PR p) : 10 < p ∧ p < 102 := by
  rcases h with e | e | e | e | e <;> omega
def inv (p a : Int) : Int := a ^ (p - 2).toNat % p
theorem inv_lt {p : Int} (h : 0 < p) (a : Int) : 0 ≤ inv p a ∧ inv p a < p := ⟨Int.emod_nonneg _ (by omega), Int.emod_lt_of_pos _ h⟩
def invB (p : Nat) : Bool := (List.range p).all fun n => n == 0 || decide (((n : Int) * inv (p : Int) n) % (p : Int) = 1)
theorem invB_11 : invB 11 = true := by decide +kernel
theorem invB_13 : invB 13 = true := by decide +kernel
theorem invB_17 : invB 17 = true := by decide +kernel
theorem invB_31 : invB 31 = true := by decide +kernel
theorem invB_101 : invB 101 = true := by decide +kernel
theorem inv_of {p : Nat} (h : invB p = true) {a : Int} (h0 : 0 < a) (h1 : a < p) : (a * inv p a) % p = 1 := by
  have h2 := List.all_eq_true.mp h a.toNat (List.mem_range.mpr (by omega))
  rw [Bool.or_eq_true] at h2
  rcases h2 with h2 | h2
  · have : a.toNat = 0 := by simpa using h2
    omega
  · have h3 := of_decide_eq_true h2
    rwa [show ((a.toNat : Nat) : Int) = a by omega] at h3
theorem inv_ok {p : Int} (h : PR p) {a : Int} (h0 : 0 < a) (h1 : a < p) : (a * inv p a) % p = 1 := by
  rcases h with rfl | rfl | rfl | rfl | rfl
  · exact inv_of (p := 11) invB_11 h0 h1
  · exact inv_of (p := 13) invB_13 h0 h1
  · exact inv_of (p := 17) invB_17 h0 h1
  · exact inv_of (p := 31) invB_31 h0 h1
  · exact inv_of (p := 101) invB_101 h0 h1
/-- no divisors of zero -/
theorem mul_ne {p : Int} (h : PR p) {a b : Int} (ha : a % p ≠ 0) (hb : b % p ≠ 0) : (a * b) % p ≠ 0 := by
  have hp := h.lt
  intro e
  have a0 := Int.emod_nonneg a (show p ≠ 0 by omega)
  have a1 := Int.emod_lt_of_pos a (show 0 < p by omega)
  have e1 : Cg p (a % p * inv p (a % p)) 1 := Cg.of (by rw [inv_ok h (by omega) a1, Int.emod_eq_of_lt (by omega) (by omega)])
  have e2 : Cg p (a * b) 0 := Cg.of (by rw [e, Int.zero_emod])
  have e3 : Cg p b 0 := by
    have e4 : Cg p (a % p * inv p (a % p) * b) (1 * b) := e1.mul (Cg.refl p b)
    have e5 : Cg p (a % p * inv p (a % p) * b) (inv p (a % p) * (a * b)) := by
      have := ((Cg.mod p a).mul (Cg.refl p (inv p (a % p) * b)))
      rw [show a % p * inv p (a % p) * b = a % p * (inv p (a % p) * b) by grind, show inv p (a % p) * (a * b) = a * (inv p (a % p) * b) by grind]
      exact this
    have e6 : Cg p (inv p (a % p) * (a * b)) (inv p (a % p) * 0) := (Cg.refl p _).mul e2
    have e7 := e4.symm.trans (e5.trans e6)
    rwa [Int.one_mul, Int.mul_zero] at e7
  have := e3.emod
  rw [Int.zero_emod] at this
  exact hb this
/-! interpolation -/
def stepI (p : Int) (s : List Int × List Int) (x y : Int) : List Int × List Int :=
  (plus p s.1 (times p (red p [(y - hv p s.1 x) * inv p (hv p s.2 x)]) s.2), times p s.2 (red p [-x, 1]))
def stI (p : Int) (l : List (Int × Int)) : List Int × List Int := l.foldl (fun s xy => stepI p s xy.1 xy.2) ([], [1])
theorem stI_snoc (p : Int) (l : List (Int × Int)) (xy : Int × Int) : stI p (l ++ [xy]) = stepI p (stI p l) xy.1 xy.2 := by
  unfold stI
  rw [List.foldl_append]
  rfl
structure InvI (p : Int) (l : List (Int × Int)) (s : List Int × List Int) : Prop where
  len1 : s.1.length ≤ l.length
  len2 : s.2.length ≤ l.length + 1
  in1 : ∀ x ∈ s.1, 0 ≤ x ∧ x < p
  in2 : ∀ x ∈ s.2, 0 ≤ x ∧ x < p
  nf : red p s.1 = s.1
  val : ∀ xy ∈ l, hv p s.1 xy.1 = xy.2
  zero : ∀ xy ∈ l, hv p s.2 xy.1 = 0
  ne : ∀ x, 0 ≤ x → x < p → (∀ xy ∈ l, xy.1 ≠ x) → hv p s.2 x ≠ 0
theorem invI_nil {p : Int} (h : PR p) : InvI p [] (stI p []) where
  len1 := Nat.le_refl _
  len2 := Nat.le_refl _
  in1 := fun x m => by cases m
  in2 := fun x m => by
    have e : x = 1 := by simpa [stI] using m
    have := h.lt
    omega
  nf := rfl
  val := fun _ m => by cases m
  zero := fun _ m => by cases m
  ne := fun x _ _ _ => by
    have hp := h.lt
    show (0 * x + 1) % p ≠ 0
    rw [show (0 : Int) * x + 1 = 1 by omega, Int.emod_eq_of_lt (by omega) (by omega)]
    decide
theorem invI_snoc {p : Int} (h : PR p) {l : List (Int × Int)} {x y : Int} (I : InvI p l (stI p l)) (x0 : 0 ≤ x) (x1 : x < p) (y0 : 0 ≤ y) (y1 : y < p) (nx : ∀ xy ∈ l, xy.1 ≠ x) : InvI p (l ++ [(x, y)]) (stI p (l ++ [(x, y)])) := by
  have hp := h.lt
  have p0 : 0 < p := by omega
  rw [stI_snoc]
  generalize stI p l = s at I
  have vb := hv_lt p0 s.2 x
  have b0 : 0 < hv p s.2 x := by
    have := I.ne x x0 x1 nx
    omega
  have hinv := inv_ok h b0 vb.2
  have vblank : ∀ z, Cg p (hv p (times p s.2 (red p [-x, 1])) z) (hv p s.2 z * (z - x)) := fun z => by
    refine (hv_times p _ _ z).trans ((Cg.refl p _).mul ?_)
    refine (hv_red p _ z).trans ?_
    show Cg p ((0 * z + 1) * z + -x) (z - x)
    rw [show (0 * z + 1) * z + -x = z - x by grind]
    exact Cg.refl _ _
  have vfound : ∀ z, Cg p (hv p (plus p s.1 (times p (red p [(y - hv p s.1 x) * inv p (hv p s.2 x)]) s.2)) z) (hv p s.1 z + (y - hv p s.1 x) * inv p (hv p s.2 x) * hv p s.2 z) := fun z => by
    refine (hv_plus p _ _ z).trans ((Cg.refl p _).add ?_)
    refine (hv_times p _ _ z).trans (Cg.mul ?_ (Cg.refl p _))
    refine (hv_red p _ z).trans ?_
    show Cg p (0 * z + (y - hv p s.1 x) * inv p (hv p s.2 x)) _
    rw [show 0 * z + (y - hv p s.1 x) * inv p (hv p s.2 x) = (y - hv p s.1 x) * inv p (hv p s.2 x) by grind]
    exact Cg.refl _ _
  have bnd := fun (f : List Int) (z : Int) => hv_lt p0 f z
  refine ⟨?_, ?_, fun _ m => red_mem p0 m, fun _ m => red_mem p0 m, red_red p0 _, ?_, ?_, ?_⟩
  · show (plus p s.1 (times p (red p [(y - hv p s.1 x) * inv p (hv p s.2 x)]) s.2)).length ≤ (l ++ [(x, y)]).length
    have h1 := plus_length p s.1 (times p (red p [(y - hv p s.1 x) * inv p (hv p s.2 x)]) s.2)
    have h2 := times_length p (red p [(y - hv p s.1 x) * inv p (hv p s.2 x)]) s.2
    have h3 : (red p [(y - hv p s.1 x) * inv p (hv p s.2 x)]).length ≤ 1 := by
      refine Nat.le_trans (trim_length _) ?_
      simp
    have h4 := I.len1
    have h5 := I.len2
    rw [List.length_append]
    show _ ≤ l.length + 1
    omega
  · show (times p s.2 (red p [-x, 1])).length ≤ (l ++ [(x, y)]).length + 1
    have h2 := times_length p s.2 (red p [-x, 1])
    have h3 : (red p [-x, 1]).length ≤ 2 := by
      refine Nat.le_trans (trim_length _) ?_
      simp
    have h5 := I.len2
    rw [List.length_append]
    show _ ≤ l.length + 1 + 1
    omega
  · rintro ⟨x', y'⟩ m
    show hv p (plus p s.1 (times p (red p [(y - hv p s.1 x) * inv p (hv p s.2 x)]) s.2)) x' = y'
    rcases List.mem_append.mp m with m | m
    · have e1 : hv p s.2 x' = 0 := I.zero _ m
      have e2 : hv p s.1 x' = y' := I.val _ m
      have c := vfound x'
      rw [e1, e2, Int.mul_zero, Int.add_zero] at c
      have b := bnd s.1 x'
      rw [e2] at b
      exact c.eq (bnd _ _).1 (bnd _ _).2 b.1 b.2
    · have e : (x', y') = (x, y) := by simpa using m
      cases e
      refine (vfound x).trans ?_ |>.eq (bnd _ _).1 (bnd _ _).2 y0 y1
      have c1 : Cg p (hv p s.2 x * inv p (hv p s.2 x)) 1 := Cg.of (by rw [hinv, Int.emod_eq_of_lt (by omega) (by omega)])
      have c2 := (Cg.refl p (hv p s.1 x)).add ((Cg.refl p (y - hv p s.1 x)).mul c1)
      rw [show hv p s.1 x + (y - hv p s.1 x) * 1 = y by grind] at c2
      rw [show hv p s.1 x + (y - hv p s.1 x) * inv p (hv p s.2 x) * hv p s.2 x = hv p s.1 x + (y - hv p s.1 x) * (hv p s.2 x * inv p (hv p s.2 x)) by grind]
      exact c2
  · rintro ⟨x', y'⟩ m
    show hv p (times p s.2 (red p [-x, 1])) x' = 0
    refine (vblank x').trans ?_ |>.eq (bnd _ _).1 (bnd _ _).2 (Int.le_refl _) p0
    rcases List.mem_append.mp m with m | m
    · have e1 : hv p s.2 x' = 0 := I.zero _ m
      rw [e1, Int.zero_mul]
      exact Cg.refl _ _
    · have e : (x', y') = (x, y) := by simpa using m
      cases e
      rw [Int.sub_self, Int.mul_zero]
      exact Cg.refl _ _
  · intro z z0 z1 nz e
    have e1 : hv p s.2 z ≠ 0 := I.ne z z0 z1 fun xy m => nz xy (List.mem_append_left _ m)
    have e2 : x ≠ z := nz (x, y) (List.mem_append_right _ (List.mem_singleton.mpr rfl))
    have c := vblank z
    have e3 : hv p (times p s.2 (red p [-x, 1])) z = 0 := e
    rw [e3] at c
    have b := bnd s.2 z
    refine mul_ne h (a := hv p s.2 z) (b := z - x) ?_ ?_ ?_
    · rw [Int.emod_eq_of_lt b.1 b.2]
      exact e1
    · intro e4
      have e5 : Cg p z x := Int.dvd_of_emod_eq_zero e4
      exact e2 (e5.eq z0 z1 x0 x1).symm
    · rw [← c.emod, Int.zero_emod]
theorem invI_take {p : Int} (h : PR p) {l : List (Int × Int)} (hin : ∀ xy ∈ l, 0 ≤ xy.1 ∧ xy.1 < p ∧ 0 ≤ xy.2 ∧ xy.2 < p) (hnd : (l.map (·.1)).Nodup) : ∀ i, i ≤ l.length → InvI p (l.take i) (stI p (l.take i)) := fun i => by
  induction i with
  | zero => exact fun _ => invI_nil h
  | succ i ih =>
    intro hi
    have hi' : i < l.length := hi
    have I := ih (by omega)
    obtain ⟨a1, a2, a3, a4⟩ := hin l[i] (List.getElem_mem hi')
    rw [List.take_succ_eq_append_getElem hi']
    exact invI_snoc h I a1 a2 a3 a4 fun xy m e => by
      obtain ⟨k, hk, ek⟩ := List.getElem_of_mem m
      rw [List.length_take] at hk
      rw [List.getElem_take] at ek
      have h1 : (l.map (·.1))[k]'(by rw [List.length_map]; omega) = (l.map (·.1))[i]'(by rw [List.length_map]; omega) := by
        rw [List.getElem_map, List.getElem_map, ek, e]
        rfl
      have := (List.getElem_inj hnd).mp h1
      omega
theorem invI_all {p : Int} (h : PR p) {l : List (Int × Int)} (hin : ∀ xy ∈ l, 0 ≤ xy.1 ∧ xy.1 < p ∧ 0 ≤ xy.2 ∧ xy.2 < p) (hnd : (l.map (·.1)).Nodup) : InvI p l (stI p l) := by
  have := invI_take h hin hnd l.length (Nat.le_refl _)
  rwa [List.take_length] at this
theorem erase_perm : ∀ (l : List Int) (d : Nat) (h : d < l.length), List.Perm (l[d] :: l.eraseIdx d) l
  | [], _, h => by simp at h
  | a :: r, 0, _ => List.Perm.refl _
  | a :: r, d + 1, h => by
    have ih := erase_perm r d (by simpa using h)
    show List.Perm (r[d]'(by simpa using h) :: a :: r.eraseIdx d) (a :: r)
    exact (List.Perm.swap a _ _).trans (List.Perm.cons a ih)
theorem nodup_move {l : List Int} {ls : List Int} {d : Nat} (hd : d < ls.length) (h : (l ++ ls).Nodup) : ((l ++ [ls[d]]) ++ ls.eraseIdx d).Nodup := by
  have p1 : List.Perm (ls[d] :: ls.eraseIdx d) ls := erase_perm ls d hd
  have p2 : List.Perm ((l ++ [ls[d]]) ++ ls.eraseIdx d) (l ++ ls) := by
    rw [List.append_assoc]
    exact List.Perm.append_left l p1
  exact p2.nodup_iff.mpr h
theorem range_nodup (m : Nat) : ((List.range m).map fun j => (0 : Int) + (j : Nat)).Nodup := by
  rw [List.nodup_iff_pairwise_ne, List.pairwise_map]
  exact List.Pairwise.imp (fun h e => by omega) List.pairwise_lt_range
theorem paired_snoc {α β : Type} {F : α → β → Prop} : ∀ {l : List α} {l' : List β} {a : α} {b : β}, PySem.Paired F l l' → F a b → PySem.Paired F (l ++ [a]) (l' ++ [b])
  | _, _, _, _, .nil, h => .cons h .nil
  | _, _, _, _, .cons r t, h => .cons r (paired_snoc t h)
end M
namespace M
/-! roots -/
def quot (r : Int) : List Int → List Int
  | [] => []
  | [_] => []
  | _ :: t => ev t r :: quot r t
theorem quot_ev (r x : Int) : ∀ f : List Int, ev f x = (x - r) * ev (quot r f) x + ev f r
  | [] => by
    show (0 : Int) = (x - r) * 0 + 0
    grind
  | [c] => by
    show (0 : Int) * x + c = (x - r) * 0 + (0 * r + c)
    grind
  | c :: d :: t => by
    have ih := quot_ev r x (d :: t)
    show ev (d :: t) x * x + c = (x - r) * (ev (quot r (d :: t)) x * x + ev (d :: t) r) + (ev (d :: t) r * r + c)
    rw [ih]
    grind
theorem quot_length (r : Int) : ∀ f : List Int, (quot r f).length = f.length - 1
  | [] => rfl
  | [_] => rfl
  | c :: d :: t => by
    show (quot r (d :: t)).length + 1 = (t.length + 1 + 1) - 1
    rw [quot_length r (d :: t)]
    show (t.length + 1 - 1) + 1 = _
    omega
theorem quot_zero {p r : Int} : ∀ f : List Int, (∀ c ∈ quot r f, Cg p c 0) → Cg p (ev f r) 0 → ∀ c ∈ f, Cg p c 0
  | [], _, _, _, m => by cases m
  | [c], _, h, c', m => by
    have e : c' = c := by simpa using m
    subst e
    have h' : Cg p (0 * r + c') 0 := h
    rwa [Int.zero_mul, Int.zero_add] at h'
  | c :: d :: t, hq, h, c', m => by
    have h1 : Cg p (ev (d :: t) r) 0 := hq _ (List.mem_cons_self ..)
    have ih := quot_zero (d :: t) (fun c m => hq c (List.mem_cons_of_mem _ m)) h1
    rcases List.mem_cons.mp m with e | m
    · subst e
      have h' : Cg p (ev (d :: t) r * r + c') 0 := h
      have h2 : Cg p (ev (d :: t) r * r) (0 * r) := h1.mul (Cg.refl p r)
      have h3 := h'.sub h2
      rwa [show ev (d :: t) r * r + c' - ev (d :: t) r * r = c' by grind, show (0 : Int) - 0 * r = 0 by grind] at h3
    · exact ih c' m
theorem roots {p : Int} (h : PR p) : ∀ (n : Nat) (f xs : List Int), f.length ≤ n → f.length ≤ xs.length → xs.Nodup → (∀ x ∈ xs, 0 ≤ x ∧ x < p) → (∀ x ∈ xs, Cg p (ev f x) 0) → ∀ c ∈ f, Cg p c 0
  | 0, f, _, hl, _, _, _, _, c, m => by
    cases f with
    | nil => cases m
    | cons a r => simp at hl
  | n + 1, f, [], hl, hx, _, _, _, c, m => by
    cases f with
    | nil => cases m
    | cons a r => simp at hx
  | n + 1, f, r :: xs, hl, hx, nd, hb, hz, c, m => by
    have hp := h.lt
    have nd' := List.nodup_cons.mp nd
    refine quot_zero f (r := r) (roots h n (quot r f) xs ?_ ?_ nd'.2 (fun x m => hb x (List.mem_cons_of_mem _ m)) ?_) (hz r (List.mem_cons_self ..)) c m
    · rw [quot_length]
      omega
    · rw [quot_length]
      have : f.length ≤ xs.length + 1 := hx
      omega
    · intro x mx
      have e1 := hz x (List.mem_cons_of_mem _ mx)
      have e2 := hz r (List.mem_cons_self ..)
      rw [quot_ev r x f] at e1
      have e3 := e1.sub e2
      rw [show (x - r) * ev (quot r f) x + ev f r - ev f r = (x - r) * ev (quot r f) x by grind, Int.sub_zero] at e3
      have hxb := hb x (List.mem_cons_of_mem _ mx)
      have hrb := hb r (List.mem_cons_self ..)
      by_cases z : ev (quot r f) x % p = 0
      · exact Cg.of (by rw [z, Int.zero_emod])
      · refine absurd ?_ (mul_ne h (a := x - r) ?_ z)
        · have := e3.emod
          rwa [Int.zero_emod] at this
        · intro z2
          have e4 : Cg p x r := Int.dvd_of_emod_eq_zero z2
          have e5 := e4.eq hxb.1 hxb.2 hrb.1 hrb.2
          subst e5
          exact nd'.1 mx
theorem trim_ext : ∀ (l l' : List Int), (∀ i, l.getD i 0 = l'.getD i 0) → trim l = trim l'
  | [], [], _ => rfl
  | [], b :: r', h => by
    have ih := trim_ext [] r' (fun i => by simpa using h (i + 1))
    have h0 : b = 0 := by simpa using (h 0).symm
    show [] = (if b = 0 ∧ trim r' = [] then [] else b :: trim r')
    rw [if_pos ⟨h0, ih.symm⟩]
  | a :: r, [], h => by
    have ih := trim_ext r [] (fun i => by simpa using h (i + 1))
    have h0 : a = 0 := by simpa using (h 0)
    show (if a = 0 ∧ trim r = [] then [] else a :: trim r) = []
    rw [if_pos ⟨h0, ih⟩]
  | a :: r, b :: r', h => by
    have ih := trim_ext r r' (fun i => by simpa using h (i + 1))
    have h0 : a = b := by simpa using (h 0)
    show (if a = 0 ∧ trim r = [] then [] else a :: trim r) = (if b = 0 ∧ trim r' = [] then [] else b :: trim r')
    rw [ih, h0]
/-- reduced: all coefficients are numbers -/
def Rd (p : Int) (f : List Int) : Prop := ∀ c ∈ f, 0 ≤ c ∧ c < p
theorem Rd.getD {p : Int} (hp : 0 < p) {f : List Int} (h : Rd p f) (i : Nat) : 0 ≤ f.getD i 0 ∧ f.getD i 0 < p := by
  rw [List.getD_eq_getElem?_getD]
  cases e : f[i]? with
  | none => exact ⟨Int.le_refl _, hp⟩
  | some y => exact h y (List.mem_of_getElem? e)
theorem hv_eq {p : Int} (hp : 0 < p) {f g : List Int} {x : Int} (h : Cg p (ev f x) (ev g x)) : hv p f x = hv p g x :=
  ((hv_ev p f x).trans (h.trans (hv_ev p g x).symm)).eq (hv_lt hp f x).1 (hv_lt hp f x).2 (hv_lt hp g x).1 (hv_lt hp g x).2
theorem hv_trim {p : Int} (hp : 0 < p) (f : List Int) (x : Int) : hv p (trim f) x = hv p f x := hv_eq hp (by rw [ev_trim]; exact Cg.refl _ _)
/-- two polynomials that agree at enough numbers are one -/
theorem same_poly {p : Int} (h : PR p) {f g xs : List Int} (hf : Rd p f) (hg : Rd p g) (lf : f.length ≤ xs.length) (lg : g.length ≤ xs.length) (nd : xs.Nodup) (hb : ∀ x ∈ xs, 0 ≤ x ∧ x < p)
    (e : ∀ x ∈ xs, hv p f x = hv p g x) : trim f = trim g := by
  have hp := h.lt
  refine trim_ext f g fun i => ?_
  have lz : (zeros (max f.length g.length)).length = max f.length g.length := by simp [zeros]
  let D := addMul (addMul (zeros (max f.length g.length)) 0 1 f) 0 (-1) g
  have lD : D.length = max f.length g.length := by
    show (addMul (addMul (zeros (max f.length g.length)) 0 1 f) 0 (-1) g).length = _
    rw [addMul_length, addMul_length, lz]
  have gD : ∀ i, D.getD i 0 = f.getD i 0 - g.getD i 0 := fun i => by
    show (addMul (addMul (zeros (max f.length g.length)) 0 1 f) 0 (-1) g).getD i 0 = _
    rw [addMul_at _ _ _ _ _ (by rw [addMul_length, lz]; omega), addMul_at _ _ _ _ _ (by rw [lz]; omega), zeros_get, if_pos (Nat.zero_le _), if_pos (Nat.zero_le _), Nat.sub_zero]
    omega
  have eD : ∀ x, ev D x = ev f x - ev g x := fun x => by
    show ev (addMul (addMul (zeros (max f.length g.length)) 0 1 f) 0 (-1) g) x = _
    rw [ev_addMul _ _ _ _ _ (by rw [addMul_length, lz]; omega), ev_addMul _ _ _ _ _ (by rw [lz]; omega), ev_zeros]
    grind
  have z := roots h D.length D xs (Nat.le_refl _) (by rw [lD]; omega) nd hb fun x m => by
    rw [eD]
    have e1 : Cg p (ev f x) (ev g x) := (hv_ev p f x).symm.trans (by rw [e x m]; exact hv_ev p g x)
    have e2 := e1.sub (Cg.refl p (ev g x))
    rwa [Int.sub_self] at e2
  by_cases hi : i < D.length
  · have e1 : Cg p (D.getD i 0) 0 := z _ (by rw [List.getD_eq_getElem?_getD, List.getElem?_eq_getElem hi]; exact List.getElem_mem hi)
    rw [gD] at e1
    have e2 := e1.add (Cg.refl p (g.getD i 0))
    rw [Int.sub_add_cancel, Int.zero_add] at e2
    exact e2.eq (hf.getD (by omega) i).1 (hf.getD (by omega) i).2 (hg.getD (by omega) i).1 (hg.getD (by omega) i).2
  · rw [lD] at hi
    rw [getD_ge (show f.length ≤ i by omega), getD_ge (show g.length ≤ i by omega)]
/-! decoding -/
def hits (p : Int) (f : List Int) (l : List (Int × Int)) : List (Int × Int) := l.filter fun xy => hv p f xy.1 == xy.2
theorem hits_two (p : Int) (f g : List Int) (l : List (Int × Int)) : (hits p f l).length + (hits p g l).length ≤ l.length + (l.filter fun xy => hv p f xy.1 == xy.2 && hv p g xy.1 == xy.2).length := by
  unfold hits
  induction l with
  | nil => simp
  | cons a r ih =>
    simp only [List.filter_cons, List.length_cons]
    cases hv p f a.1 == a.2 <;> cases hv p g a.1 == a.2 <;> simp [List.length_cons] <;> omega
structure Inp (p : Int) (d e : Nat) (l : List (Int × Int)) : Prop where
  pr : PR p
  inn : ∀ xy ∈ l, 0 ≤ xy.1 ∧ xy.1 < p ∧ 0 ≤ xy.2 ∧ xy.2 < p
  nd : (l.map (·.1)).Nodup
  many : d + 2 * e + 1 ≤ l.length
/-- a polynomial of the degree d with all but e of the pairs -/
structure Fit (p : Int) (d e : Nat) (l : List (Int × Int)) (f : List Int) : Prop where
  tr : trim f = f
  rd : Rd p f
  le : f.length ≤ d + 1
  hit : l.length ≤ (hits p f l).length + e
def DecOk (p : Int) (d e : Nat) (l : List (Int × Int)) : Option (List Int) → Prop
  | some f => Fit p d e l f
  | none => ∀ f, ¬ Fit p d e l f
theorem fit_one {p : Int} {d e : Nat} {l : List (Int × Int)} (I : Inp p d e l) {f g : List Int} (F : Fit p d e l f) (G : Fit p d e l g) : f = g := by
  have t := hits_two p f g l
  have h1 := F.hit
  have h2 := G.hit
  have h3 := I.many
  have sub : (l.filter fun xy => hv p f xy.1 == xy.2 && hv p g xy.1 == xy.2).Sublist l := List.filter_sublist
  have lx : d + 1 ≤ ((l.filter fun xy => hv p f xy.1 == xy.2 && hv p g xy.1 == xy.2).map (·.1)).length := by
    rw [List.length_map]
    omega
  have := same_poly I.pr F.rd G.rd (xs := (l.filter fun xy => hv p f xy.1 == xy.2 && hv p g xy.1 == xy.2).map (·.1)) (by have := F.le; omega) (by have := G.le; omega)
    (I.nd.sublist (sub.map _)) (fun x m => by
      obtain ⟨xy, mm, rfl⟩ := List.mem_map.mp m
      have := I.inn xy (sub.subset mm)
      exact ⟨this.1, this.2.1⟩) (fun x m => by
      obtain ⟨xy, mm, rfl⟩ := List.mem_map.mp m
      have := (List.mem_filter.mp mm).2
      rw [Bool.and_eq_true] at this
      rw [eq_of_beq this.1, eq_of_beq this.2])
  rw [F.tr, G.tr] at this
  exact this
theorem dec_one {p : Int} {d e : Nat} {l : List (Int × Int)} (I : Inp p d e l) : ∀ {r s : Option (List Int)}, DecOk p d e l r → DecOk p d e l s → r = s
  | none, none, _, _ => rfl
  | some f, none, h, g => absurd h (g f)
  | none, some f, h, g => absurd g (h f)
  | some f, some g, h, k => by rw [fit_one I h k]
end M
namespace M
theorem ev_ext {l l' : List Int} (h : ∀ i, l.getD i 0 = l'.getD i 0) (x : Int) : ev l x = ev l' x := by rw [← ev_trim l, trim_ext l l' h, ev_trim]
theorem getD_rangeM (n i : Nat) (f : Nat → Int) (h : i < n) : ((List.range n).map f).getD i 0 = f i := by
  rw [List.getD_eq_getElem?_getD, List.getElem?_map, List.getElem?_range h]
  rfl
theorem getD_rangeO (n i : Nat) (f : Nat → Int) (h : n ≤ i) : ((List.range n).map f).getD i 0 = 0 := getD_ge (by rw [List.length_map, List.length_range]; exact h)
theorem getD_mod (p : Int) (l : List Int) (i : Nat) : (l.map (· % p)).getD i 0 = l.getD i 0 % p := by
  rw [List.getD_eq_getElem?_getD, List.getD_eq_getElem?_getD, List.getElem?_map]
  cases l[i]? with
  | none => exact (Int.zero_emod p).symm
  | some y => rfl
theorem Rd.mod {p : Int} (hp : 0 < p) (l : List Int) : Rd p (l.map (· % p)) := fun c m => by
  obtain ⟨y, _, rfl⟩ := List.mem_map.mp m
  exact ⟨Int.emod_nonneg _ (by omega), Int.emod_lt_of_pos _ hp⟩
/-! the law's own line -/
def lng (xj fac : Int) (term : List Int) (u : Nat) : Int := if 0 < u then (0 - xj * term.getD u 0 * fac) + term.getD (u - 1) 0 * fac else 0 - xj * term.getD u 0 * fac
theorem ev_lng (n : Nat) (xj fac : Int) (term : List Int) (x : Int) (hl : term.length = n) (hz : term.getD (n - 1) 0 = 0) : ev ((List.range n).map (lng xj fac term)) x = ev term x * ((x - xj) * fac) := by
  cases n with
  | zero =>
    have : term = [] := by simpa using hl
    subst this
    show (0 : Int) = 0 * _
    grind
  | succ n =>
    have lz : (zeros (n + 1)).length = n + 1 := by simp [zeros]
    have lt : (term.take n).length = n := by rw [List.length_take]; omega
    have e1 : ∀ i, ((List.range (n + 1)).map (lng xj fac term)).getD i 0 = (addMul (addMul (zeros (n + 1)) 0 (-(xj * fac)) term) 1 fac (term.take n)).getD i 0 := fun i => by
      rw [addMul_at _ _ _ _ _ (by rw [addMul_length, lz, lt]; omega), addMul_at _ _ _ _ _ (by rw [lz]; omega), zeros_get, if_pos (Nat.zero_le _), Nat.sub_zero, Int.zero_add]
      by_cases hi : i < n + 1
      · rw [getD_rangeM _ _ _ hi]
        unfold lng
        by_cases h0 : 0 < i
        · rw [if_pos h0, if_pos (show 1 ≤ i from h0)]
          have e2 : (term.take n).getD (i - 1) 0 = term.getD (i - 1) 0 := by
            rw [List.getD_eq_getElem?_getD, List.getD_eq_getElem?_getD, List.getElem?_take_of_lt (by omega)]
          rw [e2]
          grind
        · rw [if_neg h0, if_neg (by omega)]
          grind
      · rw [getD_rangeO _ _ _ (by omega), getD_ge (show term.length ≤ i by omega), if_pos (by omega), getD_ge (show (term.take n).length ≤ i - 1 by omega)]
        grind
    rw [ev_ext e1, ev_addMul _ _ _ _ _ (by rw [addMul_length, lz, lt]; omega), ev_addMul _ _ _ _ _ (by rw [lz]; omega), ev_zeros]
    have e3 : ev (term.take n) x = ev term x := ev_ext (fun i => by
      rw [List.getD_eq_getElem?_getD, List.getElem?_take]
      by_cases hi : i < n
      · rw [if_pos hi, ← List.getD_eq_getElem?_getD]
      · rw [if_neg hi]
        by_cases h2 : i = n
        · subst h2
          exact hz.symm
        · exact (getD_ge (by omega)).symm) x
    rw [e3]
    grind
def xAt (l : List (Int × Int)) (k : Nat) : Int := (l.getD k (0, 0)).1
def yAt (l : List (Int × Int)) (k : Nat) : Int := (l.getD k (0, 0)).2
def stepT (p : Int) (n : Nat) (xk xj : Int) (term : List Int) : List Int := ((List.range n).map (lng xj (inv p ((xk - xj) % p)) term)).map (· % p)
def termT (p : Int) (l : List (Int × Int)) (k : Nat) : Nat → List Int
  | 0 => yAt l k :: zeros (l.length - 1)
  | j + 1 => if j = k then termT p l k j else stepT p l.length (xAt l k) (xAt l j) (termT p l k j)
def foundT (p : Int) (l : List (Int × Int)) : Nat → List Int
  | 0 => zeros l.length
  | k + 1 => (List.range l.length).map fun u => ((foundT p l k).getD u 0 + (termT p l k l.length).getD u 0) % p
def lineT (p : Int) (l : List (Int × Int)) : List Int := foundT p l l.length
theorem termT_length (p : Int) (l : List (Int × Int)) (k : Nat) (h : k < l.length) : ∀ j, (termT p l k j).length = l.length
  | 0 => by
    show (zeros (l.length - 1)).length + 1 = _
    simp [zeros]
    omega
  | j + 1 => by
    show (if j = k then termT p l k j else stepT p l.length (xAt l k) (xAt l j) (termT p l k j)).length = _
    split
    · exact termT_length p l k h j
    · unfold stepT
      rw [List.length_map, List.length_map, List.length_range]
theorem foundT_length (p : Int) (l : List (Int × Int)) : ∀ k, (foundT p l k).length = l.length
  | 0 => by
    show (zeros l.length).length = _
    simp [zeros]
  | k + 1 => by
    show ((List.range l.length).map _).length = _
    rw [List.length_map, List.length_range]
theorem at_in {p : Int} {l : List (Int × Int)} (hin : ∀ xy ∈ l, 0 ≤ xy.1 ∧ xy.1 < p ∧ 0 ≤ xy.2 ∧ xy.2 < p) {k : Nat} (h : k < l.length) : (0 ≤ xAt l k ∧ xAt l k < p) ∧ 0 ≤ yAt l k ∧ yAt l k < p := by
  unfold xAt yAt
  rw [List.getD_eq_getElem?_getD, List.getElem?_eq_getElem h]
  have := hin l[k] (List.getElem_mem h)
  exact ⟨⟨this.1, this.2.1⟩, this.2.2⟩
theorem termT_rd {p : Int} (hp : 0 < p) {l : List (Int × Int)} (hin : ∀ xy ∈ l, 0 ≤ xy.1 ∧ xy.1 < p ∧ 0 ≤ xy.2 ∧ xy.2 < p) {k : Nat} (h : k < l.length) : ∀ j, Rd p (termT p l k j)
  | 0 => fun c m => by
    have m' : c ∈ yAt l k :: zeros (l.length - 1) := m
    rcases List.mem_cons.mp m' with e | m'
    · rw [e]
      exact (at_in hin h).2
    · have : c = 0 := (List.mem_replicate.mp m').2
      omega
  | j + 1 => by
    show Rd p (if j = k then termT p l k j else stepT p l.length (xAt l k) (xAt l j) (termT p l k j))
    split
    · exact termT_rd hp hin h j
    · exact Rd.mod hp _
theorem foundT_rd {p : Int} (hp : 0 < p) (l : List (Int × Int)) : ∀ k, Rd p (foundT p l k)
  | 0 => fun c m => by
    have : c = 0 := (List.mem_replicate.mp m).2
    omega
  | k + 1 => fun c m => by
    obtain ⟨y, _, rfl⟩ := List.mem_map.mp m
    exact ⟨Int.emod_nonneg _ (by omega), Int.emod_lt_of_pos _ hp⟩
/-- how many turns the loop over j has made that change the term -/
def turnsT (k j : Nat) : Nat := if j ≤ k then j else j - 1
theorem termT_zero {p : Int} {l : List (Int × Int)} {k : Nat} (h : k < l.length) : ∀ j i, turnsT k j < i → (termT p l k j).getD i 0 = 0
  | 0, i, hi => by
    unfold turnsT at hi
    rw [if_pos (Nat.zero_le _)] at hi
    show (yAt l k :: zeros (l.length - 1)).getD i 0 = 0
    cases i with
    | zero => omega
    | succ i => exact zeros_get _ i
  | j + 1, i, hi => by
    show (if j = k then termT p l k j else stepT p l.length (xAt l k) (xAt l j) (termT p l k j)).getD i 0 = 0
    have ih := termT_zero (p := p) h j
    unfold turnsT at hi ih
    split
    · rename_i e
      subst e
      refine ih i ?_
      rw [if_pos (Nat.le_refl _)]
      rw [if_neg (by omega)] at hi
      omega
    · rename_i e
      unfold stepT
      rw [getD_mod]
      by_cases hn : i < l.length
      · rw [getD_rangeM _ _ _ hn]
        unfold lng
        have h1 : turnsT k j + 1 < i ∨ turnsT k j + 1 = turnsT k (j + 1) := by
          unfold turnsT
          right
          split <;> split <;> omega
        have h2 : turnsT k j + 1 < i := by
          rcases h1 with h1 | h1
          · exact h1
          · rw [h1]
            exact hi
        unfold turnsT at h2
        rw [if_pos (by omega), ih i (by omega), ih (i - 1) (by omega)]
        rw [Int.mul_zero, Int.zero_mul, Int.sub_zero, Int.add_zero, Int.zero_emod]
      · rw [getD_rangeO _ _ _ (by omega), Int.zero_emod]
def prodT (p : Int) (l : List (Int × Int)) (k : Nat) (x : Int) : Nat → Int
  | 0 => yAt l k
  | j + 1 => if j = k then prodT p l k x j else prodT p l k x j * ((x - xAt l j) * inv p ((xAt l k - xAt l j) % p))
theorem ev_termT {p : Int} {l : List (Int × Int)} {k : Nat} (h : k < l.length) (x : Int) : ∀ j, j ≤ l.length → Cg p (ev (termT p l k j) x) (prodT p l k x j)
  | 0, _ => by
    show Cg p (ev (zeros (l.length - 1)) x * x + yAt l k) (yAt l k)
    rw [ev_zeros, Int.zero_mul, Int.zero_add]
    exact Cg.refl _ _
  | j + 1, hj => by
    have ih := ev_termT (p := p) h x j (by omega)
    show Cg p (ev (if j = k then termT p l k j else stepT p l.length (xAt l k) (xAt l j) (termT p l k j)) x) (if j = k then prodT p l k x j else _)
    by_cases e : j = k
    · rw [if_pos e, if_pos e]
      exact ih
    · rw [if_neg e, if_neg e]
      unfold stepT
      refine (ev_mod p _ x).trans ?_
      rw [ev_lng _ _ _ _ _ (termT_length p l k h j) (termT_zero h j _ (by unfold turnsT; split <;> omega))]
      exact ih.mul (Cg.refl _ _)
theorem prodT_zero {p : Int} {l : List (Int × Int)} {k i : Nat} (hik : i ≠ k) : ∀ j, i < j → Cg p (prodT p l k (xAt l i) j) 0
  | 0, h => by omega
  | j + 1, h => by
    show Cg p (if j = k then prodT p l k (xAt l i) j else prodT p l k (xAt l i) j * ((xAt l i - xAt l j) * inv p ((xAt l k - xAt l j) % p))) 0
    by_cases e : i = j
    · subst e
      rw [if_neg hik, Int.sub_self, Int.zero_mul, Int.mul_zero]
      exact Cg.refl _ _
    · have ih := prodT_zero (p := p) (l := l) hik j (by omega)
      split
      · exact ih
      · have := ih.mul (Cg.refl p ((xAt l i - xAt l j) * inv p ((xAt l k - xAt l j) % p)))
        rwa [Int.zero_mul] at this
theorem xAt_ne {l : List (Int × Int)} (nd : (l.map (·.1)).Nodup) {i j : Nat} (hi : i < l.length) (hj : j < l.length) (h : i ≠ j) : xAt l i ≠ xAt l j := by
  unfold xAt
  rw [List.getD_eq_getElem?_getD, List.getD_eq_getElem?_getD, List.getElem?_eq_getElem hi, List.getElem?_eq_getElem hj]
  intro e
  have h1 : (l.map (·.1))[i]'(by rw [List.length_map]; exact hi) = (l.map (·.1))[j]'(by rw [List.length_map]; exact hj) := by
    rw [List.getElem_map, List.getElem_map]
    exact e
  exact h ((List.getElem_inj nd).mp h1)
theorem prodT_one {p : Int} (hpr : PR p) {l : List (Int × Int)} (hin : ∀ xy ∈ l, 0 ≤ xy.1 ∧ xy.1 < p ∧ 0 ≤ xy.2 ∧ xy.2 < p) (nd : (l.map (·.1)).Nodup) {k : Nat} (h : k < l.length) : ∀ j, j ≤ l.length → Cg p (prodT p l k (xAt l k) j) (yAt l k)
  | 0, _ => Cg.refl _ _
  | j + 1, hj => by
    have hp := hpr.lt
    have ih := prodT_one hpr hin nd h j (by omega)
    show Cg p (if j = k then prodT p l k (xAt l k) j else prodT p l k (xAt l k) j * ((xAt l k - xAt l j) * inv p ((xAt l k - xAt l j) % p))) _
    split
    · exact ih
    · rename_i e
      have b0 := Int.emod_nonneg (xAt l k - xAt l j) (show p ≠ 0 by omega)
      have b1 := Int.emod_lt_of_pos (xAt l k - xAt l j) (show 0 < p by omega)
      have hk := (at_in hin h).1
      have hj' := (at_in hin (k := j) (by omega)).1
      have b2 : (xAt l k - xAt l j) % p ≠ 0 := fun z => xAt_ne nd (i := k) (j := j) h (by omega) (fun z => e z.symm) ((show Cg p (xAt l k) (xAt l j) from Int.dvd_of_emod_eq_zero z).eq hk.1 hk.2 hj'.1 hj'.2)
      have e1 : Cg p ((xAt l k - xAt l j) % p * inv p ((xAt l k - xAt l j) % p)) 1 := Cg.of (by rw [inv_ok hpr (by omega) b1, Int.emod_eq_of_lt (by omega) (by omega)])
      have e2 : Cg p ((xAt l k - xAt l j) * inv p ((xAt l k - xAt l j) % p)) 1 := ((Cg.mod p _).symm.mul (Cg.refl p _)).trans e1
      have := ih.mul e2
      rwa [Int.mul_one] at this
theorem ev_foundT {p : Int} (hpr : PR p) {l : List (Int × Int)} (hin : ∀ xy ∈ l, 0 ≤ xy.1 ∧ xy.1 < p ∧ 0 ≤ xy.2 ∧ xy.2 < p) (nd : (l.map (·.1)).Nodup) {i : Nat} (hi : i < l.length) : ∀ m, m ≤ l.length → Cg p (ev (foundT p l m) (xAt l i)) (if i < m then yAt l i else 0)
  | 0, _ => by
    show Cg p (ev (zeros l.length) (xAt l i)) _
    rw [ev_zeros, if_neg (by omega)]
    exact Cg.refl _ _
  | m + 1, hm => by
    have ih := ev_foundT hpr hin nd hi m (by omega)
    have lz : (zeros l.length).length = l.length := by simp [zeros]
    have e1 : ∀ u, (foundT p l (m + 1)).getD u 0 = ((addMul (addMul (zeros l.length) 0 1 (foundT p l m)) 0 1 (termT p l m l.length)).map (· % p)).getD u 0 := fun u => by
      show ((List.range l.length).map _).getD u 0 = _
      rw [getD_mod, addMul_at _ _ _ _ _ (by rw [addMul_length, lz, termT_length p l m (by omega)]; omega), addMul_at _ _ _ _ _ (by rw [lz, foundT_length]; omega), zeros_get, if_pos (Nat.zero_le _), if_pos (Nat.zero_le _), Nat.sub_zero, Int.zero_add, Int.one_mul, Int.one_mul]
      by_cases hu : u < l.length
      · rw [getD_rangeM _ _ _ hu]
      · rw [getD_rangeO _ _ _ (by omega), getD_ge (by rw [foundT_length]; omega), getD_ge (by rw [termT_length p l m (by omega)]; omega)]
        exact (Int.zero_emod p).symm
    rw [ev_ext e1]
    refine (ev_mod p _ _).trans ?_
    rw [ev_addMul _ _ _ _ _ (by rw [addMul_length, lz, termT_length p l m (by omega)]; omega), ev_addMul _ _ _ _ _ (by rw [lz, foundT_length]; omega), ev_zeros]
    have e2 := ev_termT (p := p) (l := l) (k := m) (by omega) (xAt l i) l.length (Nat.le_refl _)
    rw [Int.zero_add, Int.one_mul, Int.pow_zero, Int.one_mul, Int.one_mul]
    have e3 := ih.add e2
    refine e3.trans ?_
    by_cases e : i = m
    · subst e
      have := prodT_one hpr hin nd hi l.length (Nat.le_refl _)
      rw [if_neg (by omega), if_pos (by omega), Int.zero_add]
      exact this
    · have := prodT_zero (p := p) (l := l) e l.length hi
      have e4 := (Cg.refl p (if i < m then yAt l i else 0)).add this
      refine e4.trans ?_
      rw [Int.add_zero]
      by_cases h : i < m
      · rw [if_pos h, if_pos (by omega)]
        exact Cg.refl _ _
      · rw [if_neg h, if_neg (by omega)]
        exact Cg.refl _ _
theorem lineT_length (p : Int) (l : List (Int × Int)) : (lineT p l).length = l.length := foundT_length p l _
theorem lineT_rd {p : Int} (hp : 0 < p) (l : List (Int × Int)) : Rd p (lineT p l) := foundT_rd hp l _
theorem lineT_at {p : Int} (hpr : PR p) {l : List (Int × Int)} (hin : ∀ xy ∈ l, 0 ≤ xy.1 ∧ xy.1 < p ∧ 0 ≤ xy.2 ∧ xy.2 < p) (nd : (l.map (·.1)).Nodup) : ∀ xy ∈ l, hv p (lineT p l) xy.1 = xy.2 := fun xy m => by
  have hp := hpr.lt
  obtain ⟨i, hi, e⟩ := List.getElem_of_mem m
  have h := ev_foundT hpr hin nd hi l.length (Nat.le_refl _)
  rw [if_pos hi] at h
  have ex : xAt l i = xy.1 := by
    unfold xAt
    rw [List.getD_eq_getElem?_getD, List.getElem?_eq_getElem hi, e]
    rfl
  have ey : yAt l i = xy.2 := by
    unfold yAt
    rw [List.getD_eq_getElem?_getD, List.getElem?_eq_getElem hi, e]
    rfl
  rw [ex, ey] at h
  have b := hin xy m
  exact ((hv_ev p _ _).trans h).eq (hv_lt (by omega) _ _).1 (hv_lt (by omega) _ _).2 b.2.2.1 b.2.2.2
/-! the law's own choices -/
def choM (k : Nat) : Nat → List (List Nat)
  | 0 => [[]]
  | j + 1 => choM k j ++ ((choM k j).filter fun l => decide (l.length < k)).map fun l => l ++ [j]
theorem choM_length (k : Nat) : ∀ j, (choM k j).length ≤ 2 ^ j
  | 0 => Nat.le_refl _
  | j + 1 => by
    show (choM k j ++ ((choM k j).filter fun l => decide (l.length < k)).map fun l => l ++ [j]).length ≤ _
    rw [List.length_append, List.length_map, Nat.pow_succ]
    have := choM_length k j
    have h2 := List.length_filter_le (fun l : List Nat => decide (l.length < k)) (choM k j)
    omega
theorem choM_sound (k : Nat) : ∀ j l, l ∈ choM k j → l.Pairwise (· < ·) ∧ (∀ x ∈ l, x < j) ∧ l.length ≤ k
  | 0, l, m => by
    have e : l = [] := by simpa [choM] using m
    subst e
    exact ⟨.nil, fun x m => (by cases m), Nat.zero_le _⟩
  | j + 1, l, m => by
    have m' : l ∈ choM k j ++ ((choM k j).filter fun l => decide (l.length < k)).map fun l => l ++ [j] := m
    rcases List.mem_append.mp m' with m' | m'
    · have := choM_sound k j l m'
      exact ⟨this.1, fun x h => Nat.lt_succ_of_lt (this.2.1 x h), this.2.2⟩
    · obtain ⟨l0, m0, rfl⟩ := List.mem_map.mp m'
      obtain ⟨m1, m2⟩ := List.mem_filter.mp m0
      have := choM_sound k j l0 m1
      refine ⟨List.pairwise_append.mpr ⟨this.1, List.pairwise_singleton _ _, fun a ha b hb => ?_⟩, fun x h => ?_, ?_⟩
      · rw [List.mem_singleton.mp hb]
        exact this.2.1 a ha
      · rcases List.mem_append.mp h with h | h
        · exact Nat.lt_succ_of_lt (this.2.1 x h)
        · rw [List.mem_singleton.mp h]
          exact Nat.lt_succ_self _
      · rw [List.length_append]
        have := of_decide_eq_true m2
        exact this
theorem choM_all (k : Nat) : ∀ j l, l.Pairwise (· < ·) → (∀ x ∈ l, x < j) → l.length ≤ k → l ∈ choM k j
  | 0, l, _, h, _ => by
    cases l with
    | nil => simp [choM]
    | cons a r => exact absurd (h a (List.mem_cons_self ..)) (Nat.not_lt_zero _)
  | j + 1, l, hp, h, hk => by
    show l ∈ choM k j ++ ((choM k j).filter fun l => decide (l.length < k)).map fun l => l ++ [j]
    by_cases hj : j ∈ l
    · have hne : l ≠ [] := fun e => by rw [e] at hj; cases hj
      have e : l = l.dropLast ++ [l.getLast hne] := (List.dropLast_concat_getLast hne).symm
      rw [e] at hp
      have hp' := List.pairwise_append.mp hp
      have el : l.getLast hne = j := by
        rw [e] at hj
        rcases List.mem_append.mp hj with hj | hj
        · have h1 := hp'.2.2 j hj _ (List.mem_singleton.mpr rfl)
          have h2 := h _ (List.getLast_mem hne)
          omega
        · exact (List.mem_singleton.mp hj).symm
      rw [el] at e hp'
      have hl : l.length = l.dropLast.length + 1 := by
        rw [List.length_dropLast]
        have : 0 < l.length := List.length_pos_iff.mpr hne
        omega
      refine List.mem_append_right _ (List.mem_map.mpr ⟨l.dropLast, List.mem_filter.mpr ⟨choM_all k j _ hp'.1 (fun x m => hp'.2.2 x m j (List.mem_singleton.mpr rfl)) (by omega), decide_eq_true (by omega)⟩, e.symm⟩)
    · refine List.mem_append_left _ (choM_all k j l hp (fun x m => ?_) hk)
      have h1 := h x m
      have h2 : x ≠ j := fun e => hj (e ▸ m)
      omega
def choL (many k : Nat) : List (List Nat) := (choM k many).filter fun l => l.length == k
theorem mem_choL {many k : Nat} {l : List Nat} : l ∈ choL many k ↔ l.Pairwise (· < ·) ∧ (∀ x ∈ l, x < many) ∧ l.length = k := by
  unfold choL
  rw [List.mem_filter]
  constructor
  · rintro ⟨m, e⟩
    have := choM_sound k many l m
    exact ⟨this.1, this.2.1, eq_of_beq e⟩
  · rintro ⟨h1, h2, h3⟩
    exact ⟨choM_all k many l h1 h2 (by omega), by rw [h3]; exact beq_self_eq_true _⟩
theorem choL_length (many k : Nat) : (choL many k).length ≤ 2 ^ many := Nat.le_trans (List.length_filter_le _ _) (choM_length k many)
/-- the pairs with the chosen numbers -/
def pick (l : List (Int × Int)) (ch : List Nat) : List (Int × Int) := ch.map fun k => l.getD k (0, 0)
theorem pick_mem {l : List (Int × Int)} {ch : List Nat} (h : ∀ x ∈ ch, x < l.length) : ∀ xy ∈ pick l ch, xy ∈ l := fun xy m => by
  obtain ⟨k, mk, rfl⟩ := List.mem_map.mp m
  rw [List.getD_eq_getElem?_getD, List.getElem?_eq_getElem (h k mk)]
  exact List.getElem_mem _
theorem pick_nd {l : List (Int × Int)} (nd : (l.map (·.1)).Nodup) {ch : List Nat} (hp : ch.Pairwise (· < ·)) (h : ∀ x ∈ ch, x < l.length) : ((pick l ch).map (·.1)).Nodup := by
  unfold pick
  rw [List.map_map, List.nodup_iff_pairwise_ne, List.pairwise_map]
  refine List.Pairwise.imp_of_mem (fun {a b} ha hb hab => ?_) hp
  exact xAt_ne nd (h a ha) (h b hb) (by omega)
theorem filter_pick (P : Int × Int → Bool) (l : List (Int × Int)) : pick l ((List.range l.length).filter fun k => P (l.getD k (0, 0))) = l.filter P := by
  unfold pick
  have e : l = (List.range l.length).map fun k => l.getD k (0, 0) := by
    refine List.ext_getElem? fun i => ?_
    rw [List.getElem?_map]
    by_cases h : i < l.length
    · rw [List.getElem?_range h, List.getElem?_eq_getElem h]
      show _ = some (l.getD i (0, 0))
      rw [List.getD_eq_getElem?_getD, List.getElem?_eq_getElem h]
      rfl
    · rw [List.getElem?_eq_none (by omega), List.getElem?_eq_none (by simpa using Nat.le_of_not_lt h)]
      rfl
  conv => rhs; rw [e]
  rw [List.filter_map]
  rfl
theorem hits_trim {p : Int} (hp : 0 < p) (f : List Int) (l : List (Int × Int)) : hits p (trim f) l = hits p f l := by
  unfold hits
  congr 1
  funext xy
  rw [hv_trim hp]
/-- where some polynomial fits, some choice's line is it -/
theorem line_all {p : Int} {d e : Nat} {l : List (Int × Int)} (I : Inp p d e l) {f : List Int} (F : Fit p d e l f) : ∃ ch ∈ choL l.length (d + 1), trim (lineT p (pick l ch)) = f := by
  have hp := I.pr.lt
  let idx := (List.range l.length).filter fun k => (fun xy : Int × Int => hv p f xy.1 == xy.2) (l.getD k (0, 0))
  have hidx : pick l idx = hits p f l := filter_pick (fun xy : Int × Int => hv p f xy.1 == xy.2) l
  have hlen : idx.length = (hits p f l).length := by
    rw [← hidx]
    unfold pick
    rw [List.length_map]
  have hpw : idx.Pairwise (· < ·) := List.Pairwise.filter _ List.pairwise_lt_range
  have hlt : ∀ x ∈ idx, x < l.length := fun x m => List.mem_range.mp (List.mem_filter.mp m).1
  have hit := F.hit
  have many := I.many
  let ch := idx.take (d + 1)
  have cl : ch.length = d + 1 := by
    show (idx.take (d + 1)).length = d + 1
    rw [List.length_take]
    omega
  have cp : ch.Pairwise (· < ·) := hpw.sublist (List.take_sublist _ _)
  have cm : ∀ x ∈ ch, x < l.length := fun x m => hlt x (List.mem_of_mem_take m)
  refine ⟨ch, mem_choL.mpr ⟨cp, cm, cl⟩, ?_⟩
  have nd := pick_nd I.nd cp cm
  have hin : ∀ xy ∈ pick l ch, 0 ≤ xy.1 ∧ xy.1 < p ∧ 0 ≤ xy.2 ∧ xy.2 < p := fun xy m => I.inn xy (pick_mem cm xy m)
  have pl : (pick l ch).length = d + 1 := by
    unfold pick
    rw [List.length_map, cl]
  rw [← F.tr]
  refine same_poly I.pr (lineT_rd (by omega) _) F.rd (xs := (pick l ch).map (·.1)) (by rw [lineT_length, List.length_map]; omega) (by have := F.le; rw [List.length_map, pl]; exact this) nd (fun x m => ?_) fun x m => ?_
  · obtain ⟨xy, mm, rfl⟩ := List.mem_map.mp m
    have := hin xy mm
    exact ⟨this.1, this.2.1⟩
  · obtain ⟨xy, mm, rfl⟩ := List.mem_map.mp m
    rw [lineT_at I.pr hin nd xy mm]
    obtain ⟨k, mk, rfl⟩ := List.mem_map.mp mm
    have m1 := (List.mem_filter.mp (List.mem_of_mem_take mk)).2
    exact (eq_of_beq m1).symm
theorem line_fit {p : Int} {d e : Nat} {l : List (Int × Int)} (I : Inp p d e l) {ch : List Nat} (h : ch ∈ choL l.length (d + 1)) (hh : l.length ≤ (hits p (lineT p (pick l ch)) l).length + e) : Fit p d e l (trim (lineT p (pick l ch))) := by
  have hp := I.pr.lt
  obtain ⟨h1, h2, h3⟩ := mem_choL.mp h
  refine ⟨trim_trim _, fun c m => lineT_rd (by omega) _ c (mem_trim m), ?_, ?_⟩
  · refine Nat.le_trans (trim_length _) ?_
    rw [lineT_length]
    unfold pick
    rw [List.length_map]
    omega
  · rw [hits_trim (by omega)]
    exact hh
theorem dec_none {p : Int} {d e : Nat} {l : List (Int × Int)} (I : Inp p d e l) (h : ∀ ch ∈ choL l.length (d + 1), (hits p (lineT p (pick l ch)) l).length + e < l.length) : DecOk p d e l none := fun f F => by
  have hp := I.pr.lt
  obtain ⟨ch, m, t⟩ := line_all I F
  have h1 := h ch m
  have h2 := F.hit
  rw [← t, hits_trim (by omega)] at h2
  omega
end M
namespace M
theorem incr_length {n : Nat} : ∀ (l : List Nat) (a : Nat), l.Pairwise (· < ·) → (∀ x ∈ l, a ≤ x ∧ x < n) → l.length ≤ n - a
  | [], _, _, _ => Nat.zero_le _
  | b :: r, a, h, hb => by
    have h' := List.pairwise_cons.mp h
    have ih := incr_length r (b + 1) h'.2 fun x m => ⟨h'.1 x m, (hb x (List.mem_cons_of_mem _ m)).2⟩
    have h2 := hb b (List.mem_cons_self ..)
    show r.length + 1 ≤ n - a
    omega
end M
namespace M
/-! sums -/
def sm (n : Nat) (g : Nat → Int) : Int := match n with
  | 0 => 0
  | n + 1 => sm n g + g n
theorem sm_congr {n : Nat} {g h : Nat → Int} (e : ∀ k, k < n → g k = h k) : sm n g = sm n h := by
  induction n with
  | zero => rfl
  | succ n ih =>
    show sm n g + g n = sm n h + h n
    rw [ih (fun k hk => e k (by omega)), e n (by omega)]
theorem sm_add (n : Nat) (g h : Nat → Int) : sm n (fun k => g k + h k) = sm n g + sm n h := by
  induction n with
  | zero => rfl
  | succ n ih =>
    show sm n (fun k => g k + h k) + (g n + h n) = (sm n g + g n) + (sm n h + h n)
    rw [ih]
    omega
theorem sm_mul (n : Nat) (g : Nat → Int) (c : Int) : sm n (fun k => g k * c) = sm n g * c := by
  induction n with
  | zero => exact (Int.zero_mul c).symm
  | succ n ih =>
    show sm n (fun k => g k * c) + g n * c = (sm n g + g n) * c
    rw [ih, Int.add_mul]
theorem sm_zero (n : Nat) : sm n (fun _ => 0) = 0 := by
  induction n with
  | zero => rfl
  | succ n ih =>
    show sm n (fun _ => 0) + 0 = 0
    rw [ih]
    rfl
theorem sm_swap (n m : Nat) (g : Nat → Nat → Int) : sm n (fun a => sm m (fun b => g a b)) = sm m (fun b => sm n (fun a => g a b)) := by
  induction n with
  | zero => exact (sm_zero m).symm
  | succ n ih =>
    show sm n (fun a => sm m (fun b => g a b)) + sm m (fun b => g n b) = sm m (fun b => sm n (fun a => g a b) + g n b)
    rw [ih, sm_add]
theorem sm_cg {p : Int} (n : Nat) {g h : Nat → Int} (e : ∀ k, k < n → Cg p (g k) (h k)) : Cg p (sm n g) (sm n h) := by
  induction n with
  | zero => exact Cg.refl _ _
  | succ n ih => exact (ih fun k hk => e k (by omega)).add (e n (by omega))
theorem ev_snoc : ∀ (l : List Int) (c x : Int), ev (l ++ [c]) x = ev l x + c * x ^ l.length
  | [], c, x => by
    show (0 : Int) * x + c = 0 + c * x ^ 0
    grind
  | a :: r, c, x => by
    show ev (r ++ [c]) x * x + a = ev r x * x + a + c * x ^ (r.length + 1)
    rw [ev_snoc r c x]
    grind
theorem ev_range (n : Nat) (g : Nat → Int) (x : Int) : ev ((List.range n).map g) x = sm n fun k => g k * x ^ k := by
  induction n with
  | zero => rfl
  | succ n ih =>
    rw [List.range_succ, List.map_append]
    show ev ((List.range n).map g ++ [g n]) x = sm n (fun k => g k * x ^ k) + g n * x ^ n
    rw [ev_snoc, ih, List.length_map, List.length_range]
theorem hv_cg {p : Int} {l l' : List Int} {x : Int} (hp : 0 < p) (h : Cg p (ev l x) (ev l' x)) : hv p l x = hv p l' x := hv_eq hp h
/-! symmetric tables -/
/-- where row j of the numbers on and above the diagonal begins -/
def offs (t : Nat) : Nat → Nat
  | 0 => 0
  | j + 1 => offs t j + (t + 1 - j)
/-- the coefficient at j, k -/
def tb (t : Nat) (tape : List Int) (base j k : Nat) : Int := tape.getD (base + offs t (min j k) + (max j k - min j k)) 0
theorem tb_comm (t : Nat) (tape : List Int) (base j k : Nat) : tb t tape base j k = tb t tape base k j := by
  unfold tb
  rw [Nat.min_comm, Nat.max_comm]
/-- a square table of a function -/
def tab (n : Nat) (g : Nat → Nat → Int) : List (List Int) := (List.range n).map fun j => (List.range n).map fun k => g j k
theorem tab_length (n : Nat) (g : Nat → Nat → Int) : (tab n g).length = n := by simp [tab]
theorem tab_get {n : Nat} (g : Nat → Nat → Int) {j : Nat} (h : j < n) : (tab n g)[j]? = some ((List.range n).map fun k => g j k) := by
  unfold tab
  rw [List.getElem?_map, List.getElem?_range h]
  rfl
theorem tab_congr {n : Nat} {g h : Nat → Nat → Int} (e : ∀ j k, j < n → k < n → g j k = h j k) : tab n g = tab n h := by
  unfold tab
  refine List.map_congr_left fun j hj => List.map_congr_left fun k hk => e j k (List.mem_range.mp hj) (List.mem_range.mp hk)
theorem tab_set {n : Nat} (g : Nat → Nat → Int) {j k : Nat} (hj : j < n) (hk : k < n) (v : Int) : (tab n g).set j (((List.range n).map fun y => g j y).set k v) = tab n fun x y => if x = j ∧ y = k then v else g x y := by
  refine List.ext_getElem? fun i => ?_
  rw [List.getElem?_set]
  by_cases e : j = i
  · subst e
    rw [if_pos rfl, if_pos (by rw [tab_length]; exact hj), tab_get _ hj]
    refine congrArg some (List.ext_getElem? fun u => ?_)
    rw [List.getElem?_set]
    by_cases e2 : k = u
    · subst e2
      rw [if_pos rfl, if_pos (by simpa using hk), List.getElem?_map, List.getElem?_range hk]
      show _ = some (if j = j ∧ k = k then v else g j k)
      rw [if_pos ⟨rfl, rfl⟩]
    · rw [if_neg e2, List.getElem?_map, List.getElem?_map]
      by_cases hu : u < n
      · rw [List.getElem?_range hu]
        show some (g j u) = some (if j = j ∧ u = k then v else g j u)
        rw [if_neg (fun z => e2 z.2.symm)]
      · rw [List.getElem?_eq_none (by simpa using Nat.le_of_not_lt hu)]
        rfl
  · rw [if_neg e]
    by_cases hi : i < n
    · rw [tab_get _ hi, tab_get _ hi]
      refine congrArg some (List.map_congr_left fun u _ => ?_)
      rw [if_neg (fun z => e z.1.symm)]
    · rw [List.getElem?_eq_none (by rw [tab_length]; omega), List.getElem?_eq_none (by rw [tab_length]; omega)]
/-- what the reading has set: all above row j, and of row j what is ahead of k -/
def seen (j k u v : Nat) : Prop := u < j ∨ (u = j ∧ v < k)
instance (j k u v : Nat) : Decidable (seen j k u v) := by unfold seen; infer_instance
def part (t : Nat) (tape : List Int) (base j k : Nat) (x y : Nat) : Int := if seen j k (min x y) (max x y) then tb t tape base x y else 0
theorem part_start (t : Nat) (tape : List Int) (base : Nat) : tab (t + 1) (part t tape base 0 0) = tab (t + 1) fun _ _ => 0 := tab_congr fun x y _ _ => if_neg (by unfold seen; omega)
theorem part_row (t : Nat) (tape : List Int) (base j : Nat) : tab (t + 1) (part t tape base j j) = tab (t + 1) (part t tape base j 0) := tab_congr fun x y _ _ => by
  unfold part
  by_cases h : seen j 0 (min x y) (max x y)
  · rw [if_pos h, if_pos (by unfold seen at h ⊢; omega)]
  · rw [if_neg h, if_neg (by unfold seen at h ⊢; omega)]
theorem part_next (t : Nat) (tape : List Int) (base j : Nat) : tab (t + 1) (part t tape base j (t + 1)) = tab (t + 1) (part t tape base (j + 1) (j + 1)) := tab_congr fun x y hx hy => by
  unfold part
  by_cases h : seen j (t + 1) (min x y) (max x y)
  · rw [if_pos h, if_pos (by unfold seen at h ⊢; omega)]
  · rw [if_neg h, if_neg (by unfold seen at h ⊢; omega)]
theorem part_done (t : Nat) (tape : List Int) (base : Nat) : tab (t + 1) (part t tape base (t + 1) (t + 1)) = tab (t + 1) (tb t tape base) := tab_congr fun x y hx hy => if_pos (by unfold seen; omega)
theorem part_step (t : Nat) (tape : List Int) (base j k : Nat) (hjk : j ≤ k) : tab (t + 1) (part t tape base j (k + 1)) = tab (t + 1) fun x y => if x = k ∧ y = j then tb t tape base j k else if x = j ∧ y = k then tb t tape base j k else part t tape base j k x y := tab_congr fun x y _ _ => by
  unfold part
  by_cases h1 : x = k ∧ y = j
  · obtain ⟨rfl, rfl⟩ := h1
    rw [if_pos (show x = x ∧ y = y from ⟨rfl, rfl⟩), if_pos (by unfold seen; omega), tb_comm]
  · rw [if_neg h1]
    by_cases h2 : x = j ∧ y = k
    · obtain ⟨rfl, rfl⟩ := h2
      rw [if_pos (show x = x ∧ y = y from ⟨rfl, rfl⟩), if_pos (by unfold seen; omega)]
    · rw [if_neg h2]
      by_cases h : seen j k (min x y) (max x y)
      · rw [if_pos h, if_pos (by unfold seen at h ⊢; omega)]
      · rw [if_neg h, if_neg (by unfold seen at h ⊢; omega)]
/-- a polynomial in two variables, unreduced -/
def ev2 (n : Nat) (g : Nat → Nat → Int) (x y : Int) : Int := sm n fun a => sm n fun b => g a b * x ^ a * y ^ b
theorem ev2_comm {n : Nat} {g : Nat → Nat → Int} (h : ∀ a b, g a b = g b a) (x y : Int) : ev2 n g x y = ev2 n g y x := by
  unfold ev2
  rw [sm_swap]
  exact sm_congr fun b _ => sm_congr fun a _ => by rw [h a b]; grind
/-- the row for i -/
def rowL (p : Int) (n : Nat) (g : Nat → Nat → Int) (i : Int) : List Int := (List.range n).map fun k => hv p ((List.range n).map fun j => g j k) i
theorem hv_rowL {p : Int} (hp : 0 < p) (n : Nat) (g : Nat → Nat → Int) (i y : Int) : hv p (rowL p n g i) y = ev2 n g i y % p := by
  have e1 : Cg p (hv p (rowL p n g i) y) (ev2 n g i y) := by
    refine (hv_ev p _ y).trans ?_
    unfold rowL
    rw [ev_range]
    unfold ev2
    rw [sm_swap]
    refine sm_cg n fun k _ => ?_
    have e2 : Cg p (hv p ((List.range n).map fun j => g j k) i) (sm n fun j => g j k * i ^ j) := (hv_ev p _ i).trans (by rw [ev_range]; exact Cg.refl _ _)
    have e3 := e2.mul (Cg.refl p (y ^ k))
    rw [← sm_mul] at e3
    exact e3
  have b := hv_lt hp (rowL p n g i) y
  rw [← e1.emod, Int.emod_eq_of_lt b.1 b.2]
theorem rowL_rd {p : Int} (hp : 0 < p) (n : Nat) (g : Nat → Nat → Int) (i : Int) : Rd p (rowL p n g i) := fun c m => by
  obtain ⟨k, _, rfl⟩ := List.mem_map.mp m
  exact hv_lt hp _ _
theorem rowL_length (p : Int) (n : Nat) (g : Nat → Nat → Int) (i : Int) : (rowL p n g i).length = n := by simp [rowL]
/-- the law's sum -/
theorem sum_cg {p : Int} (n : Nat) (g : Nat → Nat → Int) (x y : Int) : Cg p (sm n fun a => sm n fun b => g a b * (x ^ a % p) * (y ^ b % p)) (ev2 n g x y) :=
  sm_cg n fun a _ => sm_cg n fun b _ => ((Cg.refl p (g a b)).mul (Cg.mod p (x ^ a))).mul (Cg.mod p (y ^ b))
end M
namespace K1
open PySem PySem.Spec PyProof.Rows L2 Z
/-- a tuple, a list of ints -/
abbrev IsT (K : PySem.W.Frag) (H : Hp) (a : Addr) (ns : List Int) : Prop := SqT K H a (ns.map V.int)
abbrev IsL (K : PySem.W.Frag) (H : Hp) (a : Addr) (ns : List Int) : Prop := SqL K H a (ns.map V.int)
/-- a sequence of refs whose items are told -/
theorem pr_at {K : PySem.W.Frag} {H : Hp} {as : List Addr} {l : List (Int × Int)} (h : Paired (fun a xy => SqT K H a [.int xy.1, .int xy.2]) as l) {k : Nat} (hk : k < l.length) : ∃ a, as[k]? = some a ∧ SqT K H a [.int (M.xAt l k), .int (M.yAt l k)] := by
  have e := Paired.length h
  have ha : as[k]? = some (as[k]'(by omega)) := List.getElem?_eq_getElem (by omega)
  obtain ⟨xy, e1, e2⟩ := paired_get h ha
  refine ⟨_, ha, ?_⟩
  have e3 : l.getD k (0, 0) = xy := by rw [List.getD_eq_getElem?_getD, e1]; rfl
  unfold M.xAt M.yAt
  rw [e3]
  exact e2
theorem at_ref {as : List Addr} {i : Int} {k : Nat} {a : Addr} (h : as[k]? = some a) (e : i = k) : atI (as.map V.ref) i = some (.ref a) := at_of e (by rw [List.getElem?_map, h]; rfl)
theorem at_intI {ns : List Int} {i : Int} {k : Nat} (h : k < ns.length) (e : i = k) : atI (ns.map V.int) i = some (.int (ns.getD k 0)) := at_of e (at_int h)
/-! cells: objects that are told one by one -/
abbrev Cl {β : Type} (enc : β → HO) (H : Hp) (a : Addr) (x : β) : Prop := H a = some (enc x)
section
variable {β : Type} {enc : β → HO}
theorem cells_but {H H' : Hp} {c : Addr} : ∀ {ras : List Addr} {l : List β}, Paired (Cl enc H) ras l → But c H H' → c ∉ ras → Paired (Cl enc H') ras l
  | _, _, .nil, _, _ => .nil
  | _, _, .cons h t, bt, hn => .cons (bt _ _ (fun z => hn (by rw [z]; exact List.mem_cons_self ..)) h) (cells_but t bt fun m => hn (List.mem_cons_of_mem _ m))
theorem cells_same {H H' : Hp} {ras : List Addr} {l : List β} (h : Paired (Cl enc H) ras l) (s : Same H H') : Paired (Cl enc H') ras l := L2.Paired.mapP h fun a xy h => s _ _ h
theorem cells_set {H H' : Hp} {a : Addr} {y : β} : ∀ {ras : List Addr} {l : List β} {i : Nat}, Paired (Cl enc H) ras l → ras.Nodup → ras[i]? = some a → But a H H' → Cl enc H' a y → Paired (Cl enc H') ras (l.set i y)
  | _, _, _, .nil, _, e, _, _ => by simp at e
  | b :: ras, z :: l, 0, .cons h t, nd, e, bt, ha => by
    have e' : b = a := by simpa using e
    subst e'
    have nd' := List.nodup_cons.mp nd
    exact .cons ha (cells_but t bt nd'.1)
  | b :: ras, z :: l, i + 1, .cons h t, nd, e, bt, ha => by
    have nd' := List.nodup_cons.mp nd
    have e' : ras[i]? = some a := by simpa using e
    have hb : b ≠ a := fun z => nd'.1 (by rw [z]; exact List.mem_of_getElem? e')
    exact .cons (bt _ _ hb h) (cells_set t nd'.2 e' bt ha)
theorem cells_get {H : Hp} {ras : List Addr} {l : List β} (h : Paired (Cl enc H) ras l) {i : Nat} {y : β} (e : l[i]? = some y) : ∃ a, ras[i]? = some a ∧ Cl enc H a y := by
  have hl := Paired.length h
  have hi := (List.getElem?_eq_some_iff.mp e).1
  have ea : ras[i]? = some (ras[i]'(by omega)) := List.getElem?_eq_getElem (by omega)
  obtain ⟨b, e1, e2⟩ := paired_get h ea
  rw [e] at e1
  cases e1
  exact ⟨_, ea, e2⟩
theorem cells_free {H : Hp} {ras : List Addr} {l : List β} (h : Paired (Cl enc H) ras l) {c : Addr} (n : H c = none) : c ∉ ras := fun m => by
  obtain ⟨j, hj, ej⟩ := List.getElem_of_mem m
  obtain ⟨_, _, h2⟩ := paired_get h (show ras[j]? = some c by rw [List.getElem?_eq_getElem hj, ej])
  rw [show H c = _ from h2] at n
  cases n
end
/-! a list of lists of ints, a tuple of tuples of ints -/
abbrev encL (r : List Int) : HO := .lst (r.map V.int)
def IsTab (H : Hp) (a : Addr) (f : List (List Int)) : Prop := ∃ ras : List Addr, H a = some (.lst (ras.map V.ref)) ∧ Paired (Cl encL H) ras f
def IsTT (K : PySem.W.Frag) (H : Hp) (a : Addr) (f : List (List Int)) : Prop := ∃ as : List Addr, SqT K H a (as.map V.ref) ∧ Paired (IsT K H) as f
theorem IsTab.same {H H' : Hp} {a : Addr} {f : List (List Int)} (h : IsTab H a f) (s : Same H H') : IsTab H' a f := by
  obtain ⟨ras, e, p⟩ := h
  exact ⟨ras, s _ _ e, cells_same p s⟩
theorem IsTT.same {K : PySem.W.Frag} {H H' : Hp} {a : Addr} {f : List (List Int)} (h : IsTT K H a f) (s : Same H H') : IsTT K H' a f := by
  obtain ⟨as, e, p⟩ := h
  exact ⟨as, sqt_same s e, L2.Paired.mapP p fun a r h => sqt_same s h⟩
theorem some_getD {α : Type} {l : List α} {k : Nat} {d : α} (h : k < l.length) : l[k]? = some (l.getD k d) := by
  rw [List.getD_eq_getElem?_getD, List.getElem?_eq_getElem h]
  rfl
theorem take_get {α : Type} {l : List α} {i : Nat} {x : α} (e : l[i]? = some x) : l.take (i + 1) = l.take i ++ [x] := by
  obtain ⟨h, e1⟩ := List.getElem?_eq_some_iff.mp e
  rw [List.take_succ_eq_append_getElem h, e1]
theorem pr_item2 {β : Type} {G : Addr → β → Prop} {as : List Addr} {l : List β} (h : Paired G as l) {i : Nat} {x : V} (e : (as.map V.ref)[i]? = some x) : ∃ a b, x = .ref a ∧ as[i]? = some a ∧ l[i]? = some b ∧ G a b := by
  rw [List.getElem?_map] at e
  cases ea : as[i]? with
  | none =>
    rw [ea] at e
    cases e
  | some a =>
    rw [ea] at e
    obtain ⟨b, e1, e2⟩ := paired_get h ea
    exact ⟨a, b, (Option.some.inj e).symm, rfl, e1, e2⟩
theorem pr_get {β : Type} {G : Addr → β → Prop} {as : List Addr} {l : List β} (h : Paired G as l) {i : Nat} {b : β} (e : l[i]? = some b) : ∃ a, as[i]? = some a ∧ G a b := by
  have hl := Paired.length h
  have hi := (List.getElem?_eq_some_iff.mp e).1
  have ea : as[i]? = some (as[i]'(by omega)) := List.getElem?_eq_getElem (by omega)
  obtain ⟨b', e1, e2⟩ := paired_get h ea
  rw [e] at e1
  cases e1
  exact ⟨_, ea, e2⟩
theorem paired_app {α β : Type} {F : α → β → Prop} : ∀ {l : List α} {l' : List β} {m : List α} {m' : List β}, PySem.Paired F l l' → PySem.Paired F m m' → PySem.Paired F (l ++ m) (l' ++ m')
  | _, _, _, _, .nil, h => h
  | _, _, _, _, .cons r t, h => .cons r (paired_app t h)
/-- as data -/
def tt (f : List (List Int)) : PyData := .tuple (f.map fun r => .tuple (r.map .int))
theorem dp_tts {K : PySem.W.Frag} {H : Hp} : ∀ {as : List Addr} {f : List (List Int)}, Paired (IsT K H) as f → DpAll K H (as.map V.ref) (f.map fun r => .tuple (r.map .int))
  | _, _, .nil => .nil
  | _, _, .cons h t => .cons (dp_t h) (dp_tts t)
theorem dp_tt {K : PySem.W.Frag} {H : Hp} {a : Addr} {f : List (List Int)} (h : IsTT K H a f) : Dp K H (.ref a) (tt f) := by
  obtain ⟨as, e, p⟩ := h
  exact .tup e (dp_tts p)
theorem canLay_tts : ∀ f : List (List Int), PyData.canLayAll0 (f.map fun r => PyData.tuple (r.map .int)) = true
  | [] => rfl
  | r :: f => by simp [PyData.canLayAll0, PyData.canLay0, Z.canLayAll_ints, canLay_tts f]
theorem depth_tts : ∀ f : List (List Int), PyData.depthAll (f.map fun r => PyData.tuple (r.map .int)) ≤ 1
  | [] => Nat.zero_le _
  | r :: f => by
    have h := depth_tts f
    simp [PyData.depthAll, PyData.depth, Z.depthAll_ints]
    omega
theorem shaped_tt (f : List (List Int)) : SeqAt.shaped (tt f) = true := by
  have h := depth_tts f
  unfold SeqAt.shaped tt
  rw [Bool.and_eq_true, decide_eq_true_eq]
  refine ⟨by simpa [PyData.canLay0] using canLay_tts f, ?_⟩
  rw [PyData.depth]
  omega
end K1
namespace M
/-! setups, addresses, scripts -/
structure SetOk (p n t m : Int) : Prop where
  pr : PR p
  t0 : 0 ≤ t
  t2 : t ≤ 2
  nt : 3 * t + 1 ≤ n
  n7 : n ≤ 7
  m1 : 1 ≤ m
  m6 : m ≤ 6
def Pty (n i : Int) : Prop := 1 ≤ i ∧ i ≤ n
def Idx (m a : Int) : Prop := 0 ≤ a ∧ a < m
/-- an address of the round and the sender -/
inductive AddrAt (n t m : Int) : Int → Int → List Int → Prop
  | r1 {i j a u : Int} : Pty n i → Pty n j → j ≠ i → Idx m a → Idx (t + 1) u → AddrAt n t m 1 i [1, i, j, a, u]
  | r2 {j k i a : Int} : Pty n j → Pty n k → k ≠ j → Pty n i → Idx m a → AddrAt n t m 2 j [2, j, k, i, a]
  | r3 {j i k : Int} : Pty n j → Pty n i → Pty n k → k ≠ j → AddrAt n t m 3 j [3, j, 0, i, k]
  | r4 {i j k a : Int} : Pty n i → Pty n j → Pty n k → k ≠ j → Idx m a → AddrAt n t m 4 i [4, i, 0, j, k, a]
  | r5 {j i : Int} : Pty n j → Pty n i → AddrAt n t m 5 j [5, j, 0, i]
  | r6 {i j a u : Int} : Pty n i → Pty n j → Idx m a → Idx (t + 1) u → AddrAt n t m 6 i [6, i, 0, j, a, u]
  | r7 {j i : Int} : Pty n j → Pty n i → AddrAt n t m 7 j [7, j, 0, i]
  | r8 {j a : Int} : Pty n j → Idx m a → AddrAt n t m 8 j [8, j, 0, a]
inductive Chg
  | is (v : Int)
  | add (v : Int)
  | drop
  | copy (x : List Int)
structure Scr where
  foes : List Int
  rules : List (List Int × Chg)
def ChgOk (p n t m : Int) : Chg → Prop
  | .is v => 0 ≤ v ∧ v < p
  | .add v => 0 ≤ v ∧ v < p
  | .drop => True
  | .copy x => ∃ s i, AddrAt n t m s i x
structure ScrOk (p n t m : Int) (s : Scr) : Prop where
  asc : s.foes.Pairwise (· < ·)
  pty : ∀ i ∈ s.foes, Pty n i
  few : (s.foes.length : Int) ≤ t
  len : s.rules.length ≤ 40
  rule : ∀ r ∈ s.rules, (∃ st i, AddrAt n t m st i r.1 ∧ i ∈ s.foes) ∧ ChgOk p n t m r.2
theorem other_ne {n s d : Int} (h2 : 2 ≤ n) (h7 : n ≤ 7) (s1 : 1 ≤ s) (s2 : s ≤ n) (d0 : 0 ≤ d) (d1 : d < n - 1) : Pty n ((s + d) % n + 1) ∧ (s + d) % n + 1 ≠ s := by
  unfold Pty
  rcases (show n = 2 ∨ n = 3 ∨ n = 4 ∨ n = 5 ∨ n = 6 ∨ n = 7 by omega) with rfl | rfl | rfl | rfl | rfl | rfl <;> omega
theorem strict_of_le {l : List Int} (h : l.Pairwise (· ≤ ·)) (nd : l.Nodup) : l.Pairwise (· < ·) := by
  rw [List.nodup_iff_pairwise_ne] at nd
  exact (List.Pairwise.and h nd).imp fun ⟨a, b⟩ => by omega
end M
namespace K1
open PySem PySem.Spec PyProof.Rows L2 Z
def IsChg (K : PySem.W.Frag) (H : Hp) (b : Addr) : M.Chg → Prop
  | .is v => SqT K H b [.str "is", .int v]
  | .add v => SqT K H b [.str "add", .int v]
  | .drop => SqT K H b [.str "drop"]
  | .copy x => ∃ a, SqT K H b [.str "copy", .ref a] ∧ IsT K H a x
def IsRule (K : PySem.W.Frag) (H : Hp) (r : Addr) (x : List Int × M.Chg) : Prop := ∃ a b, SqT K H r [.ref a, .ref b] ∧ IsT K H a x.1 ∧ IsChg K H b x.2
def IsScr (K : PySem.W.Frag) (H : Hp) (v : Addr) (s : M.Scr) : Prop := ∃ f rs as, SqT K H v [.ref f, .ref rs] ∧ IsT K H f s.foes ∧ SqT K H rs (as.map V.ref) ∧ Paired (IsRule K H) as s.rules
/-- tuples stay -/
def TK (K : PySem.W.Frag) (H H' : Hp) : Prop := ∀ a xs, SqT K H a xs → SqT K H' a xs
theorem TK.refl (K : PySem.W.Frag) (H : Hp) : TK K H H := fun _ _ h => h
theorem TK.trans {K : PySem.W.Frag} {H H1 H2 : Hp} (a : TK K H H1) (b : TK K H1 H2) : TK K H H2 := fun x xs h => b x xs (a x xs h)
theorem TK.same {K : PySem.W.Frag} {H H' : Hp} (s : Same H H') : TK K H H' := fun _ _ h => sqt_same s h
theorem TK.but {K : PySem.W.Frag} {H H' : Hp} {c : Addr} {ys : List V} (b : But c H H') (hc : H c = some (.lst ys)) : TK K H H' := fun _ _ h => sqt_but b hc h
theorem IsChg.tk {K : PySem.W.Frag} {H H' : Hp} {b : Addr} {c : M.Chg} (h : IsChg K H b c) (k : TK K H H') : IsChg K H' b c := by
  cases c with
  | is v => exact k _ _ h
  | add v => exact k _ _ h
  | drop => exact k _ _ h
  | copy x =>
    obtain ⟨a, h1, h2⟩ := h
    exact ⟨a, k _ _ h1, k _ _ h2⟩
theorem IsRule.tk {K : PySem.W.Frag} {H H' : Hp} {r : Addr} {x : List Int × M.Chg} (h : IsRule K H r x) (k : TK K H H') : IsRule K H' r x := by
  obtain ⟨a, b, h1, h2, h3⟩ := h
  exact ⟨a, b, k _ _ h1, k _ _ h2, h3.tk k⟩
theorem IsScr.tk {K : PySem.W.Frag} {H H' : Hp} {v : Addr} {s : M.Scr} (h : IsScr K H v s) (k : TK K H H') : IsScr K H' v s := by
  obtain ⟨f, rs, as, h1, h2, h3, h4⟩ := h
  exact ⟨f, rs, as, k _ _ h1, k _ _ h2, k _ _ h3, L2.Paired.mapP h4 fun a x h => h.tk k⟩
theorem IsTT.tk {K : PySem.W.Frag} {H H' : Hp} {a : Addr} {f : List (List Int)} (h : IsTT K H a f) (k : TK K H H') : IsTT K H' a f := by
  obtain ⟨as, e, p⟩ := h
  exact ⟨as, k _ _ e, L2.Paired.mapP p fun a r h => k _ _ h⟩
end K1
namespace Z
open PySem PySem.Spec PyProof.Rows L2 HT
section
variable {prog : Program} {w : World} {A : Around} {E : Value → Shared → Prop} {s : Shared}
theorem adjust_rev (n : Nat) : Builtin.Slice.sliceAdjust none none (-1) (n : Int) = ((n : Int) - 1, -1) := by
  simp [Builtin.Slice.sliceAdjust]
theorem places_rev (n : Nat) : Builtin.Slice.slicePlaces ((n : Int) - 1) (-1) (-1) = n := by
  simp [Builtin.Slice.slicePlaces]
  omega
theorem sliceApplied_rev {sl : Addr} {vs : Value} {n : Nat} {Q : Int × Int × Nat → Shared → Prop} (hs : s.heap.IsSliceOf sl .none .none vs) (ps : PySem.IsPart vs (some (-1)))
    (h : Q ((n : Int) - 1, -1, n) s) : wpAny (model prog w) A (Builtin.Slice.sliceApplied (.ref sl) (pure (n : Int))) Q E s := by
  obtain ⟨os, hos, hcs, hds⟩ := id hs
  unfold Builtin.Slice.sliceApplied Builtin.Slice.sliceFields
  refine wpAny_bind (wpAny_bind (wpAny_field hos hds (x := .none) rfl (wpAny_bind (wpAny_field hos hds (x := .none) rfl (wpAny_bind (wpAny_field hos hds (x := vs) rfl (wpAny_pure ?_)))))))
  refine wpAny_bind (slicePart_ ps ?_)
  show wpAny _ _ (if ((-1 : Int) == 0) = true then _ else _) _ _ s
  rw [if_neg (by decide)]
  refine wpAny_bind (slicePart_ .none (wpAny_bind (slicePart_ .none (wpAny_bind (wpAny_pure ?_)))))
  show wpAny _ _ (match Builtin.Slice.sliceAdjust none none (-1) (n : Int) with | (lo, hi) => pure (lo, (-1 : Int), Builtin.Slice.slicePlaces lo hi (-1))) _ _ s
  rw [adjust_rev]
  show wpAny _ _ (pure ((n : Int) - 1, (-1 : Int), Builtin.Slice.slicePlaces ((n : Int) - 1) (-1) (-1))) _ _ s
  rw [places_rev]
  exact wpAny_pure h
theorem filterMap_congr' {α β : Type} {l : List α} {f g : α → Option β} (h : ∀ a ∈ l, f a = g a) : l.filterMap f = l.filterMap g := by
  induction l with
  | nil => rfl
  | cons a r ih => rw [List.filterMap_cons, List.filterMap_cons, h a (List.mem_cons_self ..), ih fun b m => h b (List.mem_cons_of_mem _ m)]
theorem pick_rev (xs : Array Value) : ((List.range xs.size).filterMap fun (m : Nat) => xs[(((xs.size : Int) - 1) + (m : Int) * (-1)).toNat]?).toArray = xs.toList.reverse.toArray := by
  have h := PySem.W.krv_pick xs
  unfold slicePick at h
  rw [PySem.W.krv_bounds] at h
  have h2 : ((sliceRange ((xs.size : Int) - 1) (-1) (-1)).filterMap (xs[·]?)).toArray = xs.toList.reverse.toArray := h
  rw [PySem.W.krv_sliceRange, List.filterMap_map] at h2
  rw [← h2]
  congr 1
  refine filterMap_congr' fun m hm => ?_
  have := List.mem_range.mp hm
  show xs[(((xs.size : Int) - 1) + (m : Int) * (-1)).toNat]? = xs[xs.size - 1 - m]?
  congr 1
  omega
theorem getItem_tuple_rev {t sl : Addr} {items : Array Value} {vs : Value} {Q : Value → Shared → Prop} (ht : IsTup s.heap t items) (hs : s.heap.IsSliceOf sl .none .none vs) (ps : PySem.IsPart vs (some (-1)))
    (h : Q (.ref s.heap.objs.size) { s with heap := s.heap.push { cls := .type "tuple", data := .seq items.toList.reverse.toArray } })
    (hsz : items.size ≤ sizeLine) : wpAny (model prog w) A (getItem (.ref t) (.ref sl)) Q E s := by
  have htake : sizeOk (.seq items.toList.reverse.toArray) := by
    show items.toList.reverse.toArray.size ≤ sizeLine
    rw [List.size_toArray, List.length_reverse, Array.length_toList]
    exact hsz
  obtain ⟨os, hos, hcs, hds⟩ := id hs
  have hTs : s.TypeIs (.ref sl) "slice" := ⟨os, hos, hcs⟩
  unfold getItem
  try with_reducible refine wpAny_holding ?_
  first | refine wpAny_bind (wpAny_pure ?_) | skip
  refine wpAny_bind (wpAny_sequenceKey ht.typeIs (by decide) ?_)
  refine wpAny_bind (wpAny_callSpecial?_slot (name := Str.ofString "__getitem__") ht.typeIs PyProof.Rows.slot_tuple_getitem
    (wpAny_call_entry PyProof.Rows.slot_tuple_getitem ht.typeIs entry_tuple_getitem ?_ (args_tuple_getitem _ _)))
  show wpAny _ _ (Builtin.Tuple.tupleItemsOf (.ref t) >>= _) _ _ s
  refine wpAny_bind (tupleItemsOf_ ht ?_)
  refine wpAny_bind (wpAny_typeOf hTs ?_)
  rw [if_pos (by decide)]
  refine wpAny_bind (sliceApplied_rev hs ps ?_)
  have hno : ¬ ((((items.size : Int) - 1) == 0 && (-1 : Int) == 1 && items.size == items.size) = true) := by
    intro q
    rw [Bool.and_eq_true, Bool.and_eq_true] at q
    exact absurd q.1.2 (by decide)
  show wpAny _ _ (if (((items.size : Int) - 1) == 0 && (-1 : Int) == 1 && items.size == items.size) = true then _ else _) _ _ s
  rw [if_neg hno, pick_rev]
  first
    | exact wpAny_bind (m := Builtin.Tuple.tupleExact _) (wpAny_newObj_type (wpAny_pure ⟨_, rfl, wpAny_pure h⟩) htake)
    | exact wpAny_bind (m := Builtin.Tuple.tupleExact _) (wpAny_newObj_type (wpAny_bind (wpAny_pure (wpAny_pure ⟨_, rfl, wpAny_pure h⟩))) htake)
    | exact wpAny_bind (wpAny_bind (m := Builtin.Tuple.tupleExact _) (wpAny_newObj_type (wpAny_pure (wpAny_pure ⟨_, rfl, wpAny_pure h⟩)) htake))
    | exact wpAny_bind (wpAny_bind (m := Builtin.Tuple.tupleExact _) (wpAny_newObj_type (wpAny_pure ⟨_, rfl, wpAny_pure h⟩) htake))
end
def tRevT (K : PySem.W.Frag) (te : TE) : TE := fun σ H Q => te σ H fun x H1 => ∃ a xs, x = .ref a ∧ SqT K H1 a xs ∧ ∀ p, H1 p = none → Q (.ref p) (upd H1 p (.tup xs.reverse))
theorem pe_revT {X : Cx} {e : Expr} {te : TE} {k : Nat} {p1 p2 p3 pos : Pos} (he : PE X e te) : PE X (.Subscript e (.Slice none none (some (.UnaryOp .USub (.Constant (.int 1) k p1) p2)) p3) pos) (tRevT X.K te) := by
  refine ⟨fun pins s σ H Q I h => ?_⟩
  refine Subscript_ (thn (he.run pins s σ H _ I h) fun v s1 ⟨x, H1, I1, r1, q1⟩ => ?_)
  obtain ⟨a, xs, ex, hx, q⟩ := q1
  subst ex
  cases r1
  have hst : PO X (some (.UnaryOp .USub (.Constant (.int 1) k p1) p2)) (tPart (tUn (rU fun i => .int (-i)) (tC (.int 1)))) := po_some (pe_un un_neg pe_int)
  refine wpAny_Slice (thn (po_none.run pins s1 σ H1 (fun o H2 => o = none ∧ H2 = H1) I1 ⟨rfl, rfl⟩) fun vl s2 ⟨l, H2, I2, pl, el, e2⟩ => ?_)
  subst el e2
  cases pl
  refine thn (po_none.run pins s2 σ H2 (fun o H3 => o = none ∧ H3 = H2) I2 ⟨rfl, rfl⟩) fun vu s3 ⟨u, H3, I3, pu, eu, e3⟩ => ?_
  subst eu e3
  cases pu
  refine thn (hst.run pins s3 σ H3 (fun o H4 => o = some (-1) ∧ H4 = H3) I3 ⟨1, rfl, -1, rfl, rfl, rfl⟩) fun vs s4 ⟨o, H4, I4, ps, eo, e4⟩ => ?_
  subst eo e4
  have I5 : Inv X pins σ H4 { s4 with heap := s4.heap.push { cls := .type "slice", data := .fields #[.none, .none, vs] } } := I4.kept (t' := s4.toks) fun b ob q => Heap.get?_push_of_some _ q
  obtain ⟨its, r, ht, hz⟩ := I5.tuple hx
  have hlen := r.length
  show wpAny (model X.prog X.w) X.A (subscriptTail e (.Slice none none (some (.UnaryOp .USub (.Constant (.int 1) k p1) p2)) p3) (.ref a) (.ref s4.heap.objs.size)) (EP X pins σ Q) X.xe { s4 with heap := s4.heap.push { cls := .type "slice", data := .fields #[.none, .none, vs] } }
  refine tail_any (ops := [.ref a, .ref s4.heap.objs.size]) ht.typeIs (PyProof.Rows.slot_tuple_getitem.lookup) ?_ (by with_unfolding_all rfl)
  refine getItem_tuple_rev ht (Heap.IsSliceOf.new _ .none .none vs) ps ?_ (by rw [List.size_toArray]; omega)
  refine ⟨.ref _, _, I5.laid (t' := s4.toks) (o := .tup xs.reverse) (fun b ob q => Heap.get?_push_of_some _ q) (Nat.le_refl _) ?_, rfl, q _ (I5.hok.fresh (Nat.le_refl _))⟩
  exact ⟨by rw [List.length_reverse]; exact hz, _, r.reverse, IsTup.new _ _⟩
theorem pe_revTK {X : Cx} (K : PySem.W.Frag) {e : Expr} {te : TE} {k : Nat} {p1 p2 p3 pos : Pos} (he : PE X e te) (ek : X.K = K := by rfl) : PE X (.Subscript e (.Slice none none (some (.UnaryOp .USub (.Constant (.int 1) k p1) p2)) p3) pos) (tRevT K te) := by
  subst ek
  exact pe_revT he
end Z
namespace Z
open PySem PySem.Spec PyProof.Rows L2
section
variable {K : PySem.W.Frag} {H : Hp} {Q : VK}
def RevTW (K : PySem.W.Frag) (x : V) (H : Hp) (Q : VK) : Prop := ∃ a xs, x = .ref a ∧ SqT K H a xs ∧ ∀ p, H p = none → Q (.ref p) (upd H p (.tup xs.reverse))
theorem s_revT {te : TE} {σ : L2.St} (h : te σ H fun x H1 => RevTW K x H1 Q) : tRevT K te σ H Q := h
theorem s_revTv {a : Addr} {xs : List V} (hx : SqT K H a xs) (h : ∀ q H', H q = none → Same H H' → H' q = some (.tup xs.reverse) → Q (.ref q) H') : RevTW K (.ref a) H Q := ⟨a, xs, rfl, hx, s_new h⟩
theorem s_slT {p : Addr} {xs : List V} {lo hi : Option Int} (hx : SqT K H p xs) (h : ∀ q H', Same H H' → SqT K H' q (cutV xs lo hi) → Q (.ref q) H') : rSlA K (.ref p) lo hi H Q := by
  refine ⟨p, xs, rfl, hx, fun hw => h p H (Same.refl H) ?_, fun _ => s_new fun q H' _ s e => h q H' s (SqT.of e)⟩
  have e : cutV xs lo hi = xs := by
    unfold cutV
    rw [hw.1, hw.2, List.drop_zero, Nat.sub_zero, List.take_length]
  rw [e]
  exact hx
end
/-! data that does not change: None, numbers, truth values, texts, tuples -/
mutual
def Im (K : PySem.W.Frag) (H : Hp) : PyData → V → Prop
  | .none, v => v = .non
  | .bool b, v => v = .bl b
  | .int i, v => v = .int i
  | .str s, v => v = .str s
  | .tuple ds, v => ∃ a vs, v = .ref a ∧ SqT K H a vs ∧ Ims K H ds vs
  | .list _, _ => False
  | .dict _, _ => False
def Ims (K : PySem.W.Frag) (H : Hp) : List PyData → List V → Prop
  | [], vs => vs = []
  | d :: ds, vs => ∃ v r, vs = v :: r ∧ Im K H d v ∧ Ims K H ds r
end
section
variable {K : PySem.W.Frag} {H H' : Hp}
mutual
theorem Im.tk (k : K1.TK K H H') : ∀ (d : PyData) (v : V), Im K H d v → Im K H' d v
  | .none, _, h => h
  | .bool _, _, h => h
  | .int _, _, h => h
  | .str _, _, h => h
  | .tuple ds, v, h => by
    obtain ⟨a, vs, e, s, i⟩ := h
    exact ⟨a, vs, e, k _ _ s, Ims.tk k ds vs i⟩
  | .list _, _, h => h.elim
  | .dict _, _, h => h.elim
theorem Ims.tk (k : K1.TK K H H') : ∀ (ds : List PyData) (vs : List V), Ims K H ds vs → Ims K H' ds vs
  | [], _, h => h
  | d :: ds, vs, h => by
    obtain ⟨v, r, e, i, is⟩ := h
    exact ⟨v, r, e, Im.tk k d v i, Ims.tk k ds r is⟩
end
mutual
theorem Im.dp : ∀ (d : PyData) (v : V), Im K H d v → Dp K H v d
  | .none, _, h => by cases (show _ = _ from h); exact .non
  | .bool b, _, h => by cases (show _ = _ from h); exact .bl b
  | .int i, _, h => by cases (show _ = _ from h); exact .int i
  | .str s, _, h => by cases (show _ = _ from h); exact .str s
  | .tuple ds, v, h => by
    obtain ⟨a, vs, e, s, i⟩ := h
    subst e
    exact .tup s (Ims.dp ds vs i)
  | .list _, _, h => h.elim
  | .dict _, _, h => h.elim
theorem Ims.dp : ∀ (ds : List PyData) (vs : List V), Ims K H ds vs → DpAll K H vs ds
  | [], _, h => by cases (show _ = _ from h); exact .nil
  | d :: ds, vs, h => by
    obtain ⟨v, r, e, i, is⟩ := h
    subst e
    exact .cons (Im.dp d v i) (Ims.dp ds r is)
end
theorem Ims.length : ∀ {ds : List PyData} {vs : List V}, Ims K H ds vs → vs.length = ds.length
  | [], _, h => by cases (show _ = _ from h); rfl
  | d :: ds, vs, h => by
    obtain ⟨v, r, e, i, is⟩ := h
    subst e
    show r.length + 1 = ds.length + 1
    rw [Ims.length is]
theorem Ims.get : ∀ {ds : List PyData} {vs : List V}, Ims K H ds vs → ∀ {i : Nat} {v : V}, vs[i]? = some v → ∃ d, ds[i]? = some d ∧ Im K H d v
  | [], _, h, i, v, e => by cases (show _ = _ from h); simp at e
  | d :: ds, vs, h, i, v, e => by
    obtain ⟨v', r, e', im, is⟩ := h
    subst e'
    cases i with
    | zero =>
      have : v' = v := by simpa using e
      exact ⟨d, rfl, this ▸ im⟩
    | succ i => exact Ims.get is (i := i) (by simpa using e)
theorem Ims.at : ∀ {ds : List PyData} {vs : List V}, Ims K H ds vs → ∀ {i : Nat} {d : PyData}, ds[i]? = some d → ∃ v, vs[i]? = some v ∧ Im K H d v
  | [], _, h, i, d, e => by simp at e
  | d' :: ds, vs, h, i, d, e => by
    obtain ⟨v', r, e', im, is⟩ := h
    subst e'
    cases i with
    | zero =>
      have : d' = d := by simpa using e
      exact ⟨v', rfl, this ▸ im⟩
    | succ i => exact Ims.at is (i := i) (by simpa using e)
theorem Ims.app : ∀ {ds es : List PyData} {vs us : List V}, Ims K H ds vs → Ims K H es us → Ims K H (ds ++ es) (vs ++ us)
  | [], _, _, _, h, g => by cases (show _ = _ from h); exact g
  | d :: ds, es, vs, us, h, g => by
    obtain ⟨v, r, e, i, is⟩ := h
    subst e
    exact ⟨v, r ++ us, rfl, i, Ims.app is g⟩
theorem Ims.one {d : PyData} {v : V} (h : Im K H d v) : Ims K H [d] [v] := ⟨v, [], rfl, h, rfl⟩
theorem Ims.drop : ∀ {ds : List PyData} {vs : List V}, Ims K H ds vs → ∀ i, Ims K H (ds.drop i) (vs.drop i)
  | [], _, h, i => by cases (show _ = _ from h); rw [List.drop_nil, List.drop_nil]; exact rfl
  | d :: ds, vs, h, 0 => h
  | d :: ds, vs, h, i + 1 => by
    obtain ⟨v, r, e, im, is⟩ := h
    subst e
    exact Ims.drop is i
theorem Ims.take : ∀ {ds : List PyData} {vs : List V}, Ims K H ds vs → ∀ i, Ims K H (ds.take i) (vs.take i)
  | [], _, h, i => by cases (show _ = _ from h); rw [List.take_nil, List.take_nil]; exact rfl
  | d :: ds, vs, h, 0 => rfl
  | d :: ds, vs, h, i + 1 => by
    obtain ⟨v, r, e, im, is⟩ := h
    subst e
    exact ⟨v, r.take i, rfl, im, Ims.take is i⟩
theorem Ims.rev : ∀ {ds : List PyData} {vs : List V}, Ims K H ds vs → Ims K H ds.reverse vs.reverse
  | [], _, h => by cases (show _ = _ from h); exact rfl
  | d :: ds, vs, h => by
    obtain ⟨v, r, e, im, is⟩ := h
    subst e
    rw [List.reverse_cons, List.reverse_cons]
    exact (Ims.rev is).app (Ims.one im)
/-- what isinstance(x, tuple) says -/
def isTup : PyData → Bool
  | .tuple _ => true
  | _ => false
end
/-! isinstance -/
def clsOf : PyData → String
  | .none => "NoneType"
  | .bool _ => "bool"
  | .int _ => "int"
  | .str _ => "str"
  | .list _ => "list"
  | .tuple _ => "tuple"
  | .dict _ => "dict"
section
variable {K : PySem.W.Frag} {H : Hp} {Q : VK}
theorem Im.tyx : ∀ {d : PyData} {v : V}, Im K H d v → TyX K H v (.type (clsOf d))
  | .none, _, h => by cases (show _ = _ from h); exact .base .non
  | .bool b, _, h => by cases (show _ = _ from h); exact .base (.bl b)
  | .int i, _, h => by cases (show _ = _ from h); exact .base (.int i)
  | .str s, _, h => by cases (show _ = _ from h); exact .base (.str s)
  | .tuple ds, v, h => by
    obtain ⟨a, vs, e, s, i⟩ := h
    subst e
    rcases s with (s | ⟨o, s⟩) | ⟨o, t, n, s, c, _⟩
    · exact .base (.tup s)
    · exact .fTuple s
    · exact .kTuple s c
  | .list _, _, h => h.elim
  | .dict _, _, h => h.elim
theorem s_isiD {d : PyData} {v : V} {c : String} {b : Bool} (h : Im K H d v) (e : kitB (clsOf d) c = some b) (q : Q (.bl b) H) : rIsi K [v, .ty c] H Q := ⟨_, _, _, _, b, rfl, .ty c, h.tyx, kit_ty e, q⟩
theorem kit_tup : ∀ d : PyData, kitB (clsOf d) "tuple" = some (isTup d)
  | .none => (by decide +kernel : kitB "NoneType" "tuple" = some false)
  | .bool _ => (by decide +kernel : kitB "bool" "tuple" = some false)
  | .int _ => (by decide +kernel : kitB "int" "tuple" = some false)
  | .str _ => (by decide +kernel : kitB "str" "tuple" = some false)
  | .list _ => (by decide +kernel : kitB "list" "tuple" = some false)
  | .tuple _ => (by decide +kernel : kitB "tuple" "tuple" = some true)
  | .dict _ => (by decide +kernel : kitB "dict" "tuple" = some false)
def isStr : PyData → Bool
  | .str _ => true
  | _ => false
def isInt : PyData → Bool
  | .int _ => true
  | .bool _ => true
  | _ => false
def isBool : PyData → Bool
  | .bool _ => true
  | _ => false
theorem kit_str : ∀ d : PyData, kitB (clsOf d) "str" = some (isStr d)
  | .none => (by decide +kernel : kitB "NoneType" "str" = some false)
  | .bool _ => (by decide +kernel : kitB "bool" "str" = some false)
  | .int _ => (by decide +kernel : kitB "int" "str" = some false)
  | .str _ => (by decide +kernel : kitB "str" "str" = some true)
  | .list _ => (by decide +kernel : kitB "list" "str" = some false)
  | .tuple _ => (by decide +kernel : kitB "tuple" "str" = some false)
  | .dict _ => (by decide +kernel : kitB "dict" "str" = some false)
theorem kit_int : ∀ d : PyData, kitB (clsOf d) "int" = some (isInt d)
  | .none => (by decide +kernel : kitB "NoneType" "int" = some false)
  | .bool _ => (by decide +kernel : kitB "bool" "int" = some true)
  | .int _ => (by decide +kernel : kitB "int" "int" = some true)
  | .str _ => (by decide +kernel : kitB "str" "int" = some false)
  | .list _ => (by decide +kernel : kitB "list" "int" = some false)
  | .tuple _ => (by decide +kernel : kitB "tuple" "int" = some false)
  | .dict _ => (by decide +kernel : kitB "dict" "int" = some false)
theorem kit_bool : ∀ d : PyData, kitB (clsOf d) "bool" = some (isBool d)
  | .none => (by decide +kernel : kitB "NoneType" "bool" = some false)
  | .bool _ => (by decide +kernel : kitB "bool" "bool" = some true)
  | .int _ => (by decide +kernel : kitB "int" "bool" = some false)
  | .str _ => (by decide +kernel : kitB "str" "bool" = some false)
  | .list _ => (by decide +kernel : kitB "list" "bool" = some false)
  | .tuple _ => (by decide +kernel : kitB "tuple" "bool" = some false)
  | .dict _ => (by decide +kernel : kitB "dict" "bool" = some false)
theorem s_isT {d : PyData} {v : V} (h : Im K H d v) (q : Q (.bl (isTup d)) H) : rIsi K [v, .ty "tuple"] H Q := s_isiD h (kit_tup d) q
theorem s_isS {d : PyData} {v : V} (h : Im K H d v) (q : Q (.bl (isStr d)) H) : rIsi K [v, .ty "str"] H Q := s_isiD h (kit_str d) q
theorem s_isI {d : PyData} {v : V} (h : Im K H d v) (q : Q (.bl (isInt d)) H) : rIsi K [v, .ty "int"] H Q := s_isiD h (kit_int d) q
theorem s_isB {d : PyData} {v : V} (h : Im K H d v) (q : Q (.bl (isBool d)) H) : rIsi K [v, .ty "bool"] H Q := s_isiD h (kit_bool d) q
end
/-! sizes, heights -/
mutual
def sz : PyData → Nat
  | .tuple ds => 1 + szs ds
  | .list ds => 1 + szs ds
  | .none => 1
  | .bool _ => 1
  | .int _ => 1
  | .str _ => 1
  | .dict _ => 1
def szs : List PyData → Nat
  | [] => 0
  | d :: ds => sz d + szs ds
end
mutual
def ht : PyData → Nat
  | .tuple ds => 1 + hts ds
  | .list ds => 1 + hts ds
  | .none => 1
  | .bool _ => 1
  | .int _ => 1
  | .str _ => 1
  | .dict _ => 1
def hts : List PyData → Nat
  | [] => 0
  | d :: ds => max (ht d) (hts ds)
end
/-- a text that can be laid, not a long one -/
def strS (x : Str) : Bool := PyData.canLay0 (.str x) && decide (x.length ≤ 1000)
/-! what the laws' data are -/
mutual
def pl : PyData → Bool
  | .tuple ds => pls ds
  | .none => true
  | .int _ => true
  | .str x => strS x
  | .bool _ => false
  | .list _ => false
  | .dict _ => false
def pls : List PyData → Bool
  | [] => true
  | d :: ds => pl d && pls ds
end
mutual
theorem pl_lay : ∀ d : PyData, pl d = true → d.canLay0 = true
  | .tuple ds, h => by
    have h' : pls ds = true := h
    have := pls_lay ds h'
    simpa [PyData.canLay0] using this
  | .none, _ => rfl
  | .int _, _ => rfl
  | .str x, h => ((Bool.and_eq_true _ _).mp h).1
  | .bool _, h => by cases h
  | .list _, h => by cases h
  | .dict _, h => by cases h
theorem pls_lay : ∀ ds : List PyData, pls ds = true → PyData.canLayAll0 ds = true
  | [], _ => rfl
  | d :: ds, h => by
    have h' : (pl d && pls ds) = true := h
    rw [Bool.and_eq_true] at h'
    rw [PyData.canLayAll0, pl_lay d h'.1, pls_lay ds h'.2]
    rfl
end
mutual
theorem pl_noB : ∀ d : PyData, pl d = true → noB d = true
  | .tuple ds, h => by
    have h' : pls ds = true := h
    have := pls_noB ds h'
    simpa [noB] using this
  | .none, _ => rfl
  | .int _, _ => rfl
  | .str x, h => rfl
  | .bool _, h => by cases h
  | .list _, h => by cases h
  | .dict _, h => by cases h
theorem pls_noB : ∀ ds : List PyData, pls ds = true → noBs ds = true
  | [], _ => rfl
  | d :: ds, h => by
    have h' : (pl d && pls ds) = true := h
    rw [Bool.and_eq_true] at h'
    rw [noBs, pl_noB d h'.1, pls_noB ds h'.2]
    rfl
end
theorem pls_mem {ds : List PyData} : pls ds = true ↔ ∀ d ∈ ds, pl d = true := by
  induction ds with
  | nil => exact ⟨fun _ d h => (by cases h), fun _ => rfl⟩
  | cons a r ih =>
    show (pl a && pls r) = true ↔ _
    rw [Bool.and_eq_true, ih]
    exact ⟨fun h d m => by rcases List.mem_cons.mp m with m | m; exact m ▸ h.1; exact h.2 d m, fun h => ⟨h a (List.mem_cons_self ..), fun d m => h d (List.mem_cons_of_mem _ m)⟩⟩
theorem szs_app : ∀ ds es : List PyData, szs (ds ++ es) = szs ds + szs es
  | [], es => by
    show szs es = 0 + szs es
    omega
  | d :: ds, es => by
    show sz d + szs (ds ++ es) = sz d + szs ds + szs es
    rw [szs_app ds es]
    omega
theorem hts_app : ∀ ds es : List PyData, hts (ds ++ es) = max (hts ds) (hts es)
  | [], es => by
    show hts es = max 0 (hts es)
    omega
  | d :: ds, es => by
    show max (ht d) (hts (ds ++ es)) = max (max (ht d) (hts ds)) (hts es)
    rw [hts_app ds es]
    omega
theorem sz_pos : ∀ d : PyData, 1 ≤ sz d
  | .tuple ds => Nat.le_add_right ..
  | .list ds => Nat.le_add_right ..
  | .none => Nat.le_refl _
  | .bool _ => Nat.le_refl _
  | .int _ => Nat.le_refl _
  | .str _ => Nat.le_refl _
  | .dict _ => Nat.le_refl _
theorem ht_pos : ∀ d : PyData, 1 ≤ ht d
  | .tuple ds => Nat.le_add_right ..
  | .list ds => Nat.le_add_right ..
  | .none => Nat.le_refl _
  | .bool _ => Nat.le_refl _
  | .int _ => Nat.le_refl _
  | .str _ => Nat.le_refl _
  | .dict _ => Nat.le_refl _
theorem len_szs : ∀ ds : List PyData, ds.length ≤ szs ds
  | [] => Nat.le_refl _
  | d :: ds => by
    have h1 := len_szs ds
    have h2 := sz_pos d
    show ds.length + 1 ≤ sz d + szs ds
    omega
theorem mem_sz : ∀ {ds : List PyData} {d : PyData}, d ∈ ds → sz d ≤ szs ds ∧ ht d ≤ hts ds
  | a :: r, d, m => by
    show sz d ≤ sz a + szs r ∧ ht d ≤ max (ht a) (hts r)
    rcases List.mem_cons.mp m with e | m
    · subst e
      omega
    · have := mem_sz m
      omega
/-- bounded data -/
structure Bd (h s : Nat) (d : PyData) : Prop where
  ht : ht d ≤ h
  sz : sz d ≤ s
  pl : pl d = true
theorem Bd.part {h s : Nat} {ds : List PyData} (b : Bd h s (.tuple ds)) {d : PyData} (m : d ∈ ds) : Bd h s d := by
  have h1 : 1 + hts ds ≤ h := b.ht
  have h2 : 1 + szs ds ≤ s := b.sz
  have h3 : pls ds = true := b.pl
  have := mem_sz m
  exact ⟨by omega, by omega, pls_mem.mp h3 d m⟩
theorem Bd.mono {h s h' s' : Nat} {d : PyData} (b : Bd h s d) (e : h ≤ h') (f : s ≤ s') : Bd h' s' d := ⟨Nat.le_trans b.ht e, Nat.le_trans b.sz f, b.pl⟩
theorem sub_szs : ∀ {ds es : List PyData}, ds.Sublist es → szs ds ≤ szs es ∧ hts ds ≤ hts es ∧ (pls es = true → pls ds = true)
  | _, _, .slnil => ⟨Nat.le_refl _, Nat.le_refl _, fun h => h⟩
  | _, _, .cons (l₁ := l₁) (l₂ := l₂) a s => by
    have := sub_szs s
    refine ⟨?_, ?_, fun h => ?_⟩
    · show szs l₁ ≤ sz a + szs l₂
      omega
    · show hts l₁ ≤ max (ht a) (hts l₂)
      omega
    · have h' : (pl a && pls l₂) = true := h
      rw [Bool.and_eq_true] at h'
      exact this.2.2 h'.2
  | _, _, .cons₂ (l₁ := l₁) (l₂ := l₂) a s => by
    have := sub_szs s
    refine ⟨?_, ?_, fun h => ?_⟩
    · show sz a + szs l₁ ≤ sz a + szs l₂
      omega
    · show max (ht a) (hts l₁) ≤ max (ht a) (hts l₂)
      omega
    · have h' : (pl a && pls l₂) = true := h
      rw [Bool.and_eq_true] at h'
      show (pl a && pls l₁) = true
      rw [h'.1, this.2.2 h'.2]
      rfl
end Z
namespace Z
open PySem PySem.Spec PyProof.Rows L2
open Sem (wp)
set_option maxRecDepth 8000 in
theorem list_extend_tup (l : Addr) (items : Array Value) (n : Nat) (b : Addr) (items2 : Array Value) (n2 : Nat) (bd : Option Addr) (bs : Array (Option Value)) (hs0 : ¬(!items.isEmpty && Builtin.List.listTooLong (items.size + items2.size)) = true) (hs1 : items.size ≤ sizeLine) (hs2 : items.size + items2.size ≤ sizeLine + 1) :
    Meets (Builtin.«list.extend» ⟨[.ref l, .ref b], []⟩) (fun _ R s => s.heap.get? l = some { cls := .type "list", dict := none, data := .seq items n, slots := #[] } ∧ s.heap.get? b = some { cls := .type "tuple", dict := bd, data := .seq items2 n2, slots := bs } ∧ R (.ok (.ret Value.none)) { s with heap := s.heap.update l (Obj.mapSeq fun x => x ++ items2), toks := s.toks }) :=
  .of_wp fun prog w A R s h => by
    obtain ⟨hp, g, d, tk, os⟩ := s; obtain ⟨hl, hb, h⟩ := h; have f1 := PySem.AutoSeq1.idx_int; have f2 := PySem.AutoSeq1.sub_tuple_tuple; have f3 := PySem.AutoSeq1.sub_list_list; have f4 := PySem.AutoSeq1.sub_tuple_list; have f5 := PySem.AutoSeq1.sub_list_tuple;
    have hz' : (items ++ items2).size ≤ sizeLine + 1 := by rw [Array.size_append]; exact hs2
    wp_walk using (wpAny_updateSeq hl rfl (hz := hs1) (_hz' := hz')), wpAny_loadPart' hl, wpAny_loadPart' hb; exact ⟨_, rfl, h⟩
def rIsB : R2 := fun x y H Q => ∃ a b, x = .bl a ∧ y = .bl b ∧ Q (.bl (decide (a = b))) H
def rNotB : R2 := fun x y H Q => ∃ a b, x = .bl a ∧ y = .bl b ∧ Q (.bl (!decide (a = b))) H
theorem op_isBn {X : Cx} : OpR X (compareOp .Is) rIsB := op_is_bl
theorem op_notBn {X : Cx} : OpR X (compareOp .IsNot) rNotB := op_isnot_bl
theorem s_isB2 {a b : Bool} {H : Hp} {Q : VK} (h : Q (.bl (decide (a = b))) H) : rIsB (.bl a) (.bl b) H Q := ⟨a, b, rfl, rfl, h⟩
theorem s_notB2 {a b : Bool} {H : Hp} {Q : VK} (h : Q (.bl (!decide (a = b))) H) : rNotB (.bl a) (.bl b) H Q := ⟨a, b, rfl, rfl, h⟩
theorem s_truB {K : PySem.W.Frag} {b : Bool} {H : Hp} {F : Bool → Hp → Prop} (h : F b H) : IsTru K (.bl b) H F := ⟨b, rfl, h⟩
theorem op_repTK {X : Cx} (K : PySem.W.Frag) (e : X.K = K := by rfl) : OpR X (binaryOp .Mult) (rRepT K) := by subst e; exact op_repT
/-- xs.extend(t), t a tuple -/
def rExtT (K : PySem.W.Frag) : V → List V → Hp → VK → Prop := fun x vs H Q => ∃ l b xs zs, x = .ref l ∧ vs = [.ref b] ∧ H l = some (.lst xs) ∧ SqT K H b zs ∧ xs.length + zs.length ≤ sizeLine ∧ Q .non (upd H l (.lst (xs ++ zs)))
theorem mt_extT {X : Cx} : MtM X "list.extend" (rExtT X.K) := by
  intro pins s σ H x vs v us Q I rx rv h
  obtain ⟨l, b, xs, zs, rfl, rfl, hH, hB, hz, q⟩ := h
  cases rx
  obtain ⟨u, rfl, ru⟩ := rv.one
  cases ru
  obtain ⟨z, its, n, r, hl, e⟩ := I.lstM hH
  obtain ⟨its2, r2, ⟨o, ho, hc, n2, hd⟩, z2⟩ := I.tuple hB
  have hl2 := r2.length
  obtain ⟨oc, od, dt, sl⟩ := o
  simp only at hc hd
  subst hc hd
  have hsz : its.toArray.size + its2.toArray.size ≤ sizeLine := by rw [List.size_toArray, List.size_toArray]; omega
  have hlong : ¬ (!its.toArray.isEmpty && Builtin.List.listTooLong (its.toArray.size + its2.toArray.size)) = true := by
    rw [notLongL hsz, Bool.and_false]
    exact Bool.false_ne_true
  refine call_meets F.slot_list_extend ⟨_, e, rfl⟩ F.entry_list_extend (F.args_list_extend_2 _ _)
    (list_extend_tup l its.toArray n b its2.toArray n2 od sl hlong (by rw [List.size_toArray]; omega) (by omega)) ⟨e, ho, ?_⟩
  refine ⟨.non, _, I.lset (its' := its ++ its2) hH e (by simp) (r.append r2) ?_, rfl, q⟩
  rw [List.length_append]
  omega
theorem mt_extTK {X : Cx} (K : PySem.W.Frag) (e : X.K = K := by rfl) : MtM X "list.extend" (rExtT K) := by subst e; exact mt_extT
section
variable {K : PySem.W.Frag} {H : Hp} {Q : VK}
theorem s_extT {p b : Addr} {xs zs : List V} (hx : H p = some (.lst xs)) (hb : SqT K H b zs) (hz : xs.length + zs.length ≤ sizeLine) (h : ∀ H', But p H H' → H' p = some (.lst (xs ++ zs)) → Q .non H') : rExtT K (.ref p) [.ref b] H Q := ⟨p, b, xs, zs, rfl, rfl, hx, hb, hz, h _ But.upd upd_same⟩
end
/-- == of data, one side at most 64 deep -/
def rEqM (K : PySem.W.Frag) : R2 := fun x y H Q => ∃ d e, Dp K H x d ∧ Dp K H y e ∧ d.canLay0 = true ∧ e.canLay0 = true ∧ min d.depth e.depth ≤ 64 ∧ Q (.bl (PyData.eqv d e)) H
theorem op_eqM {X : Cx} (hu : X.A.units + 64 < cLine) : OpR X (compareOp .Eq) (rEqM X.K) := by
  intro pins s σ H x y v u Q I rx ry h
  obtain ⟨d, e, hd, he, sd, se, hm, q⟩ := h
  obtain ⟨as, r1⟩ := Dp.reads I d x v hd rx
  obtain ⟨bs, r2⟩ := Dp.reads I e y u he ry
  exact SeqAt.compareEq_reads r1 r2 sd se (by omega) ⟨.bl _, H, I, rfl, q⟩
theorem op_eqMK {X : Cx} (K : PySem.W.Frag) (hu : X.A.units + 64 < cLine) (e : X.K = K := by rfl) : OpR X (compareOp .Eq) (rEqM K) := by subst e; exact op_eqM hu
end Z
namespace Z
open PySem PySem.Spec PyProof.Rows L2
/-! constants of the top: numbers, tables of tuples by numbers -/
theorem pe_globE {X : Cx} {x : Str} {pos : Pos} {v : V} (hg : Gl X x) (h : ∃ u, X.mg x = some u ∧ RelV v u) (hd : (x == ("__debug__" : Str)) = false := by decide) : PE X (.Name x pos) (tC v) := by
  obtain ⟨u, hm, r⟩ := h
  exact pe_glob hg hm r hd
def refAt (mg : Str → Option Value) (x : Str) : Addr := match mg x with
  | some (.ref a) => a
  | _ => 0
def rowsOf : List DictEntry → Option (List (Int × Addr))
  | [] => some []
  | ⟨h, .int i _, .ref a⟩ :: r => if h = hashInt i then (rowsOf r).map ((i, a) :: ·) else none
  | _ => none
/-- at a stands a table of the top: numbers, and tuples of the top -/
def WInt (K : PySem.W.Frag) (a : Addr) (rows : List (Int × Addr)) : Prop :=
  ∃ es n, K.lookup a = some ⟨.type "dict", none, .dict es n, #[]⟩ ∧ rowsOf es.toList = some rows ∧ (a == sysModules) = false
/-- at b stands a tuple of the top -/
def WTup (K : PySem.W.Frag) (b : Addr) (xs : List V) : Prop :=
  ∃ (o : Obj) (its : Array Value) (n : Nat), K.lookup b = some o ∧ o.cls = .type "tuple" ∧ o.data = .seq its n ∧ its.size ≤ sizeLine ∧ Vals xs its.toList
theorem WTup.sq {K : PySem.W.Frag} {H : Hp} {b : Addr} {xs : List V} (h : WTup K b xs) : SqT K H b xs := .inr h
theorem RelV.of_abs {x : V} {u : Value} (e : absV u = some x) : RelV x u := by
  cases u <;> first | (cases e; first | rfl | exact ⟨_, rfl⟩) | cases e
theorem Vals.of_abs : ∀ {xs : List V} {us : List Value}, us.map absV = xs.map some → Vals xs us
  | [], [], _ => .nil
  | [], _ :: _, h => by cases h
  | _ :: _, [], h => by cases h
  | x :: xs, u :: us, h => by
    injection h with h1 h2
    exact .cons (RelV.of_abs h1) (Vals.of_abs h2)
theorem wtup_mk {K : PySem.W.Frag} {b : Addr} {xs : List V} {dd : Option Addr} {its : Array Value} {n : Nat} {sl : Array (Option Value)} (l : K.lookup b = some ⟨.type "tuple", dd, .seq its n, sl⟩) (z : xs.length ≤ 1000) (e : its.toList.map absV = xs.map some) : WTup K b xs := by
  have line : (1000 : Nat) < sizeLine := by decide
  have el := congrArg List.length e
  rw [List.length_map, List.length_map, Array.length_toList] at el
  exact ⟨_, its, n, l, rfl, rfl, by omega, Vals.of_abs e⟩
theorem wint_mk {K : PySem.W.Frag} {a : Addr} {es : Array DictEntry} {n : Nat} {rows : List (Int × Addr)} (l : K.lookup a = some ⟨.type "dict", none, .dict es n, #[]⟩) (e : rowsOf es.toList = some rows) (h : (a == sysModules) = false) : WInt K a rows := ⟨es, n, l, e, h⟩
theorem rows_keys {prog : Program} {w : World} : ∀ {l : List DictEntry} {rows : List (Int × Addr)}, rowsOf l = some rows → ∀ e ∈ l, ∃ k, (intKind prog w).is k e.key = true ∧ e.hash = (intKind prog w).hash k
  | [], _, _, _, m => by cases m
  | ⟨h, .int i t, .ref a⟩ :: r, rows, e, x, m => by
    have e' : (if h = hashInt i then (rowsOf r).map ((i, a) :: ·) else none) = some rows := e
    by_cases hh : h = hashInt i
    · rw [if_pos hh] at e'
      cases er : rowsOf r with
      | none => rw [er] at e'; cases e'
      | some rr =>
        rcases List.mem_cons.mp m with m | m
        · subst m
          exact ⟨i, (by simp [intKind, Value.isInt]), hh⟩
        · exact rows_keys er x m
    · rw [if_neg hh] at e'
      cases e'
theorem rows_find {prog : Program} {w : World} : ∀ {l : List DictEntry} {rows : List (Int × Addr)}, rowsOf l = some rows → ∀ k : Int, (l.find? fun e => (intKind prog w).is k e.key).map (·.val) = (rows.lookup k).map Value.ref
  | [], rows, e, k => by
    have : rows = [] := by injection e with e; exact e.symm
    subst this
    rfl
  | ⟨h, .int i t, .ref a⟩ :: r, rows, e, k => by
    have e' : (if h = hashInt i then (rowsOf r).map ((i, a) :: ·) else none) = some rows := e
    by_cases hh : h = hashInt i
    · rw [if_pos hh] at e'
      cases er : rowsOf r with
      | none => rw [er] at e'; cases e'
      | some rr =>
        rw [er] at e'
        have : rows = (i, a) :: rr := by injection e' with e'; exact e'.symm
        subst this
        rw [List.find?_cons, List.lookup_cons]
        by_cases hk : k = i
        · subst hk
          rw [show (intKind prog w).is k (Value.int k t) = true by simp [intKind, Value.isInt], beq_self_eq_true]
          rfl
        · rw [show (intKind prog w).is k (Value.int i t) = false by simp [intKind, Value.isInt]; exact fun z => hk z.symm, beq_eq_false_iff_ne.mpr hk]
          exact rows_find er k
    · rw [if_neg hh] at e'
      cases e'
theorem WInt.map {K : PySem.W.Frag} {prog : Program} {w : World} {h : Heap} {a : Addr} {rows : List (Int × Addr)} (X : K.In h) (W : WInt K a rows) : h.MapOf (intKind prog w) a (fun k => (rows.lookup k).map Value.ref) := by
  obtain ⟨es, n, l, e, _⟩ := W
  refine ⟨_, es, n, X _ _ l, ⟨rfl, rfl, rfl⟩, rfl, fun x hx => rows_keys e x (Array.mem_toList_iff.mpr hx), fun k => ?_⟩
  have := rows_find (prog := prog) (w := w) e k
  obtain ⟨l⟩ := es
  show findBy (intKind prog w).is _ k = (rows.lookup k).map Value.ref
  rw [← this]
  unfold findBy
  rw [List.find?_toArray]
def rIxW (K : PySem.W.Frag) : R2 := fun x y H Q => ∃ p k rows b, x = .ref p ∧ y = .int k ∧ WInt K p rows ∧ rows.lookup k = some b ∧ Q (.ref b) H
def rInW (K : PySem.W.Frag) : R2 := fun x y H Q => ∃ p k rows, x = .int k ∧ y = .ref p ∧ WInt K p rows ∧ Q (.bl (rows.lookup k).isSome) H
def rNInW (K : PySem.W.Frag) : R2 := fun x y H Q => ∃ p k rows, x = .int k ∧ y = .ref p ∧ WInt K p rows ∧ Q (.bl (!(rows.lookup k).isSome)) H
section
variable {X : Cx}
theorem ix_wint : IxR X (rIxW X.K) := by
  intro value slice pins s σ H x y v u Q I rx ry h hs
  obtain ⟨p, k, rows, b, rfl, rfl, W, e, q⟩ := h
  obtain rfl : v = Value.ref p := rx
  obtain ⟨t, rfl⟩ := ry
  have hm := W.map (prog := X.prog) (w := X.w) I.kIn
  exact tail_any hm.typeIs slot_dict_getitem.lookup (wpAny_getItem_of (show (intKind X.prog X.w).is k (Value.int k t) = true by simp [intKind, Value.isInt]) hm (by rw [e]; rfl) ⟨.ref b, H, I.tok _, rfl, q⟩) hs
theorem op_inW : OpR X (compareOp .In) (rInW X.K) := by
  intro pins s σ H x y v u Q I rx ry h
  obtain ⟨p, k, rows, rfl, rfl, W, q⟩ := h
  obtain rfl : u = Value.ref p := ry
  obtain ⟨t, rfl⟩ := rx
  have hm := W.map (prog := X.prog) (w := X.w) I.kIn
  obtain ⟨_, _, _, _, hd⟩ := W
  refine wpAny_in_of (show (intKind X.prog X.w).is k (Value.int k t) = true by simp [intKind, Value.isInt]) hd hm ?_
  refine ⟨.bl _, H, I.tok _, rfl, ?_⟩
  rw [Option.isSome_map]
  exact q
theorem op_ninW : OpR X (compareOp .NotIn) (rNInW X.K) := by
  intro pins s σ H x y v u Q I rx ry h
  obtain ⟨p, k, rows, rfl, rfl, W, q⟩ := h
  obtain rfl : u = Value.ref p := ry
  obtain ⟨t, rfl⟩ := rx
  have hm := W.map (prog := X.prog) (w := X.w) I.kIn
  obtain ⟨_, _, _, _, hd⟩ := W
  refine wpAny_notIn_of (show (intKind X.prog X.w).is k (Value.int k t) = true by simp [intKind, Value.isInt]) hd hm ?_
  refine ⟨.bl _, H, I.tok _, rfl, ?_⟩
  rw [Option.isSome_map]
  exact q
end
section
variable {X : Cx} (K : PySem.W.Frag)
theorem ix_wintK (e : X.K = K := by rfl) : IxR X (rIxW K) := by subst e; exact ix_wint
theorem op_inWK (e : X.K = K := by rfl) : OpR X (compareOp .In) (rInW K) := by subst e; exact op_inW
theorem op_ninWK (e : X.K = K := by rfl) : OpR X (compareOp .NotIn) (rNInW K) := by subst e; exact op_ninW
end
section
variable {K : PySem.W.Frag} {H : Hp} {Q : VK} {σ : L2.St}
theorem s_ixW {p : Addr} {k : Int} {rows : List (Int × Addr)} {b : Addr} (W : WInt K p rows) (e : rows.lookup k = some b) (h : Q (.ref b) H) : rIxW K (.ref p) (.int k) H Q := ⟨p, k, rows, b, rfl, rfl, W, e, h⟩
theorem s_ninW {p : Addr} {k : Int} {rows : List (Int × Addr)} (W : WInt K p rows) (h : Q (.bl (!(rows.lookup k).isSome)) H) : rNInW K (.int k) (.ref p) H Q := ⟨p, k, rows, rfl, rfl, W, h⟩
theorem s_chain {r r' : R2} {ta tb tc : TE} (h : ta σ H fun x H1 => tb σ H1 fun y H2 => r x y H2 fun z H3 => IsBl z H3 fun k H4 => if k = true then tc σ H4 fun w' H5 => r' y w' H5 Q else Q (.bl false) H4) : tChain r r' ta tb tc σ H Q := h
end
end Z
namespace Z
open PySem PySem.Spec PyProof.Rows L2 RZ
/-! zip of two tuples -/
def ZipA (K : PySem.W.Frag) (vs : List V) (H : Hp) (R : It → Hp → Prop) : Prop := ∃ a b xs ys, vs = [.ref a, .ref b] ∧ ((SqL K H a xs ∧ SqL K H b ys ∧ R (Itz K a b) H) ∨ (SqT K H a xs ∧ SqT K H b ys ∧ R (ItzT K a b) H))
theorem pi_zipAK {X : Cx} (K : PySem.W.Frag) {e e2 : Expr} {ta : TA} {p pos tpos : Pos} {elts : List Expr} {kk : Nat} (hg : Gl X "zip") (hm : X.mg "zip" = none) (ha : PA X [e, e2] ta)
    (hs : starEach [e, e2] X.env = (false, eval e X.env) :: starEach [e2] X.env := by rfl) (hpl : (backTo pos (starEach [e2] X.env)).any (·.1) = false := by rfl) (ek : X.K = K := by rfl) :
    PI X (.Tuple elts kk tpos) (.Call (.Name "zip" p) [e, e2] [] pos) (iZipA K ta) := by subst ek; exact pi_zipA hg hm ha hs hpl
theorem cut_fromZ (xs : List V) (m : Nat) : cutV xs (some (m : Int)) none = xs.drop m := by
  unfold cutV
  rw [show HT.sIx xs.length 0 (some (m : Int)) = min m xs.length from HT.sIx_nat _ _ _, HT.sIx_none]
  by_cases h : m ≤ xs.length
  · rw [Nat.min_eq_left h, List.take_of_length_le (by rw [List.length_drop]; omega)]
  · rw [Nat.min_eq_right (by omega), List.drop_of_length_le (Nat.le_refl _), List.take_nil, List.drop_of_length_le (by omega)]
section
variable {K : PySem.W.Frag} {H : Hp} {Q : VK} {σ : L2.St}
theorem s_izip {ta : TA} {R : It → Hp → Prop} (h : ta σ H fun vs H1 => ZipA K vs H1 R) : iZipA K ta σ H R := h
theorem s_zipTT {a b : Addr} {xs ys : List V} {R : It → Hp → Prop} (hx : SqT K H a xs) (hy : SqT K H b ys) (h : R (ItzT K a b) H) : ZipA K [.ref a, .ref b] H R := ⟨a, b, xs, ys, rfl, .inr ⟨hx, hy, h⟩⟩
theorem s_zipLL {a b : Addr} {xs ys : List V} {R : It → Hp → Prop} (hx : SqL K H a xs) (hy : SqL K H b ys) (h : R (Itz K a b) H) : ZipA K [.ref a, .ref b] H R := ⟨a, b, xs, ys, rfl, .inl ⟨hx, hy, h⟩⟩
theorem l_mapZT {g : TG} {tt : TT} {te : TE} {vs : List Nat} {a b : Addr} {xs ys : List V} (F : Nat → V) (hl : xs.length = ys.length) (hx : SqT K H a xs) (hy : SqT K H b ys) (hz : xs.length ≤ 100000)
    (hs : ∀ (D : Addr) (N : Hp → Prop) (i : Nat) (x y : V) (T : Addr) (H' : Hp), xs[i]? = some x → ys[i]? = some y → Same H H' → H' T = some (.tup [x, y]) → (∀ H4, Same H' H4 → LcEnd D N (F i) H4) → g (.ref T) (wipe σ vs) H' fun σ2 H2 => wipe σ2 vs = wipe σ vs ∧ tt σ2 H2 fun b H3 => if b = true then te σ2 H3 fun y H4 => LcEnd D N y H4 else N H3)
    (hd : ∀ D H', H D = none → Same H H' → H' D = some (.lst ((List.range xs.length).map F)) → Q (.ref D) H') : LcW g tt te vs Q σ (ItzT K a b) H := by
  have line : (100000 : Nat) < sizeLine := by decide
  intro D nD
  refine ⟨fun i m H' => m = xs.length - i ∧ i ≤ xs.length ∧ Same H H' ∧ H' D = some (.lst ((List.range i).map F)), ⟨_, rfl, Nat.zero_le _, Same.new nD, upd_same⟩, ?_⟩
  rintro i m H' ⟨rfl, hi, sm, eD⟩
  have qx := sqt_same sm hx
  have qy := sqt_same sm hy
  by_cases hlt : i < xs.length
  · have e1 : xs[i]? = some xs[i] := List.getElem?_eq_getElem hlt
    have hlt2 : i < ys.length := by omega
    have e2 : ys[i]? = some ys[i] := List.getElem?_eq_getElem hlt2
    refine .inr ⟨⟨xs, ys, _, _, qx, qy, e1, e2⟩, fun H'' => Same H H'' ∧ H'' D = some (.lst ((List.range (i + 1)).map F)), fun H'' p => ⟨xs.length - (i + 1), by omega, rfl, hlt, p⟩, fun v H'' y => ?_⟩
    obtain ⟨T, x', y', rfl, hT, rfl, f1, f2⟩ := y
    have s2 : Same H' (upd H' T (.tup [x', y'])) := Same.new hT
    refine hs D _ i x' y' T _ (f1 xs qx) (f2 ys qy) (sm.trans s2) upd_same fun H4 s4 => ?_
    refine s_lcEnd (s4 _ _ (s2 _ _ eD)) (by rw [List.length_map, List.length_range]; omega) fun H5 b5 e5 => ⟨But.same b5 ((sm.trans s2).trans s4) nD, ?_⟩
    rw [map_range_succ]
    exact e5
  · have e : i = xs.length := by omega
    subst e
    exact .inl ⟨⟨xs, ys, qx, qy, Or.inl (Nat.le_refl _)⟩, hd D H' nD sm eD⟩
end
end Z
section
open PySem PySem.Spec PyProof.Rows L2 Z
local macro_rules | `(tactic| ktr_room) => `(tactic| first
  | assumption
  | (apply SqT.of; assumption)
  | (apply SqL.of; assumption)
  | (apply sqt_same; assumption; ktr_room)
  | (apply sql_same; assumption; ktr_room)
  | (apply sqt_but; assumption; assumption; ktr_room)
  | (apply sql_but; assumption; assumption; ktr_room)
  | (apply Same.of_; assumption; ktr_room)
  | (apply But.of_; assumption; assumption; ktr_room)
  | exact same_refl
  | exact but_refl
  | (apply same_tr; assumption; ktr_room)
  | (apply same_but; assumption; ktr_room; assumption)
  | (apply but_tr; assumption; ktr_room)
  | (apply but_trB; assumption; ktr_room))
local macro_rules | `(tactic| ktr_units) => `(tactic| first | with_reducible assumption | omega | rfl | exact ⟨by omega, by omega⟩ | exact .inl ⟨by omega, by omega⟩ | exact .inr ⟨by omega, by omega⟩ | exact ⟨by decide, by decide, by decide⟩ | exact Nat.le_of_ble_eq_true rfl | decide)
local macro_rules | `(tactic| kc_close) => `(tactic| repeat (with_reducible first
  | refine s_var (by with_unfolding_all rfl) ?_
  | refine s_c ?_
  | refine s_op ?_
  | refine s_rI0 ?_
  | refine s_asg ?_
  | refine s_gname ?_
  | refine s_seq ?_
  | refine s_cons ?_
  | refine s_nil ?_
  | refine s_call ?_
  | refine s_ret ?_
  | o_fieldsN
  | refine s_test ?_
  | refine s_bl ?_
  | refine s_rI (by with_unfolding_all (ktr_units)) ?_
  | refine s_rEq rfl ?_
  | refine s_rNe rfl ?_
  | refine s_cb ?_
  | refine s_int1 ?_
  | refine s_intB ?_
  | refine s_max2 ?_
  | refine s_min2 ?_
  | refine s_tup ?_
  | refine s_lst ?_
  | refine s_newT (by with_unfolding_all first | decide | exact Nat.le_of_ble_eq_true rfl) ?_
  | refine s_newL (by with_unfolding_all first | decide | exact Nat.le_of_ble_eq_true rfl) ?_
  | refine s_ixT (by ktr_room) (by with_unfolding_all rfl) ?_
  | refine s_ixL (by ktr_room) (by with_unfolding_all rfl) ?_
  | refine s_lenT (by ktr_room) ?_
  | refine s_lenL (by ktr_room) ?_
  | refine s_un ?_
  | refine s_rU ?_
  | refine s_and ?_
  | refine s_or ?_
  | refine s_not ?_
  | refine s_tB ?_
  | refine s_tru ?_
  | refine s_drop ?_
  | refine s_next ?_
  | refine s_for ?_
  | refine s_rng1 ?_
  | refine s_rng2 ?_
  | refine s_rng3 ?_
  | refine s_ilist ?_
  | refine s_itup ?_
  | refine s_iany ?_
  | refine s_ienum ?_
  | refine s_irev ?_
  | refine s_gcons ?_
  | refine s_gnil ?_
  | refine s_gtup (by ktr_room) (by with_unfolding_all rfl) ?_
  | refine s_gsub ?_
  | refine s_augS ?_
  | refine s_aug (by with_unfolding_all rfl) ?_
  | refine s_ipI ?_
  | refine s_bm ?_
  | refine s_bm0 ?_
  | refine s_tyL (by ktr_room) ?_
  | refine s_tyL0 (by ktr_room) ?_
  | refine s_sl ?_
  | refine s_part ?_
  | refine s_partv ?_
  | refine s_noPart ?_
  | refine s_lc ?_
  | refine s_yes ?_
  | refine s_wipe (by with_unfolding_all rfl) ?_
  | refine iteT ?_
  | refine s_retN ?_
  | refine s_isN ?_
  | refine s_truB ?_
  | refine s_isB2 ?_
  | refine s_notB2 ?_
  | refine s_revT ?_
  | refine s_andV ?_
  | refine s_orV ?_
  | refine s_ifE ?_
  | refine s_notK ?_
  | refine s_notN ?_
  | refine s_truL (by ktr_room) ?_
  | refine s_truT (by ktr_room) ?_))
namespace K1
def topS (i : Nat) : Stmt := PySem.Challenge.pw_sortes_k12_scripts.main.body.getD i (.Pass ⟨0, 0, 0, 0⟩)
structure NoB (mg : Str → Option Value) : Prop where
  n_all : mg "all" = none
  n_any : mg "any" = none
  n_bool : mg "bool" = none
  n_int : mg "int" = none
  n_isinstance : mg "isinstance" = none
  n_len : mg "len" = none
  n_max : mg "max" = none
  n_min : mg "min" = none
  n_range : mg "range" = none
  n_sorted : mg "sorted" = none
  n_str : mg "str" = none
  n_tuple : mg "tuple" = none
  n_zip : mg "zip" = none
structure Gs (K : PySem.W.Frag) (mg : Str → Option Value) : Prop where
  g_DIFFERENT : ∃ u, mg "DIFFERENT" = some u ∧ RelV (.ref (refAt mg "DIFFERENT")) u
  w_DIFFERENT : ∃ b0 b1 b2 b3 : Addr, WInt K (refAt mg "DIFFERENT") [(1, b0), (2, b1), (3, b2), (4, b3)] ∧ WTup K b0 [.int 1, .int 2] ∧ WTup K b1 [.int 1, .int 2] ∧ WTup K b2 [.int 1, .int 4] ∧ WTup K b3 [.int 3, .int 4]
  g_FORMS : ∃ u, mg "FORMS" = some u ∧ RelV (.ref (refAt mg "FORMS")) u
  w_FORMS : ∃ b0 b1 b2 b3 b4 b5 b6 b7 : Addr, WInt K (refAt mg "FORMS") [(1, b0), (2, b1), (3, b2), (4, b3), (5, b4), (6, b5), (7, b6), (8, b7)] ∧ WTup K b0 [.str "party", .str "party", .str "index", .str "place"] ∧ WTup K b1 [.str "party", .str "party", .str "party", .str "index"] ∧ WTup K b2 [.str "party", .str "board", .str "party", .str "party"] ∧ WTup K b3 [.str "party", .str "board", .str "party", .str "party", .str "index"] ∧ WTup K b4 [.str "party", .str "board", .str "party"] ∧ WTup K b5 [.str "party", .str "board", .str "party", .str "index", .str "place"] ∧ WTup K b6 [.str "party", .str "board", .str "party"] ∧ WTup K b7 [.str "party", .str "board", .str "index"]
  g_MOST_RULES : ∃ u, mg "MOST_RULES" = some u ∧ RelV (.int 40) u
end K1
end
section
open PySem PySem.Spec PyProof.Rows L2 Z
local macro_rules | `(tactic| ktr_room) => `(tactic| first
  | assumption
  | (apply SqT.of; assumption)
  | (apply SqL.of; assumption)
  | (apply sqt_same; assumption; ktr_room)
  | (apply sql_same; assumption; ktr_room)
  | (apply sqt_but; assumption; assumption; ktr_room)
  | (apply sql_but; assumption; assumption; ktr_room)
  | (apply Same.of_; assumption; ktr_room)
  | (apply But.of_; assumption; assumption; ktr_room)
  | exact same_refl
  | exact but_refl
  | (apply same_tr; assumption; ktr_room)
  | (apply same_but; assumption; ktr_room; assumption)
  | (apply but_tr; assumption; ktr_room)
  | (apply but_trB; assumption; ktr_room))
local macro_rules | `(tactic| ktr_units) => `(tactic| first | with_reducible assumption | omega | rfl | exact ⟨by omega, by omega⟩ | exact .inl ⟨by omega, by omega⟩ | exact .inr ⟨by omega, by omega⟩ | exact ⟨by decide, by decide, by decide⟩ | exact Nat.le_of_ble_eq_true rfl | decide)
local macro_rules | `(tactic| kc_close) => `(tactic| repeat (with_reducible first
  | refine s_var (by with_unfolding_all rfl) ?_
  | refine s_c ?_
  | refine s_op ?_
  | refine s_rI0 ?_
  | refine s_asg ?_
  | refine s_gname ?_
  | refine s_seq ?_
  | refine s_cons ?_
  | refine s_nil ?_
  | refine s_call ?_
  | refine s_ret ?_
  | o_fieldsN
  | refine s_test ?_
  | refine s_bl ?_
  | refine s_rI (by with_unfolding_all (ktr_units)) ?_
  | refine s_rEq rfl ?_
  | refine s_rNe rfl ?_
  | refine s_cb ?_
  | refine s_int1 ?_
  | refine s_intB ?_
  | refine s_max2 ?_
  | refine s_min2 ?_
  | refine s_tup ?_
  | refine s_lst ?_
  | refine s_newT (by with_unfolding_all first | decide | exact Nat.le_of_ble_eq_true rfl) ?_
  | refine s_newL (by with_unfolding_all first | decide | exact Nat.le_of_ble_eq_true rfl) ?_
  | refine s_ixT (by ktr_room) (by with_unfolding_all rfl) ?_
  | refine s_ixL (by ktr_room) (by with_unfolding_all rfl) ?_
  | refine s_lenT (by ktr_room) ?_
  | refine s_lenL (by ktr_room) ?_
  | refine s_un ?_
  | refine s_rU ?_
  | refine s_and ?_
  | refine s_or ?_
  | refine s_not ?_
  | refine s_tB ?_
  | refine s_tru ?_
  | refine s_drop ?_
  | refine s_next ?_
  | refine s_for ?_
  | refine s_rng1 ?_
  | refine s_rng2 ?_
  | refine s_rng3 ?_
  | refine s_ilist ?_
  | refine s_itup ?_
  | refine s_iany ?_
  | refine s_ienum ?_
  | refine s_irev ?_
  | refine s_gcons ?_
  | refine s_gnil ?_
  | refine s_gtup (by ktr_room) (by with_unfolding_all rfl) ?_
  | refine s_gsub ?_
  | refine s_augS ?_
  | refine s_aug (by with_unfolding_all rfl) ?_
  | refine s_ipI ?_
  | refine s_bm ?_
  | refine s_bm0 ?_
  | refine s_tyL (by ktr_room) ?_
  | refine s_tyL0 (by ktr_room) ?_
  | refine s_sl ?_
  | refine s_part ?_
  | refine s_partv ?_
  | refine s_noPart ?_
  | refine s_lc ?_
  | refine s_yes ?_
  | refine s_wipe (by with_unfolding_all rfl) ?_
  | refine iteT ?_
  | refine s_retN ?_
  | refine s_isN ?_
  | refine s_truB ?_
  | refine s_isB2 ?_
  | refine s_notB2 ?_
  | refine s_revT ?_
  | refine s_andV ?_
  | refine s_orV ?_
  | refine s_ifE ?_
  | refine s_notK ?_
  | refine s_notN ?_
  | refine s_truL (by ktr_room) ?_
  | refine s_truT (by ktr_room) ?_))
open K1
local macro_rules | `(tactic| ktr_room) => `(tactic| first
  | (apply DR.same; assumption; ktr_room)
  | (apply sqt_butD; assumption; ktr_room; ktr_room))
namespace K1
section
variable {P : Program} {w : World} {K : PySem.W.Frag} {mg : Str → Option Value} {base : Heap}
/-- the store of draws at c: the script's numbers at L, the next one's place, what is left of the last, how many there were, 20 -/
def DR (H : Hp) (c L : Addr) : Prop := ∃ (ns : List Int) (i r n : Int), H c = some (.lst [.ref L, .int i, .int r, .int n, .int 20]) ∧ H L = some (.lst (ns.map V.int)) ∧ L ≠ c ∧ 0 ≤ i
theorem DR.same {H H' : Hp} {c L : Addr} (s : Same H H') (h : DR H c L) : DR H' c L := by
  obtain ⟨ns, i, r, n, e, hL, ne, h0⟩ := h
  exact ⟨ns, i, r, n, s _ _ e, s _ _ hL, ne, h0⟩
theorem DR.but {H H' : Hp} {c L D : Addr} (b : But D H H') (h : DR H c L) (n1 : D ≠ c) (n2 : D ≠ L) : DR H' c L := by
  obtain ⟨ns, i, r, n, e, hL, ne, h0⟩ := h
  exact ⟨ns, i, r, n, b _ _ (Ne.symm n1) e, b _ _ (Ne.symm n2) hL, ne, h0⟩
theorem DR.ne {H : Hp} {c L D : Addr} (d : DR H c L) (n : H D = none) : D ≠ c := by
  obtain ⟨ns, i, r, m, e, _⟩ := d
  intro z
  subst z
  rw [e] at n
  cases n
theorem DR.neL {H : Hp} {c L D : Addr} (d : DR H c L) (n : H D = none) : D ≠ L := by
  obtain ⟨ns, i, r, m, _, e, _⟩ := d
  intro z
  subst z
  rw [e] at n
  cases n
def spFill : Sp := fun vs H Q _ => ∃ c : Addr, vs = [.ref c] ∧ ∃ L, DR H c L ∧ ∀ H' v, But c H H' → DR H' c L → Q (.int v) H'
def spTake : Sp := fun vs H Q _ => ∃ (c : Addr) (m : Int), vs = [.ref c, .int m] ∧ ∃ L, DR H c L ∧ 0 < m ∧ m < 1073741824 ∧ ∀ H' d, But c H H' → DR H' c L → 0 ≤ d → d < m → Q (.int d) H'
theorem ok__law_fill (T : NoB mg) (h : Has K mg "_law_fill" (topS 18) ["c"]) : Good P w K mg base 1 "_law_fill" ["c"] (spFill) := by
  have sc : FnScope ["c", "number"] ["c"] (defScope (topS 18)) := ⟨rfl, rfl, rfl, by decide +kernel, rfl, by decide +kernel, by decide +kernel⟩
  have nd := sc.nd
  refine h.good sc (fun vs H Q E h => by obtain ⟨c, rfl, _⟩ := h; rfl) (fun f cdv A outer s H vs Q E hr h => ?_)
  obtain ⟨c, rfl, hyp⟩ := h
  refine ⟨_, (pss_cons (ps_asg (pe_op op_add (pe_ix (ix_listK K) (pv 0) pe_int (fun _ _ => rfl)) pe_int) (pg_sub (pv 0) pe_int set_list))
  (pss_cons (ps_set (i := 1) nd rfl (by first | exact .inl rfl | exact .inr rfl) (pe_op op_add (pe_op op_mul (pe_ix (ix_listK K) (pv 0) pe_int (fun _ _ => rfl)) pe_int) pe_int))
  (pss_cons (ps_if (pt_cmpR op_lt (pe_ix (ix_listK K) (pv 0) pe_int (fun _ _ => rfl)) (pe_callB (c_lenK K) (by rfl) T.n_len (by decide +kernel) (pa_cons (pe_ix (ix_listK K) (pv 0) pe_int (fun _ _ => rfl)) pa_nil)) (nomark _))
  (pss_cons (ps_set (i := 1) nd rfl (by first | exact .inl rfl | exact .inr rfl) (pe_ix (ix_listK K) (pe_ix (ix_listK K) (pv 0) pe_int (fun _ _ => rfl)) (pe_ix (ix_listK K) (pv 0) pe_int (fun _ _ => rfl)) (fun _ _ => rfl)))
  (pss_cons (ps_asg (pe_op op_add (pe_ix (ix_listK K) (pv 0) pe_int (fun _ _ => rfl)) pe_int) (pg_sub (pv 0) pe_int set_list))
  (pss_cons (ps_if (pt_cmpR op_lt (pv 1) pe_int (nomark _))
  (pss_one (ps_set (i := 1) nd rfl (by first | exact .inl rfl | exact .inr rfl) (pe_op op_sub (pe_op op_sub pe_int pe_int) (pv 1)))) pss_nil)
  (pss_one (ps_if (pt_cmpR op_ge (pv 1) (pe_op op_pow pe_int pe_int) (nomark _))
  (pss_one (ps_ret (pv 1))) pss_nil))))) pss_nil)
  (pss_cons (ps_if (PW.pt (pw_and (pt_truK K (pe_ix (ix_listK K) (pv 0) pe_int (fun _ _ => rfl)) (by intro _; rfl)) (pw_and1 (pt_cmpR op_ge (pe_ix (ix_listK K) (pv 0) pe_int (fun _ _ => rfl)) (pe_callB (c_lenK K) (by rfl) T.n_len (by decide +kernel) (pa_cons (pe_ix (ix_listK K) (pv 0) pe_int (fun _ _ => rfl)) pa_nil)) (nomark _)))))
  (pss_one (ps_set (i := 1) nd rfl (by first | exact .inl rfl | exact .inr rfl) (pe_op op_add (pv 1) (pe_op op_mod (pe_callTy c_int1 (by rfl) T.n_int (by decide +kernel) (pa_cons (pe_ix (ix_listK K) (pe_ix (ix_listK K) (pv 0) pe_int (fun _ _ => rfl)) (pe_un un_neg pe_int) (fun _ _ => rfl)) pa_nil)) pe_int)))) pss_nil)
  (pss_cons (ps_set (i := 1) nd rfl (by first | exact .inl rfl | exact .inr rfl) (pe_op op_mod (pe_callTy c_int1 (by rfl) T.n_int (by decide +kernel) (pa_cons (pe_op op_add (pe_op op_mul (pv 1) pe_int) (pe_op op_mul (pe_ix (ix_listK K) (pv 0) pe_int (fun _ _ => rfl)) pe_int)) pa_nil)) pe_int))
  (pss_one (ps_ret (pe_op op_add (pe_op op_mod (pe_callTy c_int1 (by rfl) T.n_int (by decide +kernel) (pa_cons (pe_op op_add (pe_op op_add (pe_op op_mul (pv 1) (pv 1)) (pe_op op_mul (pe_ix (ix_listK K) (pv 0) pe_int (fun _ _ => rfl)) pe_int)) pe_int) pa_nil)) pe_int) pe_int)))))))), ?_⟩
  try dsimp only [cxOf, Cx.wish]
  obtain ⟨L, ⟨ns, i, r, n, ec, hL, nL, h0⟩, q⟩ := hyp
  kc_close
  refine s_setL ec rfl fun H1 b1 e1 => ?_
  have hL1 : H1 L = some (.lst (ns.map V.int)) := b1 _ _ nL hL
  have kL : IsL K H L ns := SqL.of hL
  have kL1 : IsL K H1 L ns := SqL.of hL1
  kc_close
  refine s_cut (fun σ' H' => ∃ (v i' r' n' : Int), σ' = [some (.ref c), some (.int v)] ∧ But c H H' ∧ H' c = some (.lst [.ref L, .int i', .int r', .int n', .int 20]) ∧ H' L = some (.lst (ns.map V.int)) ∧ 0 ≤ i') (fun N hN => ?_) ?_
  · refine s_if ?_
    kc_close
    refine ifP (fun hi => ?_) (fun hi => ?_)
    · rw [List.length_map] at hi
      kc_close
      refine s_ixL kL1 (at_nat h0 hi) ?_
      kc_close
      refine s_setL e1 rfl fun H2 b2 e2 => ?_
      have hL2 : H2 L = some (.lst (ns.map V.int)) := b2 _ _ nL hL1
      have kL2 : IsL K H2 L ns := SqL.of hL2
      have fin : ∀ v : Int, N [some (.ref c), some (.int v)] H2 := fun v => hN _ _ ⟨v, _, _, _, rfl, b1.trans b2, e2, hL2, by omega⟩
      kc_close
      refine s_cut (fun σ' H' => ∃ v : Int, σ' = [some (.ref c), some (.int v)] ∧ H' = H2) (fun N' hN' => ?_) ?_
      · refine s_if ?_
        kc_close
        refine ifP (fun _ => ?_) (fun _ => ?_)
        · kc_close
          exact hN' _ _ ⟨_, rfl, rfl⟩
        · kc_close
          exact hN' _ _ ⟨_, rfl, rfl⟩
      · rintro _ _ ⟨v, rfl, rfl⟩
        kc_close
        refine s_if ?_
        kc_close
        refine ifP (fun _ => ?_) (fun _ => ?_)
        · kc_close
          exact q _ _ (b1.trans b2) ⟨ns, _, _, _, e2, hL2, nL, by omega⟩
        · kc_close
          exact fin v
    · kc_close
      exact hN _ _ ⟨_, _, _, _, rfl, b1, e1, hL1, h0⟩
  rintro _ H2 ⟨v, i', r', n', rfl, b2, e2, hL2, h2⟩
  have kL2 : IsL K H2 L ns := SqL.of hL2
  kc_close
  refine s_cut (fun σ' H' => ∃ v : Int, σ' = [some (.ref c), some (.int v)] ∧ H' = H2) (fun N' hN' => ?_) ?_
  · refine s_if ?_
    kc_close
    by_cases hn : ns = []
    · refine ifFalse (by rw [hn]; rfl) (iteF ?_)
      kc_close
      exact hN' _ _ ⟨_, rfl, rfl⟩
    · obtain ⟨z, ez⟩ := at_end hn
      refine ifTrue (by cases ns with | nil => exact absurd rfl hn | cons _ _ => rfl) ?_
      kc_close
      refine ifP (fun _ => ?_) (fun _ => ?_)
      · kc_close
        refine s_ixL kL2 ez ?_
        kc_close
        exact hN' _ _ ⟨_, rfl, rfl⟩
      · kc_close
        exact hN' _ _ ⟨_, rfl, rfl⟩
  rintro _ _ ⟨v2, rfl, rfl⟩
  kc_close
  exact q _ _ b2 ⟨ns, _, _, _, e2, hL2, nL, h2⟩
theorem ok__law_take (T : NoB mg) (h : Has K mg "_law_take" (topS 19) ["c", "many"]) (G__law_fill : Good P w K mg base 1 "_law_fill" ["c"] (spFill)) : Good P w K mg base 2 "_law_take" ["c", "many"] (spTake) := by
  have sc : FnScope ["c", "many", "digit"] ["c", "many"] (defScope (topS 19)) := ⟨rfl, rfl, rfl, by decide +kernel, rfl, by decide +kernel, by decide +kernel⟩
  have nd := sc.nd
  refine h.good sc (fun vs H Q E h => by obtain ⟨c, m, rfl, _⟩ := h; rfl) (fun f cdv A outer s H vs Q E hr h => ?_)
  obtain ⟨c, m, rfl, hyp⟩ := h
  refine ⟨_, (pss_cons (ps_if (pt_cmpR op_lt (pe_ix (ix_listK K) (pv 0) pe_int (fun _ _ => rfl)) (pv 1) (nomark _))
  (pss_one (ps_asg (pe_callG G__law_fill (hr.mono (by first | decide | omega)) (by rfl) (pa_cons (pv 0) pa_nil)) (pg_sub (pv 0) pe_int set_list))) pss_nil)
  (pss_cons (ps_set (i := 2) nd rfl (by first | exact .inl rfl | exact .inr rfl) (pe_op op_mod (pe_callTy c_int1 (by rfl) T.n_int (by decide +kernel) (pa_cons (pe_ix (ix_listK K) (pv 0) pe_int (fun _ _ => rfl)) pa_nil)) (pv 1)))
  (pss_cons (ps_asg (pe_op op_fdiv (pe_ix (ix_listK K) (pv 0) pe_int (fun _ _ => rfl)) (pv 1)) (pg_sub (pv 0) pe_int set_list))
  (pss_one (ps_ret (pv 2)))))), ?_⟩
  try dsimp only [cxOf, Cx.wish]
  obtain ⟨L, ⟨ns, i, r, n, ec, hL, nL, h0⟩, hm, hm2, q⟩ := hyp
  have hL' : IsL K H L ns := SqL.of hL
  kc_close
  refine s_cut (fun σ' H' => ∃ (i' r' n' : Int) (ns : List Int), σ' = [some (.ref c), some (.int m), none] ∧ But c H H' ∧ H' c = some (.lst [.ref L, .int i', .int r', .int n', .int 20]) ∧ H' L = some (.lst (ns.map V.int)) ∧ 0 ≤ i') (fun N hN => ?_) ?_
  · refine s_if ?_
    kc_close
    refine ifP (fun _ => ?_) (fun _ => ?_)
    · kc_close
      refine ⟨c, rfl, L, ⟨ns, i, r, n, ec, hL, nL, h0⟩, fun H1 v b1 d1 => ?_⟩
      obtain ⟨ns1, i1, r1, n1, e1, hL1, nL1, h1⟩ := d1
      kc_close
      refine s_setL e1 rfl fun H2 b2 e2 => ?_
      exact hN _ _ ⟨_, _, _, ns1, rfl, b1.trans b2, e2, b2 _ _ nL1 hL1, h1⟩
    · kc_close
      exact hN _ _ ⟨_, _, _, ns, rfl, But.refl c H, ec, hL, h0⟩
  rintro _ H1 ⟨i1, r1, n1, ns1, rfl, b1, e1, hL1, h1⟩
  kc_close
  refine s_setL e1 rfl fun H2 b2 e2 => ?_
  kc_close
  exact q _ _ (b1.trans b2) ⟨ns1, _, _, _, e2, b2 _ _ nL hL1, nL, h1⟩ (Int.emod_nonneg _ (by omega)) (Int.emod_lt_of_pos _ hm)
def spStart (K : PySem.W.Frag) : Sp := fun vs H Q _ => ∃ s : Addr, vs = [.ref s] ∧ (∃ ns : List Int, IsL K H s ns ∧ ns.length ≤ 63) ∧ ∀ H' c L, Same H H' → DR H' c L → Q (.ref c) H'
theorem ok__law_start (T : NoB mg) (h : Has K mg "_law_start" (topS 17) ["script"]) : Good P w K mg base 1 "_law_start" ["script"] (spStart K) := by
  have sc : FnScope ["script", "cell"] ["script"] (defScope (topS 17)) := ⟨rfl, rfl, rfl, by decide +kernel, rfl, by decide +kernel, by decide +kernel⟩
  have nd := sc.nd
  refine h.good sc (fun vs H Q E h => by obtain ⟨s0, rfl, _⟩ := h; rfl) (fun f cdv A outer s H vs Q E hr h => ?_)
  obtain ⟨s0, rfl, hyp⟩ := h
  refine ⟨_, (pss_one (ps_ret (pe_lst (pa_cons (pe_lc (own := [("cell", 1)]) rfl nd (pi_listK K (pe_slice (sl_listK K) (pv 0) po_none (po_some pe_int))) (blkOk_by (own := [("cell", 1)]) (N := ["script", "cell"]) (by kernel_rfl)) (fun _ _ _ _ _ => (pg_name (i := 1) nd rfl (by first | exact .inl rfl | exact .inr rfl))) (fun _ _ _ _ _ => pts_nil) (fun _ _ _ _ _ => (pe_callTy c_int1 (by rfl) T.n_int (by decide +kernel) (pa_cons (pv 1) pa_nil)))) (pa_cons pe_int (pa_cons pe_int (pa_cons pe_int (pa_cons pe_int pa_nil)))))))), ?_⟩
  try dsimp only [cxOf, Cx.wish]
  obtain ⟨⟨ns, hs, hz⟩, q⟩ := hyp
  kc_close
  refine s_slL hs fun z H1 nz s1 e1 => ?_
  rw [show (some 63 : Option Int) = some ((63 : Nat) : Int) from rfl, cut_to, ← List.map_take] at e1
  refine s_ilistv (SqL.of e1) (l_mapL (fun i => V.int ((ns.take 63).getD i 0)) (SqL.of e1) (by rw [List.length_map, List.length_take]; omega) ?_ ?_)
  · intro D N i x H' e sm k
    obtain ⟨rfl, hi⟩ := item_int e
    kc_close
    exact k _ (Same.refl _)
  intro D H2 nD s2 eD
  rw [List.length_map, range_map (fun x => x)] at eD
  kc_close
  intro c H3 nc s3 ec
  have nD3 : D ≠ c := by
    intro z
    subst z
    rw [eD] at nc
    cases nc
  exact q H3 c D ((s1.trans s2).trans s3) ⟨_, 0, 0, 0, ec, s3 _ _ eD, nD3, Int.le_refl _⟩
end
end K1
end
section
open PySem PySem.Spec PyProof.Rows L2 Z
local macro_rules | `(tactic| ktr_room) => `(tactic| first
  | assumption
  | (apply SqT.of; assumption)
  | (apply SqL.of; assumption)
  | (apply sqt_same; assumption; ktr_room)
  | (apply sql_same; assumption; ktr_room)
  | (apply sqt_but; assumption; assumption; ktr_room)
  | (apply sql_but; assumption; assumption; ktr_room)
  | (apply Same.of_; assumption; ktr_room)
  | (apply But.of_; assumption; assumption; ktr_room)
  | exact same_refl
  | exact but_refl
  | (apply same_tr; assumption; ktr_room)
  | (apply same_but; assumption; ktr_room; assumption)
  | (apply but_tr; assumption; ktr_room)
  | (apply but_trB; assumption; ktr_room))
local macro_rules | `(tactic| ktr_units) => `(tactic| first | with_reducible assumption | omega | rfl | exact ⟨by omega, by omega⟩ | exact .inl ⟨by omega, by omega⟩ | exact .inr ⟨by omega, by omega⟩ | exact ⟨by decide, by decide, by decide⟩ | exact Nat.le_of_ble_eq_true rfl | decide)
local macro_rules | `(tactic| kc_close) => `(tactic| repeat (with_reducible first
  | refine s_var (by with_unfolding_all rfl) ?_
  | refine s_c ?_
  | refine s_op ?_
  | refine s_rI0 ?_
  | refine s_asg ?_
  | refine s_gname ?_
  | refine s_seq ?_
  | refine s_cons ?_
  | refine s_nil ?_
  | refine s_call ?_
  | refine s_ret ?_
  | o_fieldsN
  | refine s_test ?_
  | refine s_bl ?_
  | refine s_rI (by with_unfolding_all (ktr_units)) ?_
  | refine s_rEq rfl ?_
  | refine s_rNe rfl ?_
  | refine s_cb ?_
  | refine s_int1 ?_
  | refine s_intB ?_
  | refine s_max2 ?_
  | refine s_min2 ?_
  | refine s_tup ?_
  | refine s_lst ?_
  | refine s_newT (by with_unfolding_all first | decide | exact Nat.le_of_ble_eq_true rfl) ?_
  | refine s_newL (by with_unfolding_all first | decide | exact Nat.le_of_ble_eq_true rfl) ?_
  | refine s_ixT (by ktr_room) (by with_unfolding_all rfl) ?_
  | refine s_ixL (by ktr_room) (by with_unfolding_all rfl) ?_
  | refine s_lenT (by ktr_room) ?_
  | refine s_lenL (by ktr_room) ?_
  | refine s_un ?_
  | refine s_rU ?_
  | refine s_and ?_
  | refine s_or ?_
  | refine s_not ?_
  | refine s_tB ?_
  | refine s_tru ?_
  | refine s_drop ?_
  | refine s_next ?_
  | refine s_for ?_
  | refine s_rng1 ?_
  | refine s_rng2 ?_
  | refine s_rng3 ?_
  | refine s_ilist ?_
  | refine s_itup ?_
  | refine s_iany ?_
  | refine s_ienum ?_
  | refine s_irev ?_
  | refine s_gcons ?_
  | refine s_gnil ?_
  | refine s_gtup (by ktr_room) (by with_unfolding_all rfl) ?_
  | refine s_gsub ?_
  | refine s_augS ?_
  | refine s_aug (by with_unfolding_all rfl) ?_
  | refine s_ipI ?_
  | refine s_bm ?_
  | refine s_bm0 ?_
  | refine s_tyL (by ktr_room) ?_
  | refine s_tyL0 (by ktr_room) ?_
  | refine s_sl ?_
  | refine s_part ?_
  | refine s_partv ?_
  | refine s_noPart ?_
  | refine s_lc ?_
  | refine s_yes ?_
  | refine s_wipe (by with_unfolding_all rfl) ?_
  | refine iteT ?_
  | refine s_retN ?_
  | refine s_isN ?_
  | refine s_truB ?_
  | refine s_isB2 ?_
  | refine s_notB2 ?_
  | refine s_revT ?_
  | refine s_andV ?_
  | refine s_orV ?_
  | refine s_ifE ?_
  | refine s_notK ?_
  | refine s_notN ?_
  | refine s_truL (by ktr_room) ?_
  | refine s_truT (by ktr_room) ?_))
open K1
local macro_rules | `(tactic| ktr_room) => `(tactic| first
  | (apply DR.same; assumption; ktr_room)
  | (apply sqt_butD; assumption; ktr_room; ktr_room))
namespace K1
theorem sqt_butD {K : PySem.W.Frag} {c L : Addr} {H H' : Hp} {a : Addr} {xs : List V} (e : But c H H') (d : DR H c L) (h : SqT K H a xs) : SqT K H' a xs := by
  obtain ⟨ns, i, r, m, ec, _⟩ := d
  exact sqt_but e ec h
/-- a list of draws, made by a comprehension over a range -/
theorem l_draws {g : TG} {tt : TT} {te : TE} {vs : List Nat} {σ : L2.St} {Q : VK} {H : Hp} {C L : Addr} {m : Nat} {lo : Int} (Pr : Int → Prop) (d0 : DR H C L) (hz : m ≤ 1000)
    (hs : ∀ (D : Addr) (N : Hp → Prop) (i : Nat) (H' : Hp), i < m → But C H H' → DR H' C L → (∀ H4 v, But C H' H4 → DR H4 C L → Pr v → LcEnd D N (.int v) H4) → g (.int (lo + i)) (wipe σ vs) H' fun σ2 H2 => wipe σ2 vs = wipe σ vs ∧ tt σ2 H2 fun b H3 => if b = true then te σ2 H3 fun y H4 => LcEnd D N y H4 else N H3)
    (hd : ∀ (D : Addr) (H' : Hp) (ls : List Int), H D = none → D ≠ C → D ≠ L → But C H H' → DR H' C L → ls.length = m → (∀ v ∈ ls, Pr v) → H' D = some (.lst (ls.map V.int)) → Q (.ref D) H') : LcW g tt te vs Q σ (Itr lo m) H := by
  have line : (1000 : Nat) < sizeLine := by decide
  refine l_range (fun D i H' => H D = none ∧ But C H H' ∧ DR H' C L ∧ ∃ ls : List Int, ls.length = i ∧ (∀ v ∈ ls, Pr v) ∧ H' D = some (.lst (ls.map V.int)))
    (fun D H' n sm e => ⟨n, But.of sm, d0.same sm, [], rfl, fun v h => (by cases h), e⟩) ?_ ?_
  · rintro D i H' hi ⟨n, b, d, ls, hl, hp, eD⟩
    refine hs D _ i H' hi b d fun H4 v b4 d4 pv => ?_
    have nC := d0.ne n
    have nL := d0.neL n
    refine s_lcEnd (b4 _ _ nC eD) (by rw [List.length_map, hl]; omega) fun H5 b5 e5 => ⟨n, But.sameN b5 (b.trans b4) n, d4.but b5 nC nL, ls ++ [v], by rw [List.length_append, hl]; rfl, fun x hx => ?_, ?_⟩
    · rcases List.mem_append.mp hx with hx | hx
      · exact hp x hx
      · rw [List.mem_singleton.mp hx]
        exact pv
    · rw [List.map_append]
      exact e5
  · rintro D H' ⟨n, b, d, ls, hl, hp, eD⟩
    exact hd D H' ls n (d0.ne n) (d0.neL n) b d hl hp eD
theorem ints5 {d : Int} (h0 : 0 ≤ d) (h1 : d < 5) : ∃ p : Int, M.PR p ∧ atI [V.int 11, .int 13, .int 17, .int 31, .int 101] d = some (.int p) := by
  rcases (show d = 0 ∨ d = 1 ∨ d = 2 ∨ d = 3 ∨ d = 4 by omega) with rfl | rfl | rfl | rfl | rfl
  · exact ⟨11, .inl rfl, rfl⟩
  · exact ⟨13, .inr (.inl rfl), rfl⟩
  · exact ⟨17, .inr (.inr (.inl rfl)), rfl⟩
  · exact ⟨31, .inr (.inr (.inr (.inl rfl))), rfl⟩
  · exact ⟨101, .inr (.inr (.inr (.inr rfl))), rfl⟩
theorem ints2 {d x y : Int} (h0 : 0 ≤ d) (h1 : d < 2) : ∃ k : Int, (k = x ∨ k = y) ∧ atI [V.int x, .int y] d = some (.int k) := by
  rcases (show d = 0 ∨ d = 1 by omega) with rfl | rfl
  · exact ⟨x, .inl rfl, rfl⟩
  · exact ⟨y, .inr rfl, rfl⟩
theorem ints3 {d x y z : Int} (h0 : 0 ≤ d) (h1 : d < 3) : ∃ k : Int, (k = x ∨ k = y ∨ k = z) ∧ atI [V.int x, .int y, .int z] d = some (.int k) := by
  rcases (show d = 0 ∨ d = 1 ∨ d = 2 by omega) with rfl | rfl | rfl
  · exact ⟨x, .inl rfl, rfl⟩
  · exact ⟨y, .inr (.inl rfl), rfl⟩
  · exact ⟨z, .inr (.inr rfl), rfl⟩
section
variable {P : Program} {w : World} {K : PySem.W.Frag} {mg : Str → Option Value} {base : Heap}
theorem u_start {s : Addr} {ns : List Int} {H : Hp} {Q : VK} {E : XK} (hs : IsL K H s ns) (hz : ns.length ≤ 63) (q : ∀ H' c L, Same H H' → DR H' c L → Q (.ref c) H') : spStart K [.ref s] H Q E := ⟨s, rfl, ⟨ns, hs, hz⟩, q⟩
theorem u_take {c L : Addr} {m : Int} {H : Hp} {Q : VK} {E : XK} (d : DR H c L) (h0 : 0 < m) (h1 : m < 1073741824) (q : ∀ H' d, But c H H' → DR H' c L → 0 ≤ d → d < m → Q (.int d) H') : spTake [.ref c, .int m] H Q E := ⟨c, m, rfl, L, d, h0, h1, q⟩
def spLaw (K : PySem.W.Frag) : Sp := fun vs H Q _ => ∃ s : Addr, vs = [.ref s] ∧ (∃ ns : List Int, IsL K H s ns ∧ ns.length ≤ 63) ∧ ∀ H', Q (.bl true) H'
end
end K1
end
section
open PySem PySem.Spec PyProof.Rows L2 Z
local macro_rules | `(tactic| ktr_room) => `(tactic| first
  | assumption
  | (apply SqT.of; assumption)
  | (apply SqL.of; assumption)
  | (apply sqt_same; assumption; ktr_room)
  | (apply sql_same; assumption; ktr_room)
  | (apply sqt_but; assumption; assumption; ktr_room)
  | (apply sql_but; assumption; assumption; ktr_room)
  | (apply Same.of_; assumption; ktr_room)
  | (apply But.of_; assumption; assumption; ktr_room)
  | exact same_refl
  | exact but_refl
  | (apply same_tr; assumption; ktr_room)
  | (apply same_but; assumption; ktr_room; assumption)
  | (apply but_tr; assumption; ktr_room)
  | (apply but_trB; assumption; ktr_room))
local macro_rules | `(tactic| ktr_units) => `(tactic| first | with_reducible assumption | omega | rfl | exact ⟨by omega, by omega⟩ | exact .inl ⟨by omega, by omega⟩ | exact .inr ⟨by omega, by omega⟩ | exact ⟨by decide, by decide, by decide⟩ | exact Nat.le_of_ble_eq_true rfl | decide)
local macro_rules | `(tactic| kc_close) => `(tactic| repeat (with_reducible first
  | refine s_var (by with_unfolding_all rfl) ?_
  | refine s_c ?_
  | refine s_op ?_
  | refine s_rI0 ?_
  | refine s_asg ?_
  | refine s_gname ?_
  | refine s_seq ?_
  | refine s_cons ?_
  | refine s_nil ?_
  | refine s_call ?_
  | refine s_ret ?_
  | o_fieldsN
  | refine s_test ?_
  | refine s_bl ?_
  | refine s_rI (by with_unfolding_all (ktr_units)) ?_
  | refine s_rEq rfl ?_
  | refine s_rNe rfl ?_
  | refine s_cb ?_
  | refine s_int1 ?_
  | refine s_intB ?_
  | refine s_max2 ?_
  | refine s_min2 ?_
  | refine s_tup ?_
  | refine s_lst ?_
  | refine s_newT (by with_unfolding_all first | decide | exact Nat.le_of_ble_eq_true rfl) ?_
  | refine s_newL (by with_unfolding_all first | decide | exact Nat.le_of_ble_eq_true rfl) ?_
  | refine s_ixT (by ktr_room) (by with_unfolding_all rfl) ?_
  | refine s_ixL (by ktr_room) (by with_unfolding_all rfl) ?_
  | refine s_lenT (by ktr_room) ?_
  | refine s_lenL (by ktr_room) ?_
  | refine s_un ?_
  | refine s_rU ?_
  | refine s_and ?_
  | refine s_or ?_
  | refine s_not ?_
  | refine s_tB ?_
  | refine s_tru ?_
  | refine s_drop ?_
  | refine s_next ?_
  | refine s_for ?_
  | refine s_rng1 ?_
  | refine s_rng2 ?_
  | refine s_rng3 ?_
  | refine s_ilist ?_
  | refine s_itup ?_
  | refine s_iany ?_
  | refine s_ienum ?_
  | refine s_irev ?_
  | refine s_gcons ?_
  | refine s_gnil ?_
  | refine s_gtup (by ktr_room) (by with_unfolding_all rfl) ?_
  | refine s_gsub ?_
  | refine s_augS ?_
  | refine s_aug (by with_unfolding_all rfl) ?_
  | refine s_ipI ?_
  | refine s_bm ?_
  | refine s_bm0 ?_
  | refine s_tyL (by ktr_room) ?_
  | refine s_tyL0 (by ktr_room) ?_
  | refine s_sl ?_
  | refine s_part ?_
  | refine s_partv ?_
  | refine s_noPart ?_
  | refine s_lc ?_
  | refine s_yes ?_
  | refine s_wipe (by with_unfolding_all rfl) ?_
  | refine iteT ?_
  | refine s_retN ?_
  | refine s_isN ?_
  | refine s_truB ?_
  | refine s_isB2 ?_
  | refine s_notB2 ?_
  | refine s_revT ?_
  | refine s_andV ?_
  | refine s_orV ?_
  | refine s_ifE ?_
  | refine s_notK ?_
  | refine s_notN ?_
  | refine s_truL (by ktr_room) ?_
  | refine s_truT (by ktr_room) ?_))
open K1
local macro_rules | `(tactic| ktr_room) => `(tactic| first
  | (apply DR.same; assumption; ktr_room)
  | (apply sqt_butD; assumption; ktr_room; ktr_room))
namespace K1
section
variable {P : Program} {w : World} {K : PySem.W.Frag} {mg : Str → Option Value} {base : Heap}
theorem tk_butD {K : PySem.W.Frag} {c L : Addr} {H H' : Hp} (e : But c H H') (d : DR H c L) : TK K H H' := fun _ _ h => sqt_butD e d h
abbrev SU (K : PySem.W.Frag) (H : Hp) (s : Addr) (p n t m : Int) : Prop := SqT K H s [.int p, .int n, .int t, .int m]
theorem at5t {d : Int} (h0 : 0 ≤ d) (h1 : d < 5) : ∃ t : Int, 0 ≤ t ∧ t ≤ 2 ∧ atI [V.int 0, .int 1, .int 1, .int 1, .int 2] d = some (.int t) := by
  rcases (show d = 0 ∨ d = 1 ∨ d = 2 ∨ d = 3 ∨ d = 4 by omega) with rfl | rfl | rfl | rfl | rfl
  · exact ⟨0, by omega, by omega, rfl⟩
  · exact ⟨1, by omega, by omega, rfl⟩
  · exact ⟨1, by omega, by omega, rfl⟩
  · exact ⟨1, by omega, by omega, rfl⟩
  · exact ⟨2, by omega, by omega, rfl⟩
theorem at3n {t : Int} (h0 : 0 ≤ t) (h1 : t ≤ 2) : ∃ m : Int, 0 < m ∧ m < 8 ∧ 3 * t + m ≤ 7 ∧ atI [V.int 7, .int 4, .int 1] t = some (.int m) := by
  rcases (show t = 0 ∨ t = 1 ∨ t = 2 by omega) with rfl | rfl | rfl
  · exact ⟨7, by omega, by omega, by omega, rfl⟩
  · exact ⟨4, by omega, by omega, by omega, rfl⟩
  · exact ⟨1, by omega, by omega, by omega, rfl⟩
def spSetup (K : PySem.W.Frag) : Sp := fun vs H Q _ => ∃ (c : Addr) (mo : Int), vs = [.ref c, .int mo] ∧ ∃ L, DR H c L ∧ 1 ≤ mo ∧ mo ≤ 6 ∧ ∀ H' q p n t m, But c H H' → DR H' c L → SU K H' q p n t m → M.SetOk p n t m → Q (.ref q) H'
theorem ok__law_setup (h : Has K mg "_law_setup" (topS 20) ["c", "most"]) (G__law_take : Good P w K mg base 2 "_law_take" ["c", "many"] (spTake)) : Good P w K mg base 3 "_law_setup" ["c", "most"] (spSetup K) := by
  have sc : FnScope ["c", "most", "t", "n"] ["c", "most"] (defScope (topS 20)) := ⟨rfl, rfl, rfl, by decide +kernel, rfl, by decide +kernel, by decide +kernel⟩
  have nd := sc.nd
  refine h.good sc (fun vs H Q E h => by obtain ⟨c, mo, rfl, _⟩ := h; rfl) (fun f cdv A outer s H vs Q E hr h => ?_)
  obtain ⟨c, mo, rfl, hyp⟩ := h
  refine ⟨_, (pss_cons (ps_set (i := 2) nd rfl (by first | exact .inl rfl | exact .inr rfl) (pe_ix (ix_listK K) (pe_lst (pa_cons pe_int (pa_cons pe_int (pa_cons pe_int (pa_cons pe_int (pa_cons pe_int pa_nil)))))) (pe_callG G__law_take (hr.mono (by first | decide | omega)) (by rfl) (pa_cons (pv 0) (pa_cons pe_int pa_nil))) (fun _ _ => rfl)))
  (pss_cons (ps_set (i := 3) nd rfl (by first | exact .inl rfl | exact .inr rfl) (pe_op op_add (pe_op op_add (pe_op op_mul pe_int (pv 2)) pe_int) (pe_callG G__law_take (hr.mono (by first | decide | omega)) (by rfl) (pa_cons (pv 0) (pa_cons (pe_ix (ix_listK K) (pe_lst (pa_cons pe_int (pa_cons pe_int (pa_cons pe_int pa_nil)))) (pv 2) (fun _ _ => rfl)) pa_nil)))))
  (pss_cons (ps_if (PW.pt (pw_and (pt_cmpR op_lt (pv 3) pe_int (nomark _)) (pw_and1 (pt_cmpR op_eq (pe_callG G__law_take (hr.mono (by first | decide | omega)) (by rfl) (pa_cons (pv 0) (pa_cons pe_int pa_nil))) pe_int (nomark _)))))
  (pss_one (ps_set (i := 1) nd rfl (by first | exact .inl rfl | exact .inr rfl) pe_int)) pss_nil)
  (pss_one (ps_ret (pe_tup (pa_cons (pe_ix (ix_listK K) (pe_lst (pa_cons pe_int (pa_cons pe_int (pa_cons pe_int (pa_cons pe_int (pa_cons pe_int pa_nil)))))) (pe_callG G__law_take (hr.mono (by first | decide | omega)) (by rfl) (pa_cons (pv 0) (pa_cons pe_int pa_nil))) (fun _ _ => rfl)) (pa_cons (pv 3) (pa_cons (pv 2) (pa_cons (pe_op op_add pe_int (pe_callG G__law_take (hr.mono (by first | decide | omega)) (by rfl) (pa_cons (pv 0) (pa_cons (pv 1) pa_nil)))) pa_nil)))))))))), ?_⟩
  try dsimp only [cxOf, Cx.wish]
  obtain ⟨L, d0, m1, m6, q⟩ := hyp
  kc_close
  intro l H1 nl s1 el
  have dl := d0.ne nl
  kc_close
  refine u_take (by ktr_room) (by omega) (by omega) fun H2 d b2 d2 g0 g1 => ?_
  obtain ⟨t, t0, t2, et⟩ := at5t g0 g1
  kc_close
  refine s_ixL (by ktr_room) et ?_
  kc_close
  intro l2 H3 nl2 s3 el2
  kc_close
  obtain ⟨k, k0, k1, k2, ek⟩ := at3n t0 t2
  refine s_ixL (SqL.of el2) ek ?_
  kc_close
  refine u_take (d2.same s3) (by omega) (by omega) fun H4 dn b4 d4 g2 g3 => ?_
  kc_close
  have bb : But c H H4 := ((But.of s1).trans b2).trans ((But.of s3).trans b4)
  refine s_cut (fun σ' H' => ∃ mo : Int, σ' = [some (.ref c), some (.int mo), some (.int t), some (.int (3 * t + 1 + dn))] ∧ But c H H' ∧ DR H' c L ∧ 1 ≤ mo ∧ mo ≤ 6) (fun N hN => ?_) ?_
  · refine s_if ?_
    kc_close
    refine ifP (fun h => ?_) (fun h => ?_)
    · kc_close
      refine u_take d4 (by omega) (by omega) fun H5 x b5 d5 g4 g5 => ?_
      kc_close
      refine ifI (fun h => ?_) (fun h => ?_)
      · kc_close
        exact hN _ _ ⟨6, rfl, bb.trans b5, d5, by omega, by omega⟩
      · kc_close
        exact hN _ _ ⟨mo, rfl, bb.trans b5, d5, m1, m6⟩
    · refine iteF ?_
      kc_close
      exact hN _ _ ⟨mo, rfl, bb, d4, m1, m6⟩
  rintro _ H5 ⟨mo, rfl, b5, d5, m1, m6⟩
  kc_close
  intro l3 H6 nl3 s6 el3
  have dl3 := d5.ne nl3
  kc_close
  refine u_take (by ktr_room) (by omega) (by omega) fun H7 x b7 d7 g4 g5 => ?_
  obtain ⟨p, hp, ep⟩ := ints5 g4 g5
  kc_close
  refine s_ixL (by ktr_room) ep ?_
  kc_close
  refine u_take d7 (by omega) (by omega) fun H8 y b8 d8 g6 g7 => ?_
  kc_close
  intro r H9 nr s9 er
  exact q H9 r p _ t _ ((b5.trans ((But.of s6).trans b7)).trans (b8.trans (But.of s9))) (d8.same s9) (SqT.of er) ⟨hp, t0, t2, by omega, by omega, by omega, by omega⟩
def spManyI (K : PySem.W.Frag) : Sp := fun vs H Q _ => ∃ c : Addr, vs = [.ref c] ∧ ∃ p n t m : Int, SU K H c p n t m ∧ 0 ≤ t ∧ t ≤ 10 ∧ Q (.int ((t + 1) * (t + 2) / 2)) H
theorem ok__law_many (h : Has K mg "_law_many" (topS 21) ["setup"]) : Good P w K mg base 1 "_law_many" ["setup"] (spManyI K) := by
  have sc : FnScope ["setup"] ["setup"] (defScope (topS 21)) := ⟨rfl, rfl, rfl, by decide +kernel, rfl, by decide +kernel, by decide +kernel⟩
  have nd := sc.nd
  refine h.good sc (fun vs H Q E h => by obtain ⟨c, rfl, _⟩ := h; rfl) (fun f cdv A outer s H vs Q E hr h => ?_)
  obtain ⟨c, rfl, hyp⟩ := h
  refine ⟨_, (pss_one (ps_ret (pe_op op_fdiv (pe_op op_mul (pe_op op_add (pe_ix (ix_tupK K) (pv 0) pe_int (fun _ _ => rfl)) pe_int) (pe_op op_add (pe_ix (ix_tupK K) (pv 0) pe_int (fun _ _ => rfl)) pe_int)) pe_int))), ?_⟩
  try dsimp only [cxOf, Cx.wish]
  obtain ⟨p, n, t, m, hc, t0, t1, q⟩ := hyp
  kc_close
  exact q
theorem many_lt {t : Int} (h0 : 0 ≤ t) (h1 : t ≤ 2) : 1 ≤ (t + 1) * (t + 2) / 2 ∧ (t + 1) * (t + 2) / 2 ≤ 6 := by
  rcases (show t = 0 ∨ t = 1 ∨ t = 2 by omega) with rfl | rfl | rfl <;> decide
def spTapes (K : PySem.W.Frag) : Sp := fun vs H Q _ => ∃ (c su : Addr), vs = [.ref c, .ref su] ∧ ∃ L p n t m, DR H c L ∧ SU K H su p n t m ∧ M.SetOk p n t m ∧
  ∀ H' q f, But c H H' → DR H' c L → IsTT K H' q f → f.length = n.toNat → (∀ r ∈ f, r.length = (m * ((t + 1) * (t + 2) / 2)).toNat ∧ ∀ x ∈ r, 0 ≤ x ∧ x < p) → Q (.ref q) H'
theorem ok__law_tapes (T : NoB mg) (h : Has K mg "_law_tapes" (topS 22) ["c", "setup"]) (G__law_many : Good P w K mg base 1 "_law_many" ["setup"] (spManyI K)) (G__law_take : Good P w K mg base 2 "_law_take" ["c", "many"] (spTake)) : Good P w K mg base 3 "_law_tapes" ["c", "setup"] (spTapes K) := by
  have sc : FnScope ["c", "setup", "found", "i", "k"] ["c", "setup"] (defScope (topS 22)) := ⟨rfl, rfl, rfl, by decide +kernel, rfl, by decide +kernel, by decide +kernel⟩
  have nd := sc.nd
  refine h.good sc (fun vs H Q E h => by obtain ⟨c, su, rfl, _⟩ := h; rfl) (fun f cdv A outer s H vs Q E hr h => ?_)
  obtain ⟨c, su, rfl, hyp⟩ := h
  refine ⟨_, (pss_cons (ps_set (i := 2) nd rfl (by first | exact .inl rfl | exact .inr rfl) (pe_lst pa_nil))
  (pss_cons (ps_for PassesOwn.never rfl (pi_range1 rfl T.n_range (pa_cons (pe_ix (ix_tupK K) (pv 1) pe_int (fun _ _ => rfl)) pa_nil)) (pg_name (i := 3) nd rfl (by first | exact .inl rfl | exact .inr rfl))
  (pss_one (ps_expr (pe_bmK K PySem.F.plainAttrs_list PySem.F.slot_list_append PySem.F.type_list_append mt_append (pv 2) (pa_cons (pe_callTy (c_tupK K) (by rfl) T.n_tuple (by decide +kernel) (pa_cons (pe_lc (own := [("k", 4)]) rfl nd (pi_range1 rfl T.n_range (pa_cons (pe_op op_mul (pe_ix (ix_tupK K) (pv 1) pe_int (fun _ _ => rfl)) (pe_callG G__law_many (hr.mono (by first | decide | omega)) (by rfl) (pa_cons (pv 1) pa_nil))) pa_nil)) (blkOk_by (own := [("k", 4)]) (N := ["c", "setup", "found", "i", "k"]) (by kernel_rfl)) (fun _ _ _ _ _ => (pg_name (i := 4) nd rfl (by first | exact .inl rfl | exact .inr rfl))) (fun _ _ _ _ _ => pts_nil) (fun _ _ _ _ _ => (pe_callG G__law_take (hr.mono (by first | decide | omega)) (by rfl) (pa_cons (pv 0) (pa_cons (pe_ix (ix_tupK K) (pv 1) pe_int (fun _ _ => rfl)) pa_nil))))) pa_nil)) pa_nil)))))
  (pss_one (ps_ret (pe_callTy (c_tupK K) (by rfl) T.n_tuple (by decide +kernel) (pa_cons (pv 2) pa_nil)))))), ?_⟩
  try dsimp only [cxOf, Cx.wish]
  obtain ⟨L, p, n, t, m, d0, hs, ok, q⟩ := hyp
  have pr := ok.pr.lt
  have ot0 := ok.t0
  have ot2 := ok.t2
  have ont := ok.nt
  have on7 := ok.n7
  have om1 := ok.m1
  have om6 := ok.m6
  have ml := many_lt ot0 ot2
  have line : (100000 : Nat) < sizeLine := by decide
  generalize hmt : (t + 1) * (t + 2) / 2 = mt at ml q
  have mm : 0 ≤ m * mt ∧ m * mt ≤ 36 := by
    rcases (show m = 1 ∨ m = 2 ∨ m = 3 ∨ m = 4 ∨ m = 5 ∨ m = 6 by omega) with rfl | rfl | rfl | rfl | rfl | rfl <;> omega
  kc_close
  intro D H1 nD s1 eD
  have nDC := d0.ne nD
  have nDL := d0.neL nD
  kc_close
  refine s_rng1v (by omega) (by omega) ?_
  refine w_range (fun i σ' H' => ∃ (y3 : Option V) (as : List Addr) (f : List (List Int)), σ' = [some (.ref c), some (.ref su), some (.ref D), y3, none] ∧ But c H H' ∧ DR H' c L ∧ H' D = some (.lst (as.map V.ref)) ∧ Paired (IsT K H') as f ∧ f.length = i ∧ ∀ r ∈ f, r.length = (m * mt).toNat ∧ ∀ x ∈ r, 0 ≤ x ∧ x < p) ⟨none, [], [], rfl, But.of s1, d0.same s1, eD, .nil, rfl, fun r h => (by cases h)⟩ ?_ ?_
  · rintro i _ H2 hi ⟨y3, as, f, rfl, b2, d2, eD2, hps, hl, hin⟩
    have hs2 : SU K H2 su p n t m := sqt_butD b2 d0 hs
    have las := Paired.length hps
    kc_close
    refine ⟨su, rfl, p, n, t, m, hs2, ot0, by omega, ?_⟩
    rw [hmt]
    kc_close
    refine s_rng1v (by omega) (by omega) ?_
    refine l_draws (C := c) (L := L) (fun x => 0 ≤ x ∧ x < p) d2 (by omega) ?_ ?_
    · intro D' N k H3 hk b3 d3 k3
      have hs3 : SU K H3 su p n t m := sqt_butD b3 d2 hs2
      kc_close
      refine u_take d3 (by omega) (by omega) fun H4 x b4 d4 g2 g3 => ?_
      kc_close
      exact k3 _ _ b4 d4 ⟨g2, g3⟩
    intro E1 H3 ls nE nEC nEL b3 d3 hl3 hin3 eE
    kc_close
    refine s_tupL (SqL.of eE) fun r H4 nr s4 er => ?_
    have eD4 := s4 _ _ (b3 _ _ nDC eD2)
    kc_close
    refine s_append eD4 (by rw [List.length_map]; omega) fun H5 b5 e5 => ?_
    have tk : TK K H2 H5 := ((tk_butD b3 d2).trans (TK.same s4)).trans (TK.but b5 eD4)
    refine ⟨_, as ++ [r], f ++ [ls], rfl, But.sameN b5 (((b2.trans b3)).trans (But.of s4)) nD, (d3.same s4).but b5 nDC nDL, ?_, ?_, ?_, ?_⟩
    · rw [List.map_append]
      exact e5
    · exact paired_app (L2.Paired.mapP hps fun a r h => tk _ _ h) (.cons (sqt_but b5 eD4 (SqT.of er)) .nil)
    · rw [List.length_append, hl]
      rfl
    · intro r' hr'
      rcases List.mem_append.mp hr' with hr' | hr'
      · exact hin r' hr'
      · rw [List.mem_singleton.mp hr']
        exact ⟨hl3, hin3⟩
  · rintro _ H2 ⟨y3, as, f, rfl, b2, d2, eD2, hps, hl, hin⟩
    kc_close
    refine s_tupL (SqL.of eD2) fun r H3 nr s3 er => ?_
    exact q H3 r f (b2.trans (But.of s3)) (d2.same s3) ⟨as, SqT.of er, L2.Paired.mapP hps fun a r h => sqt_same s3 h⟩ hl hin
def spAddr (K : PySem.W.Frag) : Sp := fun vs H Q _ => ∃ (c su : Addr) (step sd : Int), vs = [.ref c, .ref su, .int step, .int sd] ∧ ∃ L p n t m, DR H c L ∧ SU K H su p n t m ∧ M.SetOk p n t m ∧ 2 ≤ n ∧ 1 ≤ step ∧ step ≤ 8 ∧ M.Pty n sd ∧
  ∀ H' q x, But c H H' → DR H' c L → IsT K H' q x → M.AddrAt n t m step sd x → Q (.ref q) H'
theorem ok__law_address (T : NoB mg) (h : Has K mg "_law_address" (topS 23) ["c", "setup", "step", "sender"]) (G__law_take : Good P w K mg base 2 "_law_take" ["c", "many"] (spTake)) : Good P w K mg base 3 "_law_address" ["c", "setup", "step", "sender"] (spAddr K) := by
  have sc : FnScope ["c", "setup", "step", "sender", "p", "n", "t", "m", "other", "dealer", "a", "u"] ["c", "setup", "step", "sender"] (defScope (topS 23)) := ⟨rfl, rfl, rfl, by decide +kernel, rfl, by decide +kernel, by decide +kernel⟩
  have nd := sc.nd
  refine h.good sc (fun vs H Q E h => by obtain ⟨c, su, step, sd, rfl, _⟩ := h; rfl) (fun f cdv A outer s H vs Q E hr h => ?_)
  obtain ⟨c, su, step, sd, rfl, hyp⟩ := h
  refine ⟨_, (pss_cons (ps_asg (pv 1) (pg_tupK K 4 (by rfl) (pgs_cons (pg_name (i := 4) nd rfl (by first | exact .inl rfl | exact .inr rfl)) (pgs_cons (pg_name (i := 5) nd rfl (by first | exact .inl rfl | exact .inr rfl)) (pgs_cons (pg_name (i := 6) nd rfl (by first | exact .inl rfl | exact .inr rfl)) (pgs_cons (pg_name (i := 7) nd rfl (by first | exact .inl rfl | exact .inr rfl)) pgs_nil))))))
  (pss_cons (ps_set (i := 8) nd rfl (by first | exact .inl rfl | exact .inr rfl) (pe_op op_add (pe_op op_mod (pe_callTy c_int1 (by rfl) T.n_int (by decide +kernel) (pa_cons (pe_op op_add (pv 3) (pe_callG G__law_take (hr.mono (by first | decide | omega)) (by rfl) (pa_cons (pv 0) (pa_cons (pe_callB (c_max2 rfl) (by rfl) T.n_max (by decide +kernel) (pa_cons pe_int (pa_cons (pe_op op_sub (pv 5) pe_int) pa_nil))) pa_nil)))) pa_nil)) (pv 5)) pe_int))
  (pss_cons (ps_set (i := 9) nd rfl (by first | exact .inl rfl | exact .inr rfl) (pe_op op_add pe_int (pe_callG G__law_take (hr.mono (by first | decide | omega)) (by rfl) (pa_cons (pv 0) (pa_cons (pv 5) pa_nil)))))
  (pss_cons (ps_set (i := 10) nd rfl (by first | exact .inl rfl | exact .inr rfl) (pe_callG G__law_take (hr.mono (by first | decide | omega)) (by rfl) (pa_cons (pv 0) (pa_cons (pv 7) pa_nil))))
  (pss_cons (ps_set (i := 11) nd rfl (by first | exact .inl rfl | exact .inr rfl) (pe_callG G__law_take (hr.mono (by first | decide | omega)) (by rfl) (pa_cons (pv 0) (pa_cons (pe_op op_add (pv 6) pe_int) pa_nil))))
  (pss_cons (ps_if (pt_cmpR op_eq (pv 2) pe_int (nomark _))
  (pss_one (ps_ret (pe_tup (pa_cons pe_int (pa_cons (pv 3) (pa_cons (pv 8) (pa_cons (pv 10) (pa_cons (pv 11) pa_nil)))))))) pss_nil)
  (pss_cons (ps_if (pt_cmpR op_eq (pv 2) pe_int (nomark _))
  (pss_one (ps_ret (pe_tup (pa_cons pe_int (pa_cons (pv 3) (pa_cons (pv 8) (pa_cons (pv 9) (pa_cons (pv 10) pa_nil)))))))) pss_nil)
  (pss_cons (ps_if (pt_cmpR op_eq (pv 2) pe_int (nomark _))
  (pss_one (ps_ret (pe_tup (pa_cons pe_int (pa_cons (pv 3) (pa_cons pe_int (pa_cons (pv 9) (pa_cons (pv 8) pa_nil)))))))) pss_nil)
  (pss_cons (ps_if (pt_cmpR op_eq (pv 2) pe_int (nomark _))
  (pss_one (ps_ret (pe_tup (pa_cons pe_int (pa_cons (pv 3) (pa_cons pe_int (pa_cons (pv 9) (pa_cons (pe_op op_add (pe_op op_mod (pe_callTy c_int1 (by rfl) T.n_int (by decide +kernel) (pa_cons (pe_op op_add (pv 9) (pe_callG G__law_take (hr.mono (by first | decide | omega)) (by rfl) (pa_cons (pv 0) (pa_cons (pe_op op_sub (pv 5) pe_int) pa_nil)))) pa_nil)) (pv 5)) pe_int) (pa_cons (pv 10) pa_nil))))))))) pss_nil)
  (pss_cons (ps_if (PW.pt (pw_or (pt_cmpR op_eq (pv 2) pe_int (nomark _)) (pw_or1 (pt_cmpR op_eq (pv 2) pe_int (nomark _)))))
  (pss_one (ps_ret (pe_tup (pa_cons (pv 2) (pa_cons (pv 3) (pa_cons pe_int (pa_cons (pv 9) pa_nil))))))) pss_nil)
  (pss_cons (ps_if (pt_cmpR op_eq (pv 2) pe_int (nomark _))
  (pss_one (ps_ret (pe_tup (pa_cons pe_int (pa_cons (pv 3) (pa_cons pe_int (pa_cons (pv 9) (pa_cons (pv 10) (pa_cons (pv 11) pa_nil))))))))) pss_nil)
  (pss_one (ps_ret (pe_tup (pa_cons pe_int (pa_cons (pv 3) (pa_cons pe_int (pa_cons (pv 10) pa_nil)))))))))))))))))), ?_⟩
  try dsimp only [cxOf, Cx.wish]
  obtain ⟨L, p, n, t, m, d0, hs, ok, n2, st1, st8, ⟨sd1, sd2⟩, q⟩ := hyp
  have ot0 := ok.t0
  have ot2 := ok.t2
  have ont := ok.nt
  have on7 := ok.n7
  have om1 := ok.m1
  have om6 := ok.m6
  kc_close
  rw [show (if n - 1 > 1 then n - 1 else 1) = n - 1 by split <;> omega]
  refine u_take d0 (by omega) (by omega) fun H1 x1 b1 d1 g0 g1 => ?_
  kc_close
  refine u_take d1 (by omega) (by omega) fun H2 x2 b2 d2 g2 g3 => ?_
  kc_close
  refine u_take d2 (by omega) (by omega) fun H3 x3 b3 d3 g4 g5 => ?_
  kc_close
  refine u_take d3 (by omega) (by omega) fun H4 x4 b4 d4 g6 g7 => ?_
  obtain ⟨po, no⟩ := M.other_ne n2 on7 sd1 sd2 g0 g1
  have bb := (b1.trans b2).trans (b3.trans b4)
  have ps : M.Pty n sd := ⟨sd1, sd2⟩
  have pd : M.Pty n (1 + x2) := ⟨by omega, by omega⟩
  have ia : M.Idx m x3 := ⟨g4, g5⟩
  have iu : M.Idx (t + 1) x4 := ⟨g6, g7⟩
  have fin : ∀ (xs : List Int), M.AddrAt n t m step sd xs → ∀ r H', H4 r = none → Same H4 H' → H' r = some (.tup (xs.map V.int)) → Q (.ref r) H' := fun xs ha r H' nr s' er => q H' r xs (bb.trans (But.of s')) (d4.same s') (SqT.of er) ha
  kc_close
  refine s_if ?_
  kc_close
  refine ifI (fun h => ?_) (fun h1 => ?_)
  · subst h
    kc_close
    exact fin _ (.r1 ps po no ia iu)
  kc_close
  refine s_if ?_
  kc_close
  refine ifI (fun h => ?_) (fun h2 => ?_)
  · subst h
    kc_close
    exact fin _ (.r2 ps po no pd ia)
  kc_close
  refine s_if ?_
  kc_close
  refine ifI (fun h => ?_) (fun h3 => ?_)
  · subst h
    kc_close
    exact fin _ (.r3 ps pd po no)
  kc_close
  refine s_if ?_
  kc_close
  refine ifI (fun h => ?_) (fun h4 => ?_)
  · subst h
    kc_close
    refine u_take d4 (by omega) (by omega) fun H5 x5 b5 d5 g8 g9 => ?_
    obtain ⟨pk, nk⟩ := M.other_ne n2 on7 pd.1 pd.2 g8 g9
    kc_close
    intro r H6 nr s6 er
    exact q H6 r [4, sd, 0, 1 + x2, (1 + x2 + x5) % n + 1, x3] (bb.trans (b5.trans (But.of s6))) (d5.same s6) (SqT.of er) (.r4 ps pd pk nk ia)
  kc_close
  refine s_if ?_
  kc_close
  refine ifI (fun h => ?_) (fun h5 => ?_)
  · subst h
    refine iteT ?_
    kc_close
    exact fin _ (.r5 ps pd)
  kc_close
  refine ifI (fun h => ?_) (fun h7 => ?_)
  · subst h
    kc_close
    exact fin _ (.r7 ps pd)
  kc_close
  refine s_if ?_
  kc_close
  refine ifI (fun h => ?_) (fun h6 => ?_)
  · subst h
    kc_close
    exact fin _ (.r6 ps pd ia iu)
  have h8 : step = 8 := by omega
  subst h8
  kc_close
  exact fin _ (.r8 ps ia)
end
end K1
end
section
open PySem PySem.Spec PyProof.Rows L2 Z
local macro_rules | `(tactic| ktr_room) => `(tactic| first
  | assumption
  | (apply SqT.of; assumption)
  | (apply SqL.of; assumption)
  | (apply sqt_same; assumption; ktr_room)
  | (apply sql_same; assumption; ktr_room)
  | (apply sqt_but; assumption; assumption; ktr_room)
  | (apply sql_but; assumption; assumption; ktr_room)
  | (apply Same.of_; assumption; ktr_room)
  | (apply But.of_; assumption; assumption; ktr_room)
  | exact same_refl
  | exact but_refl
  | (apply same_tr; assumption; ktr_room)
  | (apply same_but; assumption; ktr_room; assumption)
  | (apply but_tr; assumption; ktr_room)
  | (apply but_trB; assumption; ktr_room))
local macro_rules | `(tactic| ktr_units) => `(tactic| first | with_reducible assumption | omega | rfl | exact ⟨by omega, by omega⟩ | exact .inl ⟨by omega, by omega⟩ | exact .inr ⟨by omega, by omega⟩ | exact ⟨by decide, by decide, by decide⟩ | exact Nat.le_of_ble_eq_true rfl | decide)
local macro_rules | `(tactic| kc_close) => `(tactic| repeat (with_reducible first
  | refine s_var (by with_unfolding_all rfl) ?_
  | refine s_c ?_
  | refine s_op ?_
  | refine s_rI0 ?_
  | refine s_asg ?_
  | refine s_gname ?_
  | refine s_seq ?_
  | refine s_cons ?_
  | refine s_nil ?_
  | refine s_call ?_
  | refine s_ret ?_
  | o_fieldsN
  | refine s_test ?_
  | refine s_bl ?_
  | refine s_rI (by with_unfolding_all (ktr_units)) ?_
  | refine s_rEq rfl ?_
  | refine s_rNe rfl ?_
  | refine s_cb ?_
  | refine s_int1 ?_
  | refine s_intB ?_
  | refine s_max2 ?_
  | refine s_min2 ?_
  | refine s_tup ?_
  | refine s_lst ?_
  | refine s_newT (by with_unfolding_all first | decide | exact Nat.le_of_ble_eq_true rfl) ?_
  | refine s_newL (by with_unfolding_all first | decide | exact Nat.le_of_ble_eq_true rfl) ?_
  | refine s_ixT (by ktr_room) (by with_unfolding_all rfl) ?_
  | refine s_ixL (by ktr_room) (by with_unfolding_all rfl) ?_
  | refine s_lenT (by ktr_room) ?_
  | refine s_lenL (by ktr_room) ?_
  | refine s_un ?_
  | refine s_rU ?_
  | refine s_and ?_
  | refine s_or ?_
  | refine s_not ?_
  | refine s_tB ?_
  | refine s_tru ?_
  | refine s_drop ?_
  | refine s_next ?_
  | refine s_for ?_
  | refine s_rng1 ?_
  | refine s_rng2 ?_
  | refine s_rng3 ?_
  | refine s_ilist ?_
  | refine s_itup ?_
  | refine s_iany ?_
  | refine s_ienum ?_
  | refine s_irev ?_
  | refine s_gcons ?_
  | refine s_gnil ?_
  | refine s_gtup (by ktr_room) (by with_unfolding_all rfl) ?_
  | refine s_gsub ?_
  | refine s_augS ?_
  | refine s_aug (by with_unfolding_all rfl) ?_
  | refine s_ipI ?_
  | refine s_bm ?_
  | refine s_bm0 ?_
  | refine s_tyL (by ktr_room) ?_
  | refine s_tyL0 (by ktr_room) ?_
  | refine s_sl ?_
  | refine s_part ?_
  | refine s_partv ?_
  | refine s_noPart ?_
  | refine s_lc ?_
  | refine s_yes ?_
  | refine s_wipe (by with_unfolding_all rfl) ?_
  | refine iteT ?_
  | refine s_retN ?_
  | refine s_isN ?_
  | refine s_truB ?_
  | refine s_isB2 ?_
  | refine s_notB2 ?_
  | refine s_revT ?_
  | refine s_andV ?_
  | refine s_orV ?_
  | refine s_ifE ?_
  | refine s_notK ?_
  | refine s_notN ?_
  | refine s_truL (by ktr_room) ?_
  | refine s_truT (by ktr_room) ?_))
open K1
local macro_rules | `(tactic| ktr_room) => `(tactic| first
  | (apply DR.same; assumption; ktr_room)
  | (apply sqt_butD; assumption; ktr_room; ktr_room))
namespace K1
section
variable {P : Program} {w : World} {K : PySem.W.Frag} {mg : Str → Option Value} {base : Heap}
def spScript (K : PySem.W.Frag) : Sp := fun vs H Q _ => ∃ (c su : Addr), vs = [.ref c, .ref su] ∧ ∃ L p n t m, DR H c L ∧ SU K H su p n t m ∧ M.SetOk p n t m ∧
  ∀ H' q s, But c H H' → DR H' c L → IsScr K H' q s → M.ScrOk p n t m s → s.rules.length ≤ 13 → Q (.ref q) H'
theorem at2n {d : Int} (h0 : 0 ≤ d) (h1 : d < 2) : ∃ m : Int, (m = 4 ∨ m = 14) ∧ atI [V.int 4, .int 14] d = some (.int m) := by
  rcases (show d = 0 ∨ d = 1 by omega) with rfl | rfl
  · exact ⟨4, .inl rfl, rfl⟩
  · exact ⟨14, .inr rfl, rfl⟩
theorem at3c {a b c : Addr} {d : Int} (h0 : 0 ≤ d) (h1 : d < 4) : ∃ x : Addr, (x = a ∨ x = b ∨ x = c) ∧ (x = a ∧ d = 0 ∨ x = b ∧ d = 1 ∨ x = c ∧ 2 ≤ d) ∧ atI [V.ref a, .ref b, .ref c] (if 2 < d then 2 else d) = some (.ref x) := by
  rcases (show d = 0 ∨ d = 1 ∨ d = 2 ∨ d = 3 by omega) with rfl | rfl | rfl | rfl
  · exact ⟨a, .inl rfl, .inl ⟨rfl, rfl⟩, rfl⟩
  · exact ⟨b, .inr (.inl rfl), .inr (.inl ⟨rfl, rfl⟩), rfl⟩
  · exact ⟨c, .inr (.inr rfl), .inr (.inr ⟨rfl, by omega⟩), rfl⟩
  · exact ⟨c, .inr (.inr rfl), .inr (.inr ⟨rfl, by omega⟩), rfl⟩
theorem bit01 (b : Bool) : (if b = true then (1 : Int) else 0) = 0 ∨ (if b = true then (1 : Int) else 0) = 1 := by cases b <;> simp
/-- the slots -/
abbrev stS (c su foes k i rules step address kind change : Option V := none) : L2.St := [c, su, foes, k, i, rules, step, address, kind, change]
theorem ok__law_script (T : NoB mg) (h : Has K mg "_law_script" (topS 24) ["c", "setup"]) (G__law_take : Good P w K mg base 2 "_law_take" ["c", "many"] (spTake)) (G__law_address : Good P w K mg base 3 "_law_address" ["c", "setup", "step", "sender"] (spAddr K)) : Good P w K mg base 4 "_law_script" ["c", "setup"] (spScript K) := by
  have sc : FnScope ["c", "setup", "foes", "k", "i", "rules", "step", "address", "kind", "change"] ["c", "setup"] (defScope (topS 24)) := ⟨rfl, rfl, rfl, by decide +kernel, rfl, by decide +kernel, by decide +kernel⟩
  have nd := sc.nd
  refine h.good sc (fun vs H Q E h => by obtain ⟨c, su, rfl, _⟩ := h; rfl) (fun f cdv A outer s H vs Q E hr h => ?_)
  obtain ⟨c, su, rfl, hyp⟩ := h
  refine ⟨_, (pss_cons (ps_set (i := 2) nd rfl (by first | exact .inl rfl | exact .inr rfl) (pe_lst pa_nil))
  (pss_cons (ps_for PassesOwn.never rfl (pi_range1 rfl T.n_range (pa_cons (pe_op op_add (pe_callG G__law_take (hr.mono (by first | decide | omega)) (by rfl) (pa_cons (pv 0) (pa_cons (pe_op op_add (pe_ix (ix_tupK K) (pv 1) pe_int (fun _ _ => rfl)) pe_int) pa_nil))) (pe_callTy c_int1 (by rfl) T.n_int (by decide +kernel) (pa_cons (pe_cmpR op_eq (pe_callG G__law_take (hr.mono (by first | decide | omega)) (by rfl) (pa_cons (pv 0) (pa_cons pe_int pa_nil))) pe_int (nomark _)) pa_nil))) pa_nil)) (pg_name (i := 3) nd rfl (by first | exact .inl rfl | exact .inr rfl))
  (pss_cons (ps_set (i := 4) nd rfl (by first | exact .inl rfl | exact .inr rfl) (pe_op op_add pe_int (pe_callG G__law_take (hr.mono (by first | decide | omega)) (by rfl) (pa_cons (pv 0) (pa_cons (pe_ix (ix_tupK K) (pv 1) pe_int (fun _ _ => rfl)) pa_nil)))))
  (pss_one (ps_if (PW.pt (pw_and (pt_cmpR op_lt (pe_callB (c_lenK K) (by rfl) T.n_len (by decide +kernel) (pa_cons (pv 2) pa_nil)) (pe_ix (ix_tupK K) (pv 1) pe_int (fun _ _ => rfl)) (nomark _)) (pw_and1 (pt_cmpR (op_notInK K) (pv 4) (pv 2) (by rfl)))))
  (pss_one (ps_expr (pe_bmK K PySem.F.plainAttrs_list PySem.F.slot_list_append PySem.F.type_list_append mt_append (pv 2) (pa_cons (pv 4) pa_nil)))) pss_nil))))
  (pss_cons (ps_set (i := 5) nd rfl (by first | exact .inl rfl | exact .inr rfl) (pe_lst pa_nil))
  (pss_cons (ps_for PassesOwn.never rfl (pi_range1 rfl T.n_range (pa_cons (pe_op op_mul (pe_callG G__law_take (hr.mono (by first | decide | omega)) (by rfl) (pa_cons (pv 0) (pa_cons (pe_ix (ix_listK K) (pe_lst (pa_cons pe_int (pa_cons pe_int pa_nil))) (pe_callG G__law_take (hr.mono (by first | decide | omega)) (by rfl) (pa_cons (pv 0) (pa_cons pe_int pa_nil))) (fun _ _ => rfl)) pa_nil))) (pe_callTy c_int1 (by rfl) T.n_int (by decide +kernel) (pa_cons (pe_cmpR op_gt (pe_callB (c_lenK K) (by rfl) T.n_len (by decide +kernel) (pa_cons (pv 2) pa_nil)) pe_int (nomark _)) pa_nil))) pa_nil)) (pg_name (i := 3) nd rfl (by first | exact .inl rfl | exact .inr rfl))
  (pss_cons (ps_set (i := 6) nd rfl (by first | exact .inl rfl | exact .inr rfl) (pe_op op_add pe_int (pe_callG G__law_take (hr.mono (by first | decide | omega)) (by rfl) (pa_cons (pv 0) (pa_cons pe_int pa_nil)))))
  (pss_cons (ps_set (i := 7) nd rfl (by first | exact .inl rfl | exact .inr rfl) (pe_callG G__law_address (hr.mono (by first | decide | omega)) (by rfl) (pa_cons (pv 0) (pa_cons (pv 1) (pa_cons (pv 6) (pa_cons (pe_ix (ix_listK K) (pv 2) (pe_callG G__law_take (hr.mono (by first | decide | omega)) (by rfl) (pa_cons (pv 0) (pa_cons (pe_callB (c_lenK K) (by rfl) T.n_len (by decide +kernel) (pa_cons (pv 2) pa_nil)) pa_nil))) (fun _ _ => rfl)) pa_nil))))))
  (pss_cons (ps_set (i := 8) nd rfl (by first | exact .inl rfl | exact .inr rfl) (pe_callG G__law_take (hr.mono (by first | decide | omega)) (by rfl) (pa_cons (pv 0) (pa_cons pe_int pa_nil))))
  (pss_cons (ps_set (i := 9) nd rfl (by first | exact .inl rfl | exact .inr rfl) (pe_ix (ix_listK K) (pe_lst (pa_cons (pe_tup (pa_cons pe_str (pa_cons (pe_callG G__law_take (hr.mono (by first | decide | omega)) (by rfl) (pa_cons (pv 0) (pa_cons (pe_ix (ix_tupK K) (pv 1) pe_int (fun _ _ => rfl)) pa_nil))) pa_nil))) (pa_cons (pe_tup (pa_cons pe_str (pa_cons (pe_callG G__law_take (hr.mono (by first | decide | omega)) (by rfl) (pa_cons (pv 0) (pa_cons (pe_ix (ix_tupK K) (pv 1) pe_int (fun _ _ => rfl)) pa_nil))) pa_nil))) (pa_cons (pe_tup (pa_cons pe_str pa_nil)) pa_nil)))) (pe_callB (c_min2 rfl) (by rfl) T.n_min (by decide +kernel) (pa_cons (pv 8) (pa_cons pe_int pa_nil))) (fun _ _ => rfl)))
  (pss_cons (ps_if (pt_cmpR op_eq (pv 8) pe_int (nomark _))
  (pss_one (ps_set (i := 9) nd rfl (by first | exact .inl rfl | exact .inr rfl) (pe_tup (pa_cons pe_str (pa_cons (pe_callG G__law_address (hr.mono (by first | decide | omega)) (by rfl) (pa_cons (pv 0) (pa_cons (pv 1) (pa_cons (pe_op op_add pe_int (pe_callG G__law_take (hr.mono (by first | decide | omega)) (by rfl) (pa_cons (pv 0) (pa_cons pe_int pa_nil)))) (pa_cons (pe_op op_add pe_int (pe_callG G__law_take (hr.mono (by first | decide | omega)) (by rfl) (pa_cons (pv 0) (pa_cons (pe_ix (ix_tupK K) (pv 1) pe_int (fun _ _ => rfl)) pa_nil)))) pa_nil))))) pa_nil))))) pss_nil)
  (pss_one (ps_expr (pe_bmK K PySem.F.plainAttrs_list PySem.F.slot_list_append PySem.F.type_list_append mt_append (pv 5) (pa_cons (pe_tup (pa_cons (pv 7) (pa_cons (pv 9) pa_nil))) pa_nil))))))))))
  (pss_one (ps_ret (pe_tup (pa_cons (pe_callTy (c_tupK K) (by rfl) T.n_tuple (by decide +kernel) (pa_cons (pe_callB (cr_sortedK K) (by rfl) T.n_sorted (by decide +kernel) (pa_cons (pv 2) pa_nil)) pa_nil)) (pa_cons (pe_callTy (c_tupK K) (by rfl) T.n_tuple (by decide +kernel) (pa_cons (pv 5) pa_nil)) pa_nil))))))))), ?_⟩
  try dsimp only [cxOf, Cx.wish]
  obtain ⟨L, p, n, t, m, d0, hs, ok, q⟩ := hyp
  have pr := ok.pr.lt
  have ot0 := ok.t0
  have ot2 := ok.t2
  have ont := ok.nt
  have on7 := ok.n7
  have om1 := ok.m1
  have om6 := ok.m6
  have line : (100000 : Nat) < sizeLine := by decide
  refine s_seq ?_
  refine s_cut (fun σ' H' => ∃ D : Addr, σ' = stS (some (.ref c)) (some (.ref su)) (some (.ref D)) ∧ Same H H' ∧ H D = none ∧ H' D = some (.lst [])) (fun N hN => ?_) ?_
  · kc_close
    intro D H3 nD s3 eD
    kc_close
    exact hN _ _ ⟨D, rfl, s3, nD, eD⟩
  rintro _ H1 ⟨D, rfl, s1, nD, eD⟩
  have nDC := d0.ne nD
  have nDL := d0.neL nD
  -- foes
  refine s_seq ?_
  refine s_cut (fun σ' H' => ∃ (y3 y4 : Option V) (fs : List Int), σ' = stS (some (.ref c)) (some (.ref su)) (some (.ref D)) y3 y4 ∧ But c H H' ∧ DR H' c L ∧ H' D = some (.lst (fs.map V.int)) ∧ fs.Nodup ∧ (∀ i ∈ fs, M.Pty n i) ∧ (fs.length : Int) ≤ t) (fun N hN => ?_) ?_
  · have hs1 : SU K H1 su p n t m := sqt_same s1 hs
    kc_close
    refine u_take (d0.same s1) (by omega) (by omega) fun H2 x2 b2 d2 g0 g1 => ?_
    kc_close
    refine u_take d2 (by omega) (by omega) fun H3 x3 b3 d3 g2 g3 => ?_
    have bit := bit01 (decide (V.int x3 = V.int 0))
    kc_close
    generalize (if decide (V.int x3 = V.int 0) = true then (1 : Int) else 0) = z at bit ⊢
    refine s_rng1v (by omega) (by omega) ?_
    refine w_range (fun i σ' H' => ∃ (y3 y4 : Option V) (fs : List Int), σ' = stS (some (.ref c)) (some (.ref su)) (some (.ref D)) y3 y4 ∧ But c H H' ∧ DR H' c L ∧ H' D = some (.lst (fs.map V.int)) ∧ fs.Nodup ∧ (∀ i ∈ fs, M.Pty n i) ∧ (fs.length : Int) ≤ t) ⟨none, none, [], rfl, (But.of s1).trans (b2.trans b3), d3, b3 _ _ nDC (b2 _ _ nDC eD), List.nodup_nil, fun i h => (by cases h), ot0⟩ ?_ ?_
    · rintro i _ H4 hi ⟨y3, y4, fs, rfl, b4, d4, e4, nd4, in4, le4⟩
      have hs4 : SU K H4 su p n t m := sqt_butD b4 d0 hs
      kc_close
      refine u_take d4 (by omega) (by omega) fun H5 x5 b5 d5 g4 g5 => ?_
      have e5 := b5 _ _ nDC e4
      have hs5 : SU K H5 su p n t m := sqt_butD b5 d4 hs4
      have k5 : IsL K H5 D fs := SqL.of e5
      kc_close
      refine s_if ?_
      kc_close
      rw [List.length_map]
      refine ifP (fun h => ?_) (fun h => ?_)
      · kc_close
        refine s_notInI (.inl k5) ?_
        kc_close
        by_cases hm : (1 + x5) ∈ fs
        · refine ifFalse (by rw [decide_eq_true hm]; rfl) ?_
          kc_close
          exact ⟨_, _, fs, rfl, b4.trans b5, d5, e5, nd4, in4, le4⟩
        · refine ifTrue (by rw [decide_eq_false hm]; rfl) ?_
          kc_close
          refine s_append e5 (by rw [List.length_map]; omega) fun H6 b6 e6 => ?_
          refine ⟨_, _, fs ++ [1 + x5], rfl, But.sameN b6 (b4.trans b5) nD, d5.but b6 nDC nDL, ?_, ?_, ?_, ?_⟩
          · rw [List.map_append]
            exact e6
          · refine List.nodup_append.mpr ⟨nd4, List.nodup_cons.mpr ⟨by simp, List.nodup_nil⟩, fun a ha b hb => ?_⟩
            rw [List.mem_singleton.mp hb]
            intro z
            exact hm (z ▸ ha)
          · intro j hj
            rcases List.mem_append.mp hj with hj | hj
            · exact in4 j hj
            · rw [List.mem_singleton.mp hj]
              exact ⟨by omega, by omega⟩
          · rw [List.length_append]
            show ((fs.length + 1 : Nat) : Int) ≤ t
            omega
      · refine iteF ?_
        kc_close
        exact ⟨_, _, fs, rfl, b4.trans b5, d5, e5, nd4, in4, le4⟩
    · rintro _ H4 ⟨y3, y4, fs, rfl, b4, d4, e4, nd4, in4, le4⟩
      exact hN _ _ ⟨y3, y4, fs, rfl, b4, d4, e4, nd4, in4, le4⟩
  rintro _ H2 ⟨y3, y4, fs, rfl, b2, d2, e2, nd, inn, few⟩
  -- rules
  refine s_seq ?_
  refine s_cut (fun σ' H' => ∃ R : Addr, σ' = stS (some (.ref c)) (some (.ref su)) (some (.ref D)) y3 y4 (some (.ref R)) ∧ Same H2 H' ∧ H2 R = none ∧ H' R = some (.lst [])) (fun N hN => ?_) ?_
  · kc_close
    intro R H3 nR s3 eR
    kc_close
    exact hN _ _ ⟨R, rfl, s3, nR, eR⟩
  rintro _ H3 ⟨R, rfl, s3, nR, eR⟩
  have d3 := d2.same s3
  have e3 := s3 _ _ e2
  have nRC := d2.ne nR
  have nRL := d2.neL nR
  have nRD : R ≠ D := fun z => by
    subst z
    rw [e2] at nR
    cases nR
  have nR0 : H R = none := by
    cases h : H R with
    | none => rfl
    | some o =>
      have := b2 _ _ nRC h
      rw [nR] at this
      cases this
  have b3 := b2.trans (But.of s3)
  refine s_seq ?_
  refine s_cut (fun σ' H' => ∃ (y3 y4 y6 y7 y8 y9 : Option V) (as : List Addr) (rs : List (List Int × M.Chg)), σ' = stS (some (.ref c)) (some (.ref su)) (some (.ref D)) y3 y4 (some (.ref R)) y6 y7 y8 y9 ∧ But c H H' ∧ DR H' c L ∧ H' D = some (.lst (fs.map V.int)) ∧ H' R = some (.lst (as.map V.ref)) ∧ Paired (IsRule K H') as rs ∧ rs.length ≤ 13 ∧
    ∀ r ∈ rs, (∃ st i, M.AddrAt n t m st i r.1 ∧ i ∈ fs) ∧ M.ChgOk p n t m r.2) (fun N hN => ?_) ?_
  · have k3 : IsL K H3 D fs := SqL.of e3
    kc_close
    intro l H4 nl s4 el
    have dl := d3.ne nl
    kc_close
    refine u_take (by ktr_room) (by omega) (by omega) fun H5 x5 b5 d5 g0 g1 => ?_
    obtain ⟨mx, hmx, emx⟩ := at2n g0 g1
    kc_close
    refine s_ixL (by ktr_room) emx ?_
    kc_close
    refine u_take d5 (by omega) (by omega) fun H6 x6 b6 d6 g2 g3 => ?_
    have nDl : D ≠ l := ne_of_none e3 nl
    have eR4 := s4 _ _ eR
    have e6 := b6 _ _ nDC (b5 _ _ nDC (s4 _ _ e3))
    have eR6 := b6 _ _ nRC (b5 _ _ nRC eR4)
    have k6 : IsL K H6 D fs := SqL.of e6
    have b36 : But c H3 H6 := (But.of s4).trans (b5.trans b6)
    have bit := bit01 (decide (((fs.map V.int).length : Int) > 0))
    have bit2 : fs = [] → (if decide (((fs.map V.int).length : Int) > 0) = true then (1 : Int) else 0) = 0 := fun h => by
      subst h
      rfl
    kc_close
    generalize (if decide (((fs.map V.int).length : Int) > 0) = true then (1 : Int) else 0) = z at bit bit2 ⊢
    have hz : 0 ≤ x6 * z ∧ x6 * z ≤ 13 := by rcases bit with rfl | rfl <;> omega
    have hz2 : ∀ i : Nat, i < (x6 * z).toNat → 0 < fs.length := fun i hi => by
      rcases Nat.eq_zero_or_pos fs.length with h | h
      · have := bit2 (List.length_eq_zero_iff.mp h)
        subst this
        omega
      · exact h
    refine s_rng1v (by omega) (by omega) ?_
    refine w_range (fun i σ' H' => ∃ (y3 y4 y6 y7 y8 y9 : Option V) (as : List Addr) (rs : List (List Int × M.Chg)), σ' = stS (some (.ref c)) (some (.ref su)) (some (.ref D)) y3 y4 (some (.ref R)) y6 y7 y8 y9 ∧ But c H H' ∧ DR H' c L ∧ H' D = some (.lst (fs.map V.int)) ∧ H' R = some (.lst (as.map V.ref)) ∧ Paired (IsRule K H') as rs ∧ rs.length = i ∧
      ∀ r ∈ rs, (∃ st i, M.AddrAt n t m st i r.1 ∧ i ∈ fs) ∧ M.ChgOk p n t m r.2) ⟨y3, y4, none, none, none, none, [], [], rfl, b3.trans b36, d6, e6, eR6, .nil, rfl, fun r h => (by cases h)⟩ ?_ ?_
    · rintro i _ H7 hi ⟨y3, y4, y6, y7, y8, y9, as, rs, rfl, b7, d7, e7, eR7, hps, lrs, hrs⟩
      have fpos := hz2 i hi
      have t1 : 1 ≤ t := by omega
      have hs7 : SU K H7 su p n t m := sqt_butD b7 d0 hs
      have lps := Paired.length hps
      refine s_gname ?_
      refine s_seq ?_
      refine s_cut (fun σ' H' => ∃ (st : Int), σ' = stS (some (.ref c)) (some (.ref su)) (some (.ref D)) (some (.int (0 + (i : Nat)))) y4 (some (.ref R)) (some (.int st)) y7 y8 y9 ∧ But c H7 H' ∧ DR H' c L ∧ 1 ≤ st ∧ st ≤ 8) (fun N hN => ?_) ?_
      · kc_close
        refine u_take d7 (by omega) (by omega) fun H8 x8 b8 d8 g4 g5 => ?_
        kc_close
        exact hN _ _ ⟨1 + x8, rfl, b8, d8, by omega, by omega⟩
      rintro _ H8 ⟨st, rfl, b8, d8, st1, st8⟩
      have hs8 : SU K H8 su p n t m := sqt_butD b8 d7 hs7
      have e8 := b8 _ _ nDC e7
      have k8 : IsL K H8 D fs := SqL.of e8
      refine s_seq ?_
      refine s_cut (fun σ' H' => ∃ (A : Addr) (x : List Int) (sd : Int), σ' = stS (some (.ref c)) (some (.ref su)) (some (.ref D)) (some (.int (0 + (i : Nat)))) y4 (some (.ref R)) (some (.int st)) (some (.ref A)) y8 y9 ∧ But c H7 H' ∧ DR H' c L ∧ IsT K H' A x ∧ M.AddrAt n t m st sd x ∧ sd ∈ fs) (fun N hN => ?_) ?_
      · kc_close
        rw [List.length_map]
        refine u_take d8 (by omega) (by omega) fun H9 x9 b9 d9 g4 g5 => ?_
        have k9 : IsL K H9 D fs := SqL.of (b9 _ _ nDC e8)
        have hf : fs.getD x9.toNat 0 ∈ fs := by
          rw [List.getD_eq_getElem?_getD, List.getElem?_eq_getElem (by omega)]
          exact List.getElem_mem _
        kc_close
        refine s_ixL k9 (at_intI (k := x9.toNat) (by omega) (by omega)) ?_
        kc_close
        refine ⟨c, su, st, _, rfl, L, p, n, t, m, d9, sqt_butD b9 d8 hs8, ok, by omega, st1, st8, inn _ hf, fun H10 A x b10 d10 hA hx => ?_⟩
        kc_close
        exact hN _ _ ⟨A, x, _, rfl, (b8.trans b9).trans b10, d10, hA, hx, hf⟩
      rintro _ H9 ⟨A, x, sd, rfl, b9, d9, hA, hx, hsd⟩
      refine s_seq ?_
      refine s_cut (fun σ' H' => ∃ (kd : Int), σ' = stS (some (.ref c)) (some (.ref su)) (some (.ref D)) (some (.int (0 + (i : Nat)))) y4 (some (.ref R)) (some (.int st)) (some (.ref A)) (some (.int kd)) y9 ∧ But c H9 H' ∧ DR H' c L ∧ 0 ≤ kd ∧ kd < 4) (fun N hN => ?_) ?_
      · kc_close
        refine u_take d9 (by omega) (by omega) fun H10 x10 b10 d10 g4 g5 => ?_
        kc_close
        exact hN _ _ ⟨x10, rfl, b10, d10, g4, g5⟩
      rintro _ H10 ⟨kd, rfl, b10, d10, kd0, kd1⟩
      have hs9 : SU K H9 su p n t m := sqt_butD b9 d7 hs7
      have hs10 : SU K H10 su p n t m := sqt_butD b10 d9 hs9
      refine s_seq ?_
      refine s_cut (fun σ' H' => ∃ (B : Addr) (ch : M.Chg), σ' = stS (some (.ref c)) (some (.ref su)) (some (.ref D)) (some (.int (0 + (i : Nat)))) y4 (some (.ref R)) (some (.int st)) (some (.ref A)) (some (.int kd)) (some (.ref B)) ∧ But c H10 H' ∧ DR H' c L ∧ IsChg K H' B ch ∧ M.ChgOk p n t m ch) (fun N hN => ?_) ?_
      · kc_close
        refine u_take d10 (by omega) (by omega) fun H11 v1 b11 d11 g4 g5 => ?_
        have hs11 : SU K H11 su p n t m := sqt_butD b11 d10 hs10
        kc_close
        intro c1 H12 n1 s12 ec1
        have hs12 : SU K H12 su p n t m := sqt_same s12 hs11
        kc_close
        refine u_take (d11.same s12) (by omega) (by omega) fun H13 v2 b13 d13 g6 g7 => ?_
        kc_close
        intro c2 H14 n2 s14 ec2
        kc_close
        intro c3 H15 n3 s15 ec3
        kc_close
        intro l2 H16 nl2 s16 el2
        kc_close
        obtain ⟨B, _, hB, eB⟩ := at3c (a := c1) (b := c2) (c := c3) kd0 kd1
        refine s_ixL (SqL.of el2) eB ?_
        kc_close
        have tk : TK K H12 H16 := ((tk_butD b13 (d11.same s12)).trans (TK.same s14)).trans (TK.same (s15.trans s16))
        have bb : But c H10 H16 := ((b11.trans (But.of s12)).trans (b13.trans (But.of s14))).trans (But.of (s15.trans s16))
        have dd := (d13.same s14).same (s15.trans s16)
        rcases hB with ⟨rfl, _⟩ | ⟨rfl, _⟩ | ⟨rfl, _⟩
        · exact hN _ _ ⟨_, .is v1, rfl, bb, dd, tk _ _ (SqT.of ec1), g4, g5⟩
        · exact hN _ _ ⟨_, .add v2, rfl, bb, dd, sqt_same (s15.trans s16) (SqT.of ec2), g6, g7⟩
        · exact hN _ _ ⟨_, .drop, rfl, bb, dd, sqt_same s16 (SqT.of ec3), trivial⟩
      rintro _ H11 ⟨B, ch, rfl, b11, d11, hB, hch⟩
      have hs11 : SU K H11 su p n t m := sqt_butD b11 d10 hs10
      refine s_seq ?_
      refine s_cut (fun σ' H' => ∃ (B : Addr) (ch : M.Chg), σ' = stS (some (.ref c)) (some (.ref su)) (some (.ref D)) (some (.int (0 + (i : Nat)))) y4 (some (.ref R)) (some (.int st)) (some (.ref A)) (some (.int kd)) (some (.ref B)) ∧ But c H11 H' ∧ DR H' c L ∧ IsChg K H' B ch ∧ M.ChgOk p n t m ch) (fun N hN => ?_) ?_
      · refine s_if ?_
        kc_close
        refine ifI (fun h => ?_) (fun h => ?_)
        · kc_close
          refine u_take d11 (by omega) (by omega) fun H12 v1 b12 d12 g4 g5 => ?_
          have hs12 : SU K H12 su p n t m := sqt_butD b12 d11 hs11
          kc_close
          refine u_take d12 (by omega) (by omega) fun H13 v2 b13 d13 g6 g7 => ?_
          have hs13 : SU K H13 su p n t m := sqt_butD b13 d12 hs12
          kc_close
          refine ⟨c, su, 1 + v1, 1 + v2, rfl, L, p, n, t, m, d13, hs13, ok, by omega, by omega, by omega, ⟨by omega, by omega⟩, fun H14 A2 x2 b14 d14 hA2 hx2 => ?_⟩
          kc_close
          intro B2 H15 nB2 s15 eB2
          kc_close
          exact hN _ _ ⟨B2, .copy x2, rfl, (b12.trans b13).trans (b14.trans (But.of s15)), d14.same s15, ⟨A2, SqT.of eB2, sqt_same s15 hA2⟩, _, _, hx2⟩
        · kc_close
          exact hN _ _ ⟨B, ch, rfl, But.refl _ _, d11, hB, hch⟩
      rintro _ H12 ⟨B, ch, rfl, b12, d12, hB, hch⟩
      have bb : But c H7 H12 := (b9.trans b10).trans (b11.trans b12)
      have eR12 := bb _ _ nRC eR7
      kc_close
      intro r H13 nr s13 er
      have eR13 := s13 _ _ eR12
      kc_close
      refine s_append eR13 (by rw [List.length_map]; omega) fun H14 b14 e14 => ?_
      have tk7 : TK K H7 H14 := ((tk_butD bb d7).trans (TK.same s13)).trans (TK.but b14 eR13)
      have tk12 : TK K H12 H14 := (TK.same s13).trans (TK.but b14 eR13)
      have tk9 : TK K H9 H14 := (tk_butD ((b10.trans b11).trans b12) d9).trans tk12
      refine ⟨_, _, _, _, _, _, as ++ [r], rs ++ [(x, ch)], rfl, But.sameN b14 ((b7.trans bb).trans (But.of s13)) nR0, (d12.same s13).but b14 nRC nRL, b14 _ _ (Ne.symm nRD) (s13 _ _ (bb _ _ nDC e7)), ?_, ?_, ?_, ?_⟩
      · rw [List.map_append]
        exact e14
      · refine paired_app (L2.Paired.mapP hps fun a x h => h.tk tk7) (.cons ⟨A, B, sqt_but b14 eR13 (SqT.of er), tk9 _ _ hA, hB.tk tk12⟩ .nil)
      · rw [List.length_append, lrs]
        rfl
      · intro y hy
        rcases List.mem_append.mp hy with hy | hy
        · exact hrs y hy
        · rw [List.mem_singleton.mp hy]
          exact ⟨⟨st, sd, hx, hsd⟩, hch⟩
    · rintro _ H7 ⟨y3, y4, y6, y7, y8, y9, as, rs, rfl, b7, d7, e7, eR7, hps, lrs, hrs⟩
      exact hN _ _ ⟨y3, y4, y6, y7, y8, y9, as, rs, rfl, b7, d7, e7, eR7, hps, by omega, hrs⟩
  rintro _ H4 ⟨y3', y4', y6, y7, y8, y9, as, rs, rfl, b4, d4, e4, eR4, hps, lrs, hrs⟩
  have lps := Paired.length hps
  kc_close
  refine s_sorted (SqL.of e4) fun ys q1 H5 hp hw nq s5 e5 => ?_
  kc_close
  refine s_tupL (SqL.of e5) fun f H6 nf s6 ef => ?_
  kc_close
  refine s_tupL (SqL.of (s6 _ _ (s5 _ _ eR4))) fun r H7 nr s7 er => ?_
  kc_close
  intro v H8 nv s8 ev
  have ss := ((s5.trans s6).trans s7).trans s8
  refine q H8 v ⟨ys, rs⟩ (b4.trans (But.of ss)) (d4.same ss) ⟨f, r, as, SqT.of ev, SqT.of (s8 _ _ (s7 _ _ ef)), SqT.of (s8 _ _ er), L2.Paired.mapP hps fun a x h => h.tk (TK.same ss)⟩ ⟨M.strict_of_le hw (hp.nodup_iff.mpr nd), fun i hi => inn i (hp.mem_iff.mp hi), ?_, by show rs.length ≤ 40; omega, fun x hx => ?_⟩ lrs
  · show (ys.length : Int) ≤ t
    rw [hp.length_eq]
    exact few
  · obtain ⟨⟨st, i, h1, h2⟩, h3⟩ := hrs x hx
    exact ⟨⟨st, i, h1, hp.mem_iff.mpr h2⟩, h3⟩
end
end K1
end
section
open PySem PySem.Spec PyProof.Rows L2 Z
local macro_rules | `(tactic| ktr_room) => `(tactic| first
  | assumption
  | (apply SqT.of; assumption)
  | (apply SqL.of; assumption)
  | (apply sqt_same; assumption; ktr_room)
  | (apply sql_same; assumption; ktr_room)
  | (apply sqt_but; assumption; assumption; ktr_room)
  | (apply sql_but; assumption; assumption; ktr_room)
  | (apply Same.of_; assumption; ktr_room)
  | (apply But.of_; assumption; assumption; ktr_room)
  | exact same_refl
  | exact but_refl
  | (apply same_tr; assumption; ktr_room)
  | (apply same_but; assumption; ktr_room; assumption)
  | (apply but_tr; assumption; ktr_room)
  | (apply but_trB; assumption; ktr_room))
local macro_rules | `(tactic| ktr_units) => `(tactic| first | with_reducible assumption | omega | rfl | exact ⟨by omega, by omega⟩ | exact .inl ⟨by omega, by omega⟩ | exact .inr ⟨by omega, by omega⟩ | exact ⟨by decide, by decide, by decide⟩ | exact Nat.le_of_ble_eq_true rfl | decide)
local macro_rules | `(tactic| kc_close) => `(tactic| repeat (with_reducible first
  | refine s_var (by with_unfolding_all rfl) ?_
  | refine s_c ?_
  | refine s_op ?_
  | refine s_rI0 ?_
  | refine s_asg ?_
  | refine s_gname ?_
  | refine s_seq ?_
  | refine s_cons ?_
  | refine s_nil ?_
  | refine s_call ?_
  | refine s_ret ?_
  | o_fieldsN
  | refine s_test ?_
  | refine s_bl ?_
  | refine s_rI (by with_unfolding_all (ktr_units)) ?_
  | refine s_rEq rfl ?_
  | refine s_rNe rfl ?_
  | refine s_cb ?_
  | refine s_int1 ?_
  | refine s_intB ?_
  | refine s_max2 ?_
  | refine s_min2 ?_
  | refine s_tup ?_
  | refine s_lst ?_
  | refine s_newT (by with_unfolding_all first | decide | exact Nat.le_of_ble_eq_true rfl) ?_
  | refine s_newL (by with_unfolding_all first | decide | exact Nat.le_of_ble_eq_true rfl) ?_
  | refine s_ixT (by ktr_room) (by with_unfolding_all rfl) ?_
  | refine s_ixL (by ktr_room) (by with_unfolding_all rfl) ?_
  | refine s_lenT (by ktr_room) ?_
  | refine s_lenL (by ktr_room) ?_
  | refine s_un ?_
  | refine s_rU ?_
  | refine s_and ?_
  | refine s_or ?_
  | refine s_not ?_
  | refine s_tB ?_
  | refine s_tru ?_
  | refine s_drop ?_
  | refine s_next ?_
  | refine s_for ?_
  | refine s_rng1 ?_
  | refine s_rng2 ?_
  | refine s_rng3 ?_
  | refine s_ilist ?_
  | refine s_itup ?_
  | refine s_iany ?_
  | refine s_ienum ?_
  | refine s_irev ?_
  | refine s_gcons ?_
  | refine s_gnil ?_
  | refine s_gtup (by ktr_room) (by with_unfolding_all rfl) ?_
  | refine s_gsub ?_
  | refine s_augS ?_
  | refine s_aug (by with_unfolding_all rfl) ?_
  | refine s_ipI ?_
  | refine s_bm ?_
  | refine s_bm0 ?_
  | refine s_tyL (by ktr_room) ?_
  | refine s_tyL0 (by ktr_room) ?_
  | refine s_sl ?_
  | refine s_part ?_
  | refine s_partv ?_
  | refine s_noPart ?_
  | refine s_lc ?_
  | refine s_yes ?_
  | refine s_wipe (by with_unfolding_all rfl) ?_
  | refine iteT ?_
  | refine s_retN ?_
  | refine s_isN ?_
  | refine s_truB ?_
  | refine s_isB2 ?_
  | refine s_notB2 ?_
  | refine s_revT ?_
  | refine s_andV ?_
  | refine s_orV ?_
  | refine s_ifE ?_
  | refine s_notK ?_
  | refine s_notN ?_
  | refine s_truL (by ktr_room) ?_
  | refine s_truT (by ktr_room) ?_))
open K1
local macro_rules | `(tactic| ktr_room) => `(tactic| first
  | (apply DR.same; assumption; ktr_room)
  | (apply sqt_butD; assumption; ktr_room; ktr_room))
namespace K1
section
variable {P : Program} {w : World} {K : PySem.W.Frag} {mg : Str → Option Value} {base : Heap}
/-- the nodes found so far -/
structure Fnd (K : PySem.W.Frag) (hB sB : Nat) (H : Hp) (F : Addr) (xs : List V) : Prop where
  ex : ∃ ds, Ims K H ds xs ∧ ∀ e ∈ ds, Bd hB sB e
  at_ : H F = some (.lst xs)
  le : xs.length ≤ 3000
def spNodes (K : PySem.W.Frag) (n : Nat) : Sp := fun vs H Q _ => ∃ (v : V) (F : Addr), vs = [v, .ref F] ∧ ∃ (d : PyData) (hB sB : Nat) (xs : List V), Im K H d v ∧ ht d ≤ n ∧ Bd hB sB d ∧ Fnd K hB sB H F xs ∧
  ∀ H' xs', But F H H' → Fnd K hB sB H' F xs' → xs.length ≤ xs'.length → (xs.length < 3000 → xs.length < xs'.length) → Q (.ref F) H'
theorem Fnd.more {K : PySem.W.Frag} {hB sB : Nat} {H H' : Hp} {F : Addr} {xs : List V} {v : V} {d : PyData} (h : Fnd K hB sB H F xs) (lt : xs.length < 3000) (hd : Im K H d v) (bd : Bd hB sB d) (b : But F H H') (e : H' F = some (.lst (xs ++ [v]))) : Fnd K hB sB H' F (xs ++ [v]) := by
  obtain ⟨⟨ds, i, k⟩, at_, le⟩ := h
  have tk := TK.but (K := K) b at_
  refine ⟨⟨ds ++ [d], ((Ims.tk tk _ _ i).app (Ims.one (Im.tk tk _ _ hd))), fun x m => ?_⟩, e, by rw [List.length_append]; exact lt⟩
  rcases List.mem_append.mp m with m | m
  · exact k x m
  · rw [List.mem_singleton.mp m]
    exact bd
theorem rec__law_nodes_of (T : NoB mg) (n : Nat) (h : Has K mg "_law_nodes_of" (topS 25) ["value", "found"]) (G__law_nodes_of : Good P w K mg base (n + 0) "_law_nodes_of" ["value", "found"] (spNodes K n)) : Good P w K mg base (n + 0 + 1) "_law_nodes_of" ["value", "found"] (spNodes K (n + 1)) := by
  have sc : FnScope ["value", "found", "part"] ["value", "found"] (defScope (topS 25)) := ⟨rfl, rfl, rfl, by decide +kernel, rfl, by decide +kernel, by decide +kernel⟩
  have nd := sc.nd
  refine h.good sc (fun vs H Q E h => by obtain ⟨v, F, rfl, _⟩ := h; rfl) (fun f cdv A outer s H vs Q E hr h => ?_)
  obtain ⟨v, F, rfl, hyp⟩ := h
  refine ⟨_, (pss_cons (ps_if (pt_cmpR op_lt (pe_callB (c_lenK K) (by rfl) T.n_len (by decide +kernel) (pa_cons (pv 1) pa_nil)) pe_int (nomark _))
  (pss_one (ps_expr (pe_bmK K PySem.F.plainAttrs_list PySem.F.slot_list_append PySem.F.type_list_append mt_append (pv 1) (pa_cons (pv 0) pa_nil)))) pss_nil)
  (pss_cons (ps_if (pt_val (pe_callB (c_isiK K) (by rfl) T.n_isinstance (by decide +kernel) (pa_cons (pv 0) (pa_cons (pe_bltn (v := .ty "tuple") (by rfl) T.n_tuple (by decide +kernel) rfl) pa_nil))))
  (pss_one (ps_for PassesOwn.never rfl (pi_tupK K (pv 0)) (pg_name (i := 2) nd rfl (by first | exact .inl rfl | exact .inr rfl))
  (pss_one (ps_expr (pe_callG G__law_nodes_of (hr.mono (by first | decide | omega)) (by rfl) (pa_cons (pv 2) (pa_cons (pv 1) pa_nil))))))) pss_nil)
  (pss_one (ps_ret (pv 1))))), ?_⟩
  try dsimp only [cxOf, Cx.wish]
  obtain ⟨d, hB, sB, xs, hd, hh, bd, fn, q⟩ := hyp
  have line : (100000 : Nat) < sizeLine := by decide
  have eF := fn.at_
  refine s_seq ?_
  refine s_cut (fun σ' H' => ∃ xs', σ' = [some v, some (.ref F), none] ∧ But F H H' ∧ Fnd K hB sB H' F xs' ∧ xs.length ≤ xs'.length ∧ (xs.length < 3000 → xs.length < xs'.length)) (fun N hN => ?_) ?_
  · have kF : SqL K H F xs := SqL.of eF
    refine s_if ?_
    kc_close
    refine ifP (fun h => ?_) (fun h => ?_)
    · kc_close
      refine s_append eF (by omega) fun H1 b1 e1 => ?_
      exact hN _ _ ⟨_, rfl, b1, fn.more (by omega) hd bd b1 e1, by rw [List.length_append]; omega, fun _ => by rw [List.length_append]; exact Nat.lt_succ_self _⟩
    · kc_close
      exact hN _ _ ⟨xs, rfl, But.refl _ _, fn, Nat.le_refl _, fun z => by omega⟩
  rintro _ H1 ⟨xs1, rfl, b1, fn1, le1, lt1⟩
  have hd1 : Im K H1 d v := Im.tk (TK.but b1 eF) _ _ hd
  refine s_seq ?_
  refine s_cut (fun σ' H' => ∃ xs' y, σ' = [some v, some (.ref F), y] ∧ But F H H' ∧ Fnd K hB sB H' F xs' ∧ xs.length ≤ xs'.length ∧ (xs.length < 3000 → xs.length < xs'.length)) (fun N hN => ?_) ?_
  · refine s_if ?_
    kc_close
    refine s_isT hd1 ?_
    kc_close
    cases d with
    | tuple ps =>
      obtain ⟨a, vs, rfl, hs, his⟩ := hd1
      have hh' : 1 + hts ps ≤ n + 1 := hh
      refine iteT ?_
      kc_close
      refine s_itupv hs ?_
      refine w_tup (xs := vs) (fun i σ' H' => ∃ xs' y, σ' = [some (.ref a), some (.ref F), y] ∧ But F H1 H' ∧ Fnd K hB sB H' F xs' ∧ xs1.length ≤ xs'.length) ⟨xs1, none, rfl, But.refl _ _, fn1, Nat.le_refl _⟩ (fun i σ' H' _ p => by
        obtain ⟨_, _, _, b, _⟩ := p
        exact sqt_but b fn1.at_ hs) ?_ ?_
      · rintro i x _ H2 e ⟨xs2, y, rfl, b2, fn2, le2⟩
        obtain ⟨p, ep, hp⟩ := Ims.get (Ims.tk (TK.but b2 fn1.at_) _ _ his) e
        have mp := List.mem_of_getElem? ep
        have := mem_sz mp
        kc_close
        refine ⟨x, F, rfl, p, hB, sB, xs2, hp, by omega, bd.part mp, fn2, fun H3 xs3 b3 fn3 le3 _ => ?_⟩
        exact ⟨xs3, _, rfl, b2.trans b3, fn3, Nat.le_trans le2 le3⟩
      · rintro _ H2 ⟨xs2, y, rfl, b2, fn2, le2⟩
        exact hN _ _ ⟨xs2, y, rfl, b1.trans b2, fn2, Nat.le_trans le1 le2, fun z => Nat.lt_of_lt_of_le (lt1 z) le2⟩
    | _ =>
      refine iteF ?_
      kc_close
      exact hN _ _ ⟨xs1, none, rfl, b1, fn1, le1, lt1⟩
  rintro _ H2 ⟨xs2, y, rfl, b2, fn2, le2, lt2⟩
  kc_close
  exact q H2 xs2 b2 fn2 le2 lt2
theorem good_none {x : Str} {st : Stmt} {ps : List Str} {sp : Sp} (h : Has K mg x st ps) (no : ∀ vs H Q E, ¬ sp vs H Q E) : Good P w K mg base 0 x ps sp := by
  obtain ⟨f, fd, F, hm, hb⟩ := h.ex
  exact ⟨f, fd, hm, F.kp, hb, ⟨fun vs H Q E h => absurd h (no vs H Q E), fun A outer s H args us vs Q E hr he hbt hv h => absurd h (no vs H Q E)⟩⟩
theorem ok__law_nodes_of (T : NoB mg) (h : Has K mg "_law_nodes_of" (topS 25) ["value", "found"]) : Good P w K mg base 130 "_law_nodes_of" ["value", "found"] (spNodes K 130) := by
  have : ∀ n, Good P w K mg base n "_law_nodes_of" ["value", "found"] (spNodes K n) := fun n => by
    induction n with
    | zero =>
      refine good_none h fun vs H Q E z => ?_
      obtain ⟨v, F, _, d, _, _, _, _, z, _⟩ := z
      have := ht_pos d
      omega
    | succ n ih => exact rec__law_nodes_of T n h ih
  exact this 130
end
end K1
end
section
open PySem PySem.Spec PyProof.Rows L2 Z
local macro_rules | `(tactic| ktr_room) => `(tactic| first
  | assumption
  | (apply SqT.of; assumption)
  | (apply SqL.of; assumption)
  | (apply sqt_same; assumption; ktr_room)
  | (apply sql_same; assumption; ktr_room)
  | (apply sqt_but; assumption; assumption; ktr_room)
  | (apply sql_but; assumption; assumption; ktr_room)
  | (apply Same.of_; assumption; ktr_room)
  | (apply But.of_; assumption; assumption; ktr_room)
  | exact same_refl
  | exact but_refl
  | (apply same_tr; assumption; ktr_room)
  | (apply same_but; assumption; ktr_room; assumption)
  | (apply but_tr; assumption; ktr_room)
  | (apply but_trB; assumption; ktr_room))
local macro_rules | `(tactic| ktr_units) => `(tactic| first | with_reducible assumption | omega | rfl | exact ⟨by omega, by omega⟩ | exact .inl ⟨by omega, by omega⟩ | exact .inr ⟨by omega, by omega⟩ | exact ⟨by decide, by decide, by decide⟩ | exact Nat.le_of_ble_eq_true rfl | decide)
local macro_rules | `(tactic| kc_close) => `(tactic| repeat (with_reducible first
  | refine s_var (by with_unfolding_all rfl) ?_
  | refine s_c ?_
  | refine s_op ?_
  | refine s_rI0 ?_
  | refine s_asg ?_
  | refine s_gname ?_
  | refine s_seq ?_
  | refine s_cons ?_
  | refine s_nil ?_
  | refine s_call ?_
  | refine s_ret ?_
  | o_fieldsN
  | refine s_test ?_
  | refine s_bl ?_
  | refine s_rI (by with_unfolding_all (ktr_units)) ?_
  | refine s_rEq rfl ?_
  | refine s_rNe rfl ?_
  | refine s_cb ?_
  | refine s_int1 ?_
  | refine s_intB ?_
  | refine s_max2 ?_
  | refine s_min2 ?_
  | refine s_tup ?_
  | refine s_lst ?_
  | refine s_newT (by with_unfolding_all first | decide | exact Nat.le_of_ble_eq_true rfl) ?_
  | refine s_newL (by with_unfolding_all first | decide | exact Nat.le_of_ble_eq_true rfl) ?_
  | refine s_ixT (by ktr_room) (by with_unfolding_all rfl) ?_
  | refine s_ixL (by ktr_room) (by with_unfolding_all rfl) ?_
  | refine s_lenT (by ktr_room) ?_
  | refine s_lenL (by ktr_room) ?_
  | refine s_un ?_
  | refine s_rU ?_
  | refine s_and ?_
  | refine s_or ?_
  | refine s_not ?_
  | refine s_tB ?_
  | refine s_tru ?_
  | refine s_drop ?_
  | refine s_next ?_
  | refine s_for ?_
  | refine s_rng1 ?_
  | refine s_rng2 ?_
  | refine s_rng3 ?_
  | refine s_ilist ?_
  | refine s_itup ?_
  | refine s_iany ?_
  | refine s_ienum ?_
  | refine s_irev ?_
  | refine s_gcons ?_
  | refine s_gnil ?_
  | refine s_gtup (by ktr_room) (by with_unfolding_all rfl) ?_
  | refine s_gsub ?_
  | refine s_augS ?_
  | refine s_aug (by with_unfolding_all rfl) ?_
  | refine s_ipI ?_
  | refine s_bm ?_
  | refine s_bm0 ?_
  | refine s_tyL (by ktr_room) ?_
  | refine s_tyL0 (by ktr_room) ?_
  | refine s_sl ?_
  | refine s_part ?_
  | refine s_partv ?_
  | refine s_noPart ?_
  | refine s_lc ?_
  | refine s_yes ?_
  | refine s_wipe (by with_unfolding_all rfl) ?_
  | refine iteT ?_
  | refine s_retN ?_
  | refine s_isN ?_
  | refine s_truB ?_
  | refine s_isB2 ?_
  | refine s_notB2 ?_
  | refine s_revT ?_
  | refine s_andV ?_
  | refine s_orV ?_
  | refine s_ifE ?_
  | refine s_notK ?_
  | refine s_notN ?_
  | refine s_truL (by ktr_room) ?_
  | refine s_truT (by ktr_room) ?_))
open K1
local macro_rules | `(tactic| ktr_room) => `(tactic| first
  | (apply DR.same; assumption; ktr_room)
  | (apply sqt_butD; assumption; ktr_room; ktr_room))
namespace K1
section
variable {P : Program} {w : World} {K : PySem.W.Frag} {mg : Str → Option Value} {base : Heap}
theorem hts_le {ds : List PyData} {m : Nat} (h : ∀ e ∈ ds, ht e ≤ m) : hts ds ≤ m := by
  induction ds with
  | nil => exact Nat.zero_le _
  | cons a r ih =>
    have h1 := h a (List.mem_cons_self ..)
    have h2 := ih fun e m => h e (List.mem_cons_of_mem _ m)
    show max (ht a) (hts r) ≤ m
    omega
def spChanged (K : PySem.W.Frag) (n : Nat) : Sp := fun vs H Q _ => ∃ (v : V) (bx : Addr) (o : V), vs = [v, .ref bx, o] ∧ ∃ (d od : PyData) (i : Int), Im K H d v ∧ ht d ≤ n ∧ Im K H od o ∧ H bx = some (.lst [.int i]) ∧ pl d = true ∧ pl od = true ∧ sz d ≤ 200000 ∧
  ∀ H' v' d' i', But bx H H' → H' bx = some (.lst [.int i']) → Im K H' d' v' → pl d' = true → ht d' ≤ ht d + ht od → (sz d' ≤ sz d ∨ (0 < i ∧ i' ≤ 0 ∧ sz d' ≤ sz d + sz od)) → i' ≤ i → Q v' H'
theorem rec__law_changed (T : NoB mg) (n : Nat) (h : Has K mg "_law_changed" (topS 26) ["value", "box", "other"]) (G__law_changed : Good P w K mg base (n + 0) "_law_changed" ["value", "box", "other"] (spChanged K n)) : Good P w K mg base (n + 0 + 1) "_law_changed" ["value", "box", "other"] (spChanged K (n + 1)) := by
  have sc : FnScope ["value", "box", "other", "part"] ["value", "box", "other"] (defScope (topS 26)) := ⟨rfl, rfl, rfl, by decide +kernel, rfl, by decide +kernel, by decide +kernel⟩
  have nd := sc.nd
  refine h.good sc (fun vs H Q E h => by obtain ⟨v, bx, o, rfl, _⟩ := h; rfl) (fun f cdv A outer s H vs Q E hr h => ?_)
  obtain ⟨v, bx, o, rfl, hyp⟩ := h
  refine ⟨_, (pss_cons (ps_asg (pe_op op_sub (pe_ix (ix_listK K) (pv 1) pe_int (fun _ _ => rfl)) pe_int) (pg_sub (pv 1) pe_int set_list))
  (pss_cons (ps_if (pt_cmpR op_eq (pe_ix (ix_listK K) (pv 1) pe_int (fun _ _ => rfl)) pe_int (nomark _))
  (pss_one (ps_ret (pv 2))) pss_nil)
  (pss_cons (ps_if (pt_not (pt_val (pe_callB (c_isiK K) (by rfl) T.n_isinstance (by decide +kernel) (pa_cons (pv 0) (pa_cons (pe_bltn (v := .ty "tuple") (by rfl) T.n_tuple (by decide +kernel) rfl) pa_nil)))))
  (pss_one (ps_ret (pv 0))) pss_nil)
  (pss_one (ps_ret (pe_callTy (c_tupK K) (by rfl) T.n_tuple (by decide +kernel) (pa_cons (pe_lc (own := [("part", 3)]) rfl nd (pi_tupK K (pv 0)) (blkOk_by (own := [("part", 3)]) (N := ["value", "box", "other", "part"]) (by kernel_rfl)) (fun _ _ _ _ _ => (pg_name (i := 3) nd rfl (by first | exact .inl rfl | exact .inr rfl))) (fun _ _ _ _ _ => pts_nil) (fun _ _ _ _ _ => (pe_callG G__law_changed (hr.mono (by first | decide | omega)) (by rfl) (pa_cons (pv 3) (pa_cons (pv 1) (pa_cons (pv 2) pa_nil)))))) pa_nil))))))), ?_⟩
  try dsimp only [cxOf, Cx.wish]
  obtain ⟨d, od, i, hd, hh, ho, eB, pd, po, sd, q⟩ := hyp
  have line : (200000 : Nat) < sizeLine := by decide
  have kB : IsL K H bx [i] := SqL.of eB
  kc_close
  refine s_setL eB rfl fun H1 b1 e1 => ?_
  have e1' : H1 bx = some (.lst [.int (i - 1)]) := e1
  have kB1 : SqL K H1 bx [.int (i - 1)] := SqL.of e1'
  have tk := TK.but (K := K) b1 eB
  have hd1 := Im.tk tk _ _ hd
  have ho1 := Im.tk tk _ _ ho
  have hp1 := ht_pos od
  kc_close
  refine s_if ?_
  kc_close
  refine ifI (fun h => ?_) (fun h => ?_)
  · kc_close
    exact q H1 o od (i - 1) b1 e1' ho1 po (by omega) (.inr ⟨by omega, by omega, by omega⟩) (by omega)
  kc_close
  refine s_if ?_
  kc_close
  refine s_isT hd1 ?_
  kc_close
  cases d with
  | tuple ps =>
    obtain ⟨a, vs, rfl, hs, his⟩ := hd1
    have hh' : 1 + hts ps ≤ n + 1 := hh
    have sd' : 1 + szs ps ≤ 200000 := sd
    have pd' : pls ps = true := pd
    have lps := len_szs ps
    have lvs := Ims.length his
    refine iteF ?_
    kc_close
    refine s_itupv hs ?_
    refine l_tup (xs := vs) (fun D k H' => H1 D = none ∧ But bx H1 H' ∧ ∃ us ds' i2, H' D = some (.lst us) ∧ Ims K H' ds' us ∧ pls ds' = true ∧ us.length = k ∧ H' bx = some (.lst [.int i2]) ∧ i2 ≤ i - 1 ∧ (∀ e ∈ ds', ht e ≤ hts ps + ht od) ∧
      (szs ds' ≤ szs (ps.take k) ∨ (0 < i ∧ i2 ≤ 0 ∧ szs ds' ≤ szs (ps.take k) + sz od))) ?_ ?_ ?_ ?_
    · intro D H2 nD s2 eD
      exact ⟨nD, But.of s2, [], [], i - 1, eD, rfl, rfl, rfl, s2 _ _ e1', Int.le_refl _, fun e h => (by cases h), .inl (Nat.le_refl _)⟩
    · rintro D k H' _ ⟨_, b, _⟩
      exact sqt_but b e1' hs
    · rintro D k x H2 e ⟨nD, b2, us, ds', i2, eD, hus, pus, lus, eB2, li2, hh2, hs2⟩
      have nDB : bx ≠ D := ne_of_none e1' nD
      obtain ⟨p, ep, hp⟩ := Ims.get (Ims.tk (TK.but b2 e1') _ _ his) e
      have mp := List.mem_of_getElem? ep
      have mm := mem_sz mp
      have hk := (List.getElem?_eq_some_iff.mp e).1
      kc_close
      refine ⟨x, bx, o, rfl, p, od, i2, hp, by omega, Im.tk (TK.but b2 e1') _ _ ho1, eB2, pls_mem.mp pd' p mp, po, by omega, fun H3 v' d' i3 b3 e3 hd' pd3 ht3 sz3 li3 => ?_⟩
      have eD3 := b3 _ _ (Ne.symm nDB) eD
      refine s_lcEnd eD3 (by omega) fun H4 b4 e4 => ?_
      have tk4 := TK.but (K := K) b4 eD3
      have hm : szs (ps.take (k + 1)) = szs (ps.take k) + sz p := by
        rw [take_get ep, szs_app]
        show _ + (sz p + 0) = _
        omega
      refine ⟨nD, But.sameN b4 (b2.trans b3) nD, us ++ [v'], ds' ++ [d'], i3, e4, ?_, ?_, ?_, b4 _ _ nDB e3, by omega, ?_, ?_⟩
      · exact (Ims.tk tk4 _ _ (Ims.tk (TK.but b3 eB2) _ _ hus)).app (Ims.one (Im.tk tk4 _ _ hd'))
      · refine pls_mem.mpr fun z hz => ?_
        rcases List.mem_append.mp hz with hz | hz
        · exact pls_mem.mp pus z hz
        · rw [List.mem_singleton.mp hz]
          exact pd3
      · rw [List.length_append, lus]
        rfl
      · intro z hz
        rcases List.mem_append.mp hz with hz | hz
        · exact hh2 z hz
        · rw [List.mem_singleton.mp hz]
          omega
      · have hs4 : szs (ds' ++ [d']) = szs ds' + sz d' := by
          rw [szs_app]
          show _ + (sz d' + 0) = _
          omega
        rw [hs4, hm]
        omega
    · rintro D H2 ⟨nD, b2, us, ds', i2, eD, hus, pus, lus, eB2, li2, hh2, hs2⟩
      rw [lvs, List.take_length] at hs2
      kc_close
      refine s_tupL (SqL.of eD) fun r H3 nr s3 er => ?_
      refine q H3 (.ref r) (.tuple ds') i2 ((b1.trans b2).trans (But.of s3)) (s3 _ _ eB2) ⟨r, us, rfl, SqT.of er, Ims.tk (TK.same s3) _ _ hus⟩ pus ?_ ?_ (by omega)
      · show 1 + hts ds' ≤ 1 + hts ps + ht od
        have := hts_le hh2
        omega
      · show 1 + szs ds' ≤ 1 + szs ps ∨ (0 < i ∧ i2 ≤ 0 ∧ 1 + szs ds' ≤ 1 + szs ps + sz od)
        omega
  | _ =>
    refine iteT ?_
    kc_close
    exact q H1 v _ (i - 1) b1 e1' hd1 pd (by omega) (.inl (Nat.le_refl _)) (by omega)
theorem ok__law_changed (T : NoB mg) (h : Has K mg "_law_changed" (topS 26) ["value", "box", "other"]) : Good P w K mg base 130 "_law_changed" ["value", "box", "other"] (spChanged K 130) := by
  have : ∀ n, Good P w K mg base n "_law_changed" ["value", "box", "other"] (spChanged K n) := fun n => by
    induction n with
    | zero =>
      refine good_none h fun vs H Q E z => ?_
      obtain ⟨v, bx, o, _, d, od, i, _, z, _⟩ := z
      have := ht_pos d
      omega
    | succ n ih => exact rec__law_changed T n h ih
  exact this 130
def spHigh (K : PySem.W.Frag) : Sp := fun vs H Q _ => ∃ (v : V), vs = [v] ∧ ∃ (d : PyData), Im K H d v ∧ pl d = true ∧ sz d ≤ 200000 ∧ ∀ H' (k : Int), Same H H' → (k ≤ 120 → ht d ≤ 120) → Q (.int k) H'
/-- the parts of a level -/
def deep : List PyData → List PyData
  | [] => []
  | .tuple ps :: r => ps ++ deep r
  | _ :: r => deep r
theorem deep_sz : ∀ ds : List PyData, pls ds = true → szs (deep ds) + ds.length ≤ szs ds ∧ pls (deep ds) = true ∧ (ds ≠ [] → hts ds = 1 + hts (deep ds))
  | [], _ => ⟨Nat.le_refl _, rfl, fun h => absurd rfl h⟩
  | d :: r, h => by
    have h' : (pl d && pls r) = true := h
    rw [Bool.and_eq_true] at h'
    have ih := deep_sz r h'.2
    have hr : r = [] → hts r = 0 ∧ hts (deep r) = 0 := fun e => by subst e; exact ⟨rfl, rfl⟩
    have hr2 : r ≠ [] ∨ r = [] := by by_cases e : r = []; exact .inr e; exact .inl e
    have fin : ∀ x, x = max (ht d) (hts r) → ∀ y, (y = max (ht d - 1) (hts (deep r))) → x = 1 + y := fun x ex y ey => by
      have := ht_pos d
      rcases hr2 with e | e
      · have := ih.2.2 e
        omega
      · have := hr e
        omega
    cases d with
    | tuple ps =>
      refine ⟨?_, ?_, fun _ => fin _ rfl _ ?_⟩
      · show szs (ps ++ deep r) + (r.length + 1) ≤ 1 + szs ps + szs r
        rw [szs_app]
        omega
      · refine pls_mem.mpr fun z hz => ?_
        have hz' : z ∈ ps ++ deep r := hz
        rcases List.mem_append.mp hz' with hz | hz
        · exact pls_mem.mp h'.1 z hz
        · exact pls_mem.mp ih.2.1 z hz
      · show hts (ps ++ deep r) = max (1 + hts ps - 1) (hts (deep r))
        rw [hts_app]
        omega
    | list _ => exact absurd h'.1 (by simp [pl])
    | bool _ => exact absurd h'.1 (by simp [pl])
    | dict _ => exact absurd h'.1 (by simp [pl])
    | none =>
      refine ⟨?_, ih.2.1, fun _ => fin _ rfl _ ?_⟩
      · show szs (deep r) + (r.length + 1) ≤ 1 + szs r
        omega
      · show hts (deep r) = max (1 - 1) (hts (deep r))
        omega
    | int _ =>
      refine ⟨?_, ih.2.1, fun _ => fin _ rfl _ ?_⟩
      · show szs (deep r) + (r.length + 1) ≤ 1 + szs r
        omega
      · show hts (deep r) = max (1 - 1) (hts (deep r))
        omega
    | str _ =>
      refine ⟨?_, ih.2.1, fun _ => fin _ rfl _ ?_⟩
      · show szs (deep r) + (r.length + 1) ≤ 1 + szs r
        omega
      · show hts (deep r) = max (1 - 1) (hts (deep r))
        omega
end
end K1
end
section
open PySem PySem.Spec PyProof.Rows L2 Z
local macro_rules | `(tactic| ktr_room) => `(tactic| first
  | assumption
  | (apply SqT.of; assumption)
  | (apply SqL.of; assumption)
  | (apply sqt_same; assumption; ktr_room)
  | (apply sql_same; assumption; ktr_room)
  | (apply sqt_but; assumption; assumption; ktr_room)
  | (apply sql_but; assumption; assumption; ktr_room)
  | (apply Same.of_; assumption; ktr_room)
  | (apply But.of_; assumption; assumption; ktr_room)
  | exact same_refl
  | exact but_refl
  | (apply same_tr; assumption; ktr_room)
  | (apply same_but; assumption; ktr_room; assumption)
  | (apply but_tr; assumption; ktr_room)
  | (apply but_trB; assumption; ktr_room))
local macro_rules | `(tactic| ktr_units) => `(tactic| first | with_reducible assumption | omega | rfl | exact ⟨by omega, by omega⟩ | exact .inl ⟨by omega, by omega⟩ | exact .inr ⟨by omega, by omega⟩ | exact ⟨by decide, by decide, by decide⟩ | exact Nat.le_of_ble_eq_true rfl | decide)
local macro_rules | `(tactic| kc_close) => `(tactic| repeat (with_reducible first
  | refine s_var (by with_unfolding_all rfl) ?_
  | refine s_c ?_
  | refine s_op ?_
  | refine s_rI0 ?_
  | refine s_asg ?_
  | refine s_gname ?_
  | refine s_seq ?_
  | refine s_cons ?_
  | refine s_nil ?_
  | refine s_call ?_
  | refine s_ret ?_
  | o_fieldsN
  | refine s_test ?_
  | refine s_bl ?_
  | refine s_rI (by with_unfolding_all (ktr_units)) ?_
  | refine s_rEq rfl ?_
  | refine s_rNe rfl ?_
  | refine s_cb ?_
  | refine s_int1 ?_
  | refine s_intB ?_
  | refine s_max2 ?_
  | refine s_min2 ?_
  | refine s_tup ?_
  | refine s_lst ?_
  | refine s_newT (by with_unfolding_all first | decide | exact Nat.le_of_ble_eq_true rfl) ?_
  | refine s_newL (by with_unfolding_all first | decide | exact Nat.le_of_ble_eq_true rfl) ?_
  | refine s_ixT (by ktr_room) (by with_unfolding_all rfl) ?_
  | refine s_ixL (by ktr_room) (by with_unfolding_all rfl) ?_
  | refine s_lenT (by ktr_room) ?_
  | refine s_lenL (by ktr_room) ?_
  | refine s_un ?_
  | refine s_rU ?_
  | refine s_and ?_
  | refine s_or ?_
  | refine s_not ?_
  | refine s_tB ?_
  | refine s_tru ?_
  | refine s_drop ?_
  | refine s_next ?_
  | refine s_for ?_
  | refine s_rng1 ?_
  | refine s_rng2 ?_
  | refine s_rng3 ?_
  | refine s_ilist ?_
  | refine s_itup ?_
  | refine s_iany ?_
  | refine s_ienum ?_
  | refine s_irev ?_
  | refine s_gcons ?_
  | refine s_gnil ?_
  | refine s_gtup (by ktr_room) (by with_unfolding_all rfl) ?_
  | refine s_gsub ?_
  | refine s_augS ?_
  | refine s_aug (by with_unfolding_all rfl) ?_
  | refine s_ipI ?_
  | refine s_bm ?_
  | refine s_bm0 ?_
  | refine s_tyL (by ktr_room) ?_
  | refine s_tyL0 (by ktr_room) ?_
  | refine s_sl ?_
  | refine s_part ?_
  | refine s_partv ?_
  | refine s_noPart ?_
  | refine s_lc ?_
  | refine s_yes ?_
  | refine s_wipe (by with_unfolding_all rfl) ?_
  | refine iteT ?_
  | refine s_retN ?_
  | refine s_isN ?_
  | refine s_truB ?_
  | refine s_isB2 ?_
  | refine s_notB2 ?_
  | refine s_revT ?_
  | refine s_andV ?_
  | refine s_orV ?_
  | refine s_ifE ?_
  | refine s_notK ?_
  | refine s_notN ?_
  | refine s_truL (by ktr_room) ?_
  | refine s_truT (by ktr_room) ?_))
open K1
local macro_rules | `(tactic| ktr_room) => `(tactic| first
  | (apply DR.same; assumption; ktr_room)
  | (apply sqt_butD; assumption; ktr_room; ktr_room))
namespace K1
section
variable {P : Program} {w : World} {K : PySem.W.Frag} {mg : Str → Option Value} {base : Heap}
theorem deep_app : ∀ ds es : List PyData, deep (ds ++ es) = deep ds ++ deep es
  | [], _ => rfl
  | .tuple ps :: r, es => by
    show ps ++ deep (r ++ es) = ps ++ deep r ++ deep es
    rw [deep_app r es, List.append_assoc]
  | .none :: r, es => deep_app r es
  | .bool _ :: r, es => deep_app r es
  | .int _ :: r, es => deep_app r es
  | .str _ :: r, es => deep_app r es
  | .list _ :: r, es => deep_app r es
  | .dict _ :: r, es => deep_app r es
theorem deep_len (ds : List PyData) : (deep ds).length ≤ szs ds := by
  induction ds with
  | nil => exact Nat.le_refl _
  | cons d r ih =>
    cases d with
    | tuple ps =>
      show (ps ++ deep r).length ≤ 1 + szs ps + szs r
      rw [List.length_append]
      have := len_szs ps
      omega
    | list ps => show (deep r).length ≤ 1 + szs ps + szs r; omega
    | none => show (deep r).length ≤ 1 + szs r; omega
    | bool _ => show (deep r).length ≤ 1 + szs r; omega
    | int _ => show (deep r).length ≤ 1 + szs r; omega
    | str _ => show (deep r).length ≤ 1 + szs r; omega
    | dict _ => show (deep r).length ≤ 1 + szs r; omega
theorem szs_take (ds : List PyData) (i : Nat) : szs (ds.take i) ≤ szs ds := (sub_szs (List.take_sublist _ _)).1
theorem ok__law_high (T : NoB mg) (h : Has K mg "_law_high" (topS 27) ["value"]) : Good P w K mg base 1 "_law_high" ["value"] (spHigh K) := by
  have sc : FnScope ["value", "level", "high", "count", "deeper", "one"] ["value"] (defScope (topS 27)) := ⟨rfl, rfl, rfl, by decide +kernel, rfl, by decide +kernel, by decide +kernel⟩
  have nd := sc.nd
  refine h.good sc (fun vs H Q E h => by obtain ⟨v, rfl, _⟩ := h; rfl) (fun f cdv A outer s H vs Q E hr h => ?_)
  obtain ⟨v, rfl, hyp⟩ := h
  refine ⟨_, (pss_cons (ps_set (i := 1) nd rfl (by first | exact .inl rfl | exact .inr rfl) (pe_lst (pa_cons (pv 0) pa_nil)))
  (pss_cons (ps_set (i := 2) nd rfl (by first | exact .inl rfl | exact .inr rfl) pe_int)
  (pss_cons (ps_set (i := 3) nd rfl (by first | exact .inl rfl | exact .inr rfl) pe_int)
  (pss_cons (ps_while PassesOwn.never (PW.pt (pw_and (pt_truK K (pv 1) (by intro _; rfl)) (pw_and1 (pt_cmpR op_lt (pv 3) pe_int (nomark _)))))
  (pss_cons (ps_set (i := 2) nd rfl (by first | exact .inl rfl | exact .inr rfl) (pe_op op_add (pv 2) pe_int))
  (pss_cons (ps_set (i := 3) nd rfl (by first | exact .inl rfl | exact .inr rfl) (pe_op op_add (pv 3) (pe_callB (c_lenK K) (by rfl) T.n_len (by decide +kernel) (pa_cons (pv 1) pa_nil))))
  (pss_cons (ps_set (i := 4) nd rfl (by first | exact .inl rfl | exact .inr rfl) (pe_lst pa_nil))
  (pss_cons (ps_for PassesOwn.never rfl (pi_listK K (pv 1)) (pg_name (i := 5) nd rfl (by first | exact .inl rfl | exact .inr rfl))
  (pss_one (ps_if (pt_val (pe_callB (c_isiK K) (by rfl) T.n_isinstance (by decide +kernel) (pa_cons (pv 5) (pa_cons (pe_bltn (v := .ty "tuple") (by rfl) T.n_tuple (by decide +kernel) rfl) pa_nil))))
  (pss_one (ps_expr (pe_bmK K PySem.F.plainAttrs_list PySem.F.slot_list_extend PySem.F.type_list_extend (mt_extTK K) (pv 4) (pa_cons (pv 5) pa_nil)))) pss_nil)))
  (pss_one (ps_set (i := 1) nd rfl (by first | exact .inl rfl | exact .inr rfl) (pv 4))))))))
  (pss_cons (ps_if (pt_truK K (pv 1) (by intro _; rfl))
  (pss_one (ps_ret pe_int)) pss_nil)
  (pss_one (ps_ret (pv 2)))))))), ?_⟩
  try dsimp only [cxOf, Cx.wish]
  obtain ⟨d, hd, pd, sd, q⟩ := hyp
  have line : (200000 : Nat) < sizeLine := by decide
  refine s_seq ?_
  refine s_cut (fun σ' H' => ∃ Lv : Addr, σ' = [some v, some (.ref Lv), none, none, none, none] ∧ Same H H' ∧ H' Lv = some (.lst [v])) (fun N hN => ?_) ?_
  · kc_close
    intro Lv H1 nL s1 eL
    kc_close
    exact hN _ _ ⟨Lv, rfl, s1, eL⟩
  rintro _ H1 ⟨Lv, rfl, s1, eL⟩
  have hd1 := Im.tk (TK.same s1) _ _ hd
  kc_close
  refine s_cut (fun σ' H' => ∃ (Lv : Addr) (us : List V) (ds : List PyData) (h c : Int) (y4 y5 : Option V), σ' = [some v, some (.ref Lv), some (.int h), some (.int c), y4, y5] ∧ Same H H' ∧ H' Lv = some (.lst us) ∧ Ims K H' ds us ∧ (ht d : Int) = h + hts ds) (fun N hN => ?_) ?_
  · refine s_wh (fun σ' H' => ∃ (Lv : Addr) (us : List V) (ds : List PyData) (h c : Int) (y4 y5 : Option V), σ' = [some v, some (.ref Lv), some (.int h), some (.int c), y4, y5] ∧ Same H H' ∧ H' Lv = some (.lst us) ∧ Ims K H' ds us ∧ pls ds = true ∧ szs ds ≤ 200000 ∧ 0 ≤ c ∧ (ht d : Int) = h + hts ds) (fun σ' _ => (4000 - ival σ' 3).toNat) ⟨Lv, [v], [d], 0, 0, none, none, rfl, s1, eL, Ims.one hd1, by show (pl d && true) = true; rw [pd]; rfl, by show sz d + 0 ≤ _; omega, by omega, by show (ht d : Int) = 0 + ((max (ht d) 0 : Nat) : Int); omega⟩ ?_
    rintro _ H2 ⟨Lv, us, ds, h, c, y4, y5, rfl, s2, eL2, hus, pds, sds, c0, eh⟩
    have kL : SqL K H2 Lv us := SqL.of eL2
    have lus := Ims.length hus
    have hdeep := deep_sz ds pds
    kc_close
    cases us with
    | nil =>
      refine iteF ?_
      refine iteF ?_
      exact hN _ _ ⟨Lv, [], ds, h, c, y4, y5, rfl, s2, eL2, hus, eh⟩
    | cons u0 ur =>
      refine iteT ?_
      kc_close
      refine ifP (fun hc => ?_) (fun hc => ?_)
      · refine s_wN ?_
        have hne : ds ≠ [] := fun z => by
          subst z
          cases lus
        kc_close
        intro D H3 nD s3 eD
        have eL3 := s3 _ _ eL2
        have hus3 := Ims.tk (TK.same s3) _ _ hus
        kc_close
        refine s_ilistv (SqL.of eL3) ?_
        refine w_list (xs := u0 :: ur) (fun i σ' H' => ∃ (us2 : List V) (y5 : Option V), σ' = [some v, some (.ref Lv), some (.int (h + 1)), some (.int (c + (u0 :: ur).length)), some (.ref D), y5] ∧ Same H2 H' ∧ H' D = some (.lst us2) ∧ Ims K H' (deep (ds.take i)) us2) ⟨[], y5, rfl, s3, eD, rfl⟩ (fun i σ' H' _ p => by
          obtain ⟨_, _, _, s, _⟩ := p
          exact SqL.of (s _ _ eL2)) ?_ ?_
        · rintro i x _ H4 e ⟨us2, y5, rfl, s4, e4, hus2⟩
          obtain ⟨p, ep, hp⟩ := Ims.get (Ims.tk (TK.same s4) _ _ hus) e
          have lus2 := Ims.length hus2
          have l2 := deep_len (ds.take (i + 1))
          have l3 := szs_take ds (i + 1)
          rw [take_get ep, deep_app] at l2 ⊢
          rw [List.length_append] at l2
          rw [← take_get ep] at l2
          kc_close
          refine s_if ?_
          kc_close
          refine s_isT hp ?_
          kc_close
          cases p with
          | tuple ps =>
            obtain ⟨a, vs, rfl, hs, his⟩ := hp
            have lvs := Ims.length his
            have ld : (deep [PyData.tuple ps]).length = ps.length := by
              show (ps ++ []).length = _
              rw [List.append_nil]
            refine iteT ?_
            kc_close
            refine s_extT e4 hs (by omega) fun H5 b5 e5 => ?_
            have tk := TK.but (K := K) b5 e4
            refine ⟨us2 ++ vs, _, rfl, But.same b5 s4 nD, e5, ?_⟩
            show Ims K H5 (deep (ds.take i) ++ (ps ++ [])) (us2 ++ vs)
            rw [List.append_nil]
            exact (Ims.tk tk _ _ hus2).app (Ims.tk tk _ _ his)
          | _ =>
            refine iteF ?_
            kc_close
            refine ⟨us2, _, rfl, s4, e4, ?_⟩
            show Ims K H4 (deep (ds.take i) ++ []) us2
            rw [List.append_nil]
            exact hus2
        · rintro _ H4 ⟨us2, y5, rfl, s4, e4, hus2⟩
          rw [show (u0 :: ur).length = ds.length from lus, List.take_length] at hus2
          kc_close
          refine ⟨⟨D, us2, deep ds, h + 1, _, _, _, rfl, s2.trans s4, e4, hus2, hdeep.2.1, by omega, by omega, ?_⟩, ?_⟩
          · have := hdeep.2.2 hne
            rw [eh, this]
            omega
          · show (4000 - (c + ((u0 :: ur).length : Int))).toNat < (4000 - c).toNat
            have : 0 < (u0 :: ur).length := Nat.succ_pos _
            omega
      · exact hN _ _ ⟨Lv, u0 :: ur, ds, h, c, y4, y5, rfl, s2, eL2, hus, eh⟩
  rintro _ H2 ⟨Lv, us, ds, h, c, y4, y5, rfl, s2, eL2, hus, eh⟩
  have kL : SqL K H2 Lv us := SqL.of eL2
  kc_close
  refine s_if ?_
  kc_close
  cases us with
  | nil =>
    refine iteF ?_
    kc_close
    have : ds = [] := List.length_eq_zero_iff.mp (Ims.length hus).symm
    subst this
    have eh' : (ht d : Int) = h + 0 := eh
    exact q H2 h s2 (fun z => by omega)
  | cons u0 ur =>
    refine iteT ?_
    kc_close
    exact q H2 1000 s2 (fun z => by omega)
end
end K1
end
section
open PySem PySem.Spec PyProof.Rows L2 Z
local macro_rules | `(tactic| ktr_room) => `(tactic| first
  | assumption
  | (apply SqT.of; assumption)
  | (apply SqL.of; assumption)
  | (apply sqt_same; assumption; ktr_room)
  | (apply sql_same; assumption; ktr_room)
  | (apply sqt_but; assumption; assumption; ktr_room)
  | (apply sql_but; assumption; assumption; ktr_room)
  | (apply Same.of_; assumption; ktr_room)
  | (apply But.of_; assumption; assumption; ktr_room)
  | exact same_refl
  | exact but_refl
  | (apply same_tr; assumption; ktr_room)
  | (apply same_but; assumption; ktr_room; assumption)
  | (apply but_tr; assumption; ktr_room)
  | (apply but_trB; assumption; ktr_room))
local macro_rules | `(tactic| ktr_units) => `(tactic| first | with_reducible assumption | omega | rfl | exact ⟨by omega, by omega⟩ | exact .inl ⟨by omega, by omega⟩ | exact .inr ⟨by omega, by omega⟩ | exact ⟨by decide, by decide, by decide⟩ | exact Nat.le_of_ble_eq_true rfl | decide)
local macro_rules | `(tactic| kc_close) => `(tactic| repeat (with_reducible first
  | refine s_var (by with_unfolding_all rfl) ?_
  | refine s_c ?_
  | refine s_op ?_
  | refine s_rI0 ?_
  | refine s_asg ?_
  | refine s_gname ?_
  | refine s_seq ?_
  | refine s_cons ?_
  | refine s_nil ?_
  | refine s_call ?_
  | refine s_ret ?_
  | o_fieldsN
  | refine s_test ?_
  | refine s_bl ?_
  | refine s_rI (by with_unfolding_all (ktr_units)) ?_
  | refine s_rEq rfl ?_
  | refine s_rNe rfl ?_
  | refine s_cb ?_
  | refine s_int1 ?_
  | refine s_intB ?_
  | refine s_max2 ?_
  | refine s_min2 ?_
  | refine s_tup ?_
  | refine s_lst ?_
  | refine s_newT (by with_unfolding_all first | decide | exact Nat.le_of_ble_eq_true rfl) ?_
  | refine s_newL (by with_unfolding_all first | decide | exact Nat.le_of_ble_eq_true rfl) ?_
  | refine s_ixT (by ktr_room) (by with_unfolding_all rfl) ?_
  | refine s_ixL (by ktr_room) (by with_unfolding_all rfl) ?_
  | refine s_lenT (by ktr_room) ?_
  | refine s_lenL (by ktr_room) ?_
  | refine s_un ?_
  | refine s_rU ?_
  | refine s_and ?_
  | refine s_or ?_
  | refine s_not ?_
  | refine s_tB ?_
  | refine s_tru ?_
  | refine s_drop ?_
  | refine s_next ?_
  | refine s_for ?_
  | refine s_rng1 ?_
  | refine s_rng2 ?_
  | refine s_rng3 ?_
  | refine s_ilist ?_
  | refine s_itup ?_
  | refine s_iany ?_
  | refine s_ienum ?_
  | refine s_irev ?_
  | refine s_gcons ?_
  | refine s_gnil ?_
  | refine s_gtup (by ktr_room) (by with_unfolding_all rfl) ?_
  | refine s_gsub ?_
  | refine s_augS ?_
  | refine s_aug (by with_unfolding_all rfl) ?_
  | refine s_ipI ?_
  | refine s_bm ?_
  | refine s_bm0 ?_
  | refine s_tyL (by ktr_room) ?_
  | refine s_tyL0 (by ktr_room) ?_
  | refine s_sl ?_
  | refine s_part ?_
  | refine s_partv ?_
  | refine s_noPart ?_
  | refine s_lc ?_
  | refine s_yes ?_
  | refine s_wipe (by with_unfolding_all rfl) ?_
  | refine iteT ?_
  | refine s_retN ?_
  | refine s_isN ?_
  | refine s_truB ?_
  | refine s_isB2 ?_
  | refine s_notB2 ?_
  | refine s_revT ?_
  | refine s_andV ?_
  | refine s_orV ?_
  | refine s_ifE ?_
  | refine s_notK ?_
  | refine s_notN ?_
  | refine s_truL (by ktr_room) ?_
  | refine s_truT (by ktr_room) ?_))
open K1
local macro_rules | `(tactic| ktr_room) => `(tactic| first
  | (apply DR.same; assumption; ktr_room)
  | (apply sqt_butD; assumption; ktr_room; ktr_room))
namespace K1
section
variable {P : Program} {w : World} {K : PySem.W.Frag} {mg : Str → Option Value} {base : Heap}
theorem tk_butN {K : PySem.W.Frag} {c L : Addr} {H H' : Hp} (e : But c H H') (d : DR H c L) : TK K H H' := fun _ _ h => sqt_butD e d h
theorem Ims.cut {K : PySem.W.Frag} {H : Hp} {ds : List PyData} {vs : List V} (h : Ims K H ds vs) (lo hi : Option Int) : ∃ es, Ims K H es (cutV vs lo hi) ∧ es.Sublist ds := by
  unfold cutV
  exact ⟨_, Ims.take (Ims.drop h _) _, (List.take_sublist _ _).trans (List.drop_sublist _ _)⟩
theorem szs_rev (ds : List PyData) : szs ds.reverse = szs ds ∧ hts ds.reverse = hts ds ∧ (pls ds = true → pls ds.reverse = true) := by
  refine ⟨?_, ?_, fun h => pls_mem.mpr fun d m => pls_mem.mp h d (List.mem_reverse.mp m)⟩
  · induction ds with
    | nil => rfl
    | cons a r ih =>
      rw [List.reverse_cons, szs_app, ih]
      show szs r + (sz a + 0) = sz a + szs r
      omega
  · induction ds with
    | nil => rfl
    | cons a r ih =>
      rw [List.reverse_cons, hts_app, ih]
      show max (hts r) (max (ht a) 0) = max (ht a) (hts r)
      omega
theorem im_nil {K : PySem.W.Frag} {H : Hp} {a : Addr} (h : SqT K H a []) : Im K H (.tuple []) (.ref a) := ⟨a, [], rfl, h, rfl⟩
theorem im_two {K : PySem.W.Frag} {H : Hp} {a : Addr} {d e : PyData} {v u : V} (h : SqT K H a [v, u]) (hd : Im K H d v) (he : Im K H e u) : Im K H (.tuple [d, e]) (.ref a) := ⟨a, [v, u], rfl, h, v, [u], rfl, hd, u, [], rfl, he, rfl⟩
/-- an item of a list of data, by its number -/
structure Oth (K : PySem.W.Frag) (H : Hp) (S : Nat) (x : V) : Prop where
  ex : ∃ od, Im K H od x ∧ Bd 121 (2 * S + 6) od
theorem Oth.tk {K : PySem.W.Frag} {H H' : Hp} {S : Nat} {x : V} (o : Oth K H S x) (k : TK K H H') : Oth K H' S x := by
  obtain ⟨od, i, b⟩ := o
  exact ⟨od, Im.tk k _ _ i, b⟩
theorem at10 {α : Type} {a0 a1 a2 a3 a4 a5 a6 a7 a8 a9 : α} {d : Int} (h0 : 0 ≤ d) (h1 : d < 10) : ∃ x, (x = a0 ∨ x = a1 ∨ x = a2 ∨ x = a3 ∨ x = a4 ∨ x = a5 ∨ x = a6 ∨ x = a7 ∨ x = a8 ∨ x = a9) ∧ atI [a0, a1, a2, a3, a4, a5, a6, a7, a8, a9] d = some x := by
  rcases (show d = 0 ∨ d = 1 ∨ d = 2 ∨ d = 3 ∨ d = 4 ∨ d = 5 ∨ d = 6 ∨ d = 7 ∨ d = 8 ∨ d = 9 by omega) with rfl | rfl | rfl | rfl | rfl | rfl | rfl | rfl | rfl | rfl
  · exact ⟨a0, by simp, rfl⟩
  · exact ⟨a1, by simp, rfl⟩
  · exact ⟨a2, by simp, rfl⟩
  · exact ⟨a3, by simp, rfl⟩
  · exact ⟨a4, by simp, rfl⟩
  · exact ⟨a5, by simp, rfl⟩
  · exact ⟨a6, by simp, rfl⟩
  · exact ⟨a7, by simp, rfl⟩
  · exact ⟨a8, by simp, rfl⟩
  · exact ⟨a9, by simp, rfl⟩
theorem at4 {α : Type} {a0 a1 a2 a3 : α} {d : Int} (h0 : 0 ≤ d) (h1 : d < 4) : ∃ x, (x = a0 ∨ x = a1 ∨ x = a2 ∨ x = a3) ∧ atI [a0, a1, a2, a3] d = some x := by
  rcases (show d = 0 ∨ d = 1 ∨ d = 2 ∨ d = 3 by omega) with rfl | rfl | rfl | rfl
  · exact ⟨a0, by simp, rfl⟩
  · exact ⟨a1, by simp, rfl⟩
  · exact ⟨a2, by simp, rfl⟩
  · exact ⟨a3, by simp, rfl⟩
def spSpoilt (K : PySem.W.Frag) : Sp := fun vs H Q _ => ∃ (c : Addr) (v : V), vs = [.ref c, v] ∧ ∃ (L : Addr) (d : PyData) (S : Nat), DR H c L ∧ Im K H d v ∧ Bd 120 S d ∧ S ≤ 64000 ∧
  ∀ H' v' d', But c H H' → DR H' c L → Im K H' d' v' → Bd 120 (3 * S + 6) d' → Q v' H'
theorem ok__law_spoilt (T : NoB mg) (h : Has K mg "_law_spoilt" (topS 28) ["c", "value"]) (G__law_nodes_of : Good P w K mg base 130 "_law_nodes_of" ["value", "found"] (spNodes K 130)) (G__law_take : Good P w K mg base 2 "_law_take" ["c", "many"] (spTake)) (G__law_changed : Good P w K mg base 130 "_law_changed" ["value", "box", "other"] (spChanged K 130)) (G__law_high : Good P w K mg base 1 "_law_high" ["value"] (spHigh K)) : Good P w K mg base 131 "_law_spoilt" ["c", "value"] (spSpoilt K) := by
  have sc : FnScope ["c", "value", "found", "at", "one", "other", "changed"] ["c", "value"] (defScope (topS 28)) := ⟨rfl, rfl, rfl, by decide +kernel, rfl, by decide +kernel, by decide +kernel⟩
  have nd := sc.nd
  refine h.good sc (fun vs H Q E h => by obtain ⟨c, v, rfl, _⟩ := h; rfl) (fun f cdv A outer s H vs Q E hr h => ?_)
  obtain ⟨c, v, rfl, hyp⟩ := h
  refine ⟨_, (pss_cons (ps_set (i := 2) nd rfl (by first | exact .inl rfl | exact .inr rfl) (pe_callG G__law_nodes_of (hr.mono (by first | decide | omega)) (by rfl) (pa_cons (pv 1) (pa_cons (pe_lst pa_nil) pa_nil))))
  (pss_cons (ps_set (i := 3) nd rfl (by first | exact .inl rfl | exact .inr rfl) (pe_callG G__law_take (hr.mono (by first | decide | omega)) (by rfl) (pa_cons (pv 0) (pa_cons (pe_callB (c_lenK K) (by rfl) T.n_len (by decide +kernel) (pa_cons (pv 2) pa_nil)) pa_nil))))
  (pss_cons (ps_set (i := 4) nd rfl (by first | exact .inl rfl | exact .inr rfl) (pe_ix (ix_listK K) (pv 2) (pv 3) (fun _ _ => rfl)))
  (pss_cons (ps_set (i := 5) nd rfl (by first | exact .inl rfl | exact .inr rfl) (pe_ix (ix_listK K) (pe_lst (pa_cons (pe_ix (ix_listK K) (pv 2) (pe_callG G__law_take (hr.mono (by first | decide | omega)) (by rfl) (pa_cons (pv 0) (pa_cons (pe_callB (c_lenK K) (by rfl) T.n_len (by decide +kernel) (pa_cons (pv 2) pa_nil)) pa_nil))) (fun _ _ => rfl)) (pa_cons pe_non (pa_cons pe_int (pa_cons pe_int (pa_cons (pe_tup pa_nil) (pa_cons (pe_tup (pa_cons (pe_tup pa_nil) (pa_cons pe_int pa_nil))) (pa_cons (pe_tup (pa_cons pe_int (pa_cons (pe_tup (pa_cons (pe_tup pa_nil) (pa_cons pe_int pa_nil))) pa_nil))) (pa_cons (pe_op op_sub pe_int pe_int) (pa_cons pe_str (pa_cons pe_int pa_nil))))))))))) (pe_callG G__law_take (hr.mono (by first | decide | omega)) (by rfl) (pa_cons (pv 0) (pa_cons pe_int pa_nil))) (fun _ _ => rfl)))
  (pss_cons (ps_if (PW.pt (pw_and (pt_val (pe_callB (c_isiK K) (by rfl) T.n_isinstance (by decide +kernel) (pa_cons (pv 4) (pa_cons (pe_bltn (v := .ty "tuple") (by rfl) T.n_tuple (by decide +kernel) rfl) pa_nil)))) (pw_and1 (pt_cmpR op_eq (pe_callG G__law_take (hr.mono (by first | decide | omega)) (by rfl) (pa_cons (pv 0) (pa_cons pe_int pa_nil))) pe_int (nomark _)))))
  (pss_one (ps_set (i := 5) nd rfl (by first | exact .inl rfl | exact .inr rfl) (pe_ix (ix_listK K) (pe_lst (pa_cons (pe_slice (sl_tupK K) (pv 4) (po_some pe_int) po_none) (pa_cons (pe_op (op_catK K) (pv 4) (pe_slice (sl_tupK K) (pv 4) (po_some (pe_un un_neg pe_int)) po_none)) (pa_cons (pe_revTK K (pv 4)) (pa_cons (pe_slice (sl_tupK K) (pv 4) po_none (po_some (pe_un un_neg pe_int))) pa_nil))))) (pe_callG G__law_take (hr.mono (by first | decide | omega)) (by rfl) (pa_cons (pv 0) (pa_cons pe_int pa_nil))) (fun _ _ => rfl)))) pss_nil)
  (pss_cons (ps_set (i := 6) nd rfl (by first | exact .inl rfl | exact .inr rfl) (pe_callG G__law_changed (hr.mono (by first | decide | omega)) (by rfl) (pa_cons (pv 1) (pa_cons (pe_lst (pa_cons (pe_op op_add (pv 3) pe_int) pa_nil)) (pa_cons (pv 5) pa_nil)))))
  (pss_cons (ps_if (pt_cmpR op_gt (pe_callG G__law_high (hr.mono (by first | decide | omega)) (by rfl) (pa_cons (pv 6) pa_nil)) pe_int (nomark _))
  (pss_one (ps_ret (pv 1))) pss_nil)
  (pss_one (ps_ret (pv 6)))))))))), ?_⟩
  try dsimp only [cxOf, Cx.wish]
  obtain ⟨L, d, S, d0, hd, bd, hS, q⟩ := hyp
  have line : (200000 : Nat) < sizeLine := by decide
  -- found
  refine s_seq ?_
  refine s_cut (fun σ' H' => ∃ (F : Addr) (xs : List V), σ' = [some (.ref c), some v, some (.ref F), none, none, none, none] ∧ Same H H' ∧ H F = none ∧ Fnd K 120 S H' F xs ∧ 0 < xs.length) (fun N hN => ?_) ?_
  · kc_close
    intro F H1 nF s1 eF
    kc_close
    refine ⟨v, F, rfl, d, 120, S, [], Im.tk (TK.same s1) _ _ hd, Nat.le_trans bd.ht (by decide), bd, ⟨⟨[], rfl, fun e h => (by cases h)⟩, eF, Nat.zero_le _⟩, fun H2 xs' b2 fn _ lt => ?_⟩
    kc_close
    exact hN _ _ ⟨F, xs', rfl, But.same b2 s1 nF, nF, fn, lt (by decide)⟩
  rintro _ H1 ⟨F, xs, rfl, s1, nF, fn, lx⟩
  have eF1 := fn.at_
  have lx3 := fn.le
  have d1 := d0.same s1
  have hd1 := Im.tk (TK.same s1) _ _ hd
  obtain ⟨⟨fds, fis, fbd⟩, _, _⟩ := fn
  have nFC : F ≠ c := d0.ne nF
  -- at
  refine s_seq ?_
  refine s_cut (fun σ' H' => ∃ (k : Nat), σ' = [some (.ref c), some v, some (.ref F), some (.int k), none, none, none] ∧ But c H1 H' ∧ DR H' c L ∧ k < xs.length) (fun N hN => ?_) ?_
  · have k1 : SqL K H1 F xs := SqL.of eF1
    kc_close
    refine u_take d1 (by omega) (by omega) fun H2 x b2 d2 g0 g1 => ?_
    kc_close
    refine hN _ _ ⟨x.toNat, ?_, b2, d2, by omega⟩
    rw [show ((x.toNat : Nat) : Int) = x by omega]
    rfl
  rintro _ H2 ⟨k, rfl, b2, d2, hk⟩
  have tk2 := tk_butN (K := K) b2 d1
  have eF2 := b2 _ _ nFC eF1
  have hd2 := Im.tk tk2 _ _ hd1
  have fis2 := Ims.tk tk2 _ _ fis
  have k2 : SqL K H2 F xs := SqL.of eF2
  -- one
  refine s_seq ?_
  refine s_cut (fun σ' H' => ∃ (u : V) (e : PyData), σ' = [some (.ref c), some v, some (.ref F), some (.int k), some u, none, none] ∧ H' = H2 ∧ Im K H2 e u ∧ Bd 120 S e) (fun N hN => ?_) ?_
  · have ex : xs[k]? = some xs[k] := List.getElem?_eq_getElem hk
    obtain ⟨e, ee, he⟩ := Ims.get fis2 ex
    kc_close
    refine s_ixL k2 (at_of (j := k) rfl ex) ?_
    kc_close
    exact hN _ _ ⟨_, e, rfl, rfl, he, fbd e (List.mem_of_getElem? ee)⟩
  rintro _ H2 ⟨u, e, rfl, rfl, hu, bu⟩
  -- other
  refine s_seq ?_
  refine s_cut (fun σ' H' => ∃ (o : V), σ' = [some (.ref c), some v, some (.ref F), some (.int k), some u, some o, none] ∧ But c H2 H' ∧ DR H' c L ∧ Oth K H' S o) (fun N hN => ?_) ?_
  · kc_close
    refine u_take d2 (by omega) (by omega) fun H3 x b3 d3 g0 g1 => ?_
    have tk3 := tk_butN (K := K) b3 d2
    have k3 : SqL K H3 F xs := SqL.of (b3 _ _ nFC eF2)
    have ex : xs[x.toNat]? = some xs[x.toNat] := List.getElem?_eq_getElem (by omega)
    obtain ⟨e1, ee1, he1⟩ := Ims.get (Ims.tk tk3 _ _ fis2) ex
    have be1 := fbd e1 (List.mem_of_getElem? ee1)
    kc_close
    refine s_ixL k3 (at_of (j := x.toNat) (by omega) ex) ?_
    kc_close
    intro t1 H4 n1 s4 et1
    kc_close
    intro t2 H5 n2 s5 et2
    kc_close
    intro t3 H6 n3 s6 et3
    kc_close
    intro t4 H7 n4 s7 et4
    kc_close
    intro t5 H8 n5 s8 et5
    kc_close
    intro t6 H9 n6 s9 et6
    kc_close
    intro l H10 nl s10 el
    have d10 : DR H10 c L := ((d3.same (s4.trans s5)).same (s6.trans s7)).same ((s8.trans s9).trans s10)
    kc_close
    refine u_take d10 (by omega) (by omega) fun H11 y b11 d11 g2 g3 => ?_
    have ncl : l ≠ c := ((d3.same (s4.trans s5)).same ((s6.trans s7).trans (s8.trans s9))).ne nl
    have el11 := b11 _ _ ncl el
    have tk11 := tk_butN (K := K) b11 d10
    have st := ((s4.trans s5).trans (s6.trans s7)).trans ((s8.trans s9).trans s10)
    have tko : TK K H3 H11 := (TK.same st).trans tk11
    have z0 : Im K H11 (.tuple []) (.ref t1) := Im.tk tk11 _ _ (im_nil (sqt_same ((s5.trans s6).trans ((s7.trans s8).trans (s9.trans s10))) (SqT.of et1)))
    have z1 : Im K H11 (.tuple [.tuple [], .int 0]) (.ref t3) := Im.tk (((TK.same ((s7.trans s8).trans (s9.trans s10)))).trans tk11) _ _ (im_two (SqT.of et3) (im_nil (sqt_same s6 (SqT.of et2))) rfl)
    have z2 : Im K H11 (.tuple [.int 0, .tuple [.tuple [], .int 0]]) (.ref t6) := Im.tk ((TK.same s10).trans tk11) _ _ (im_two (SqT.of et6) rfl (Im.tk (TK.same s9) _ _ (im_two (SqT.of et5) (im_nil (sqt_same s8 (SqT.of et4))) rfl)))
    obtain ⟨o, ho, eo⟩ := at10 (a0 := xs[x.toNat]) (a1 := V.non) (a2 := V.int 0) (a3 := V.int 1) (a4 := V.ref t1) (a5 := V.ref t3) (a6 := V.ref t6) (a7 := V.int (0 - 1)) (a8 := V.str "a") (a9 := V.int 99) g2 g3
    refine s_ixL (SqL.of el11) eo ?_
    kc_close
    refine hN _ _ ⟨o, rfl, (b3.trans (But.of st)).trans b11, d11, ?_⟩
    have bd0 : ∀ {x : PyData}, ht x ≤ 4 → sz x ≤ 6 → pl x = true → Bd 121 (2 * S + 6) x := fun a b p => ⟨by omega, by omega, p⟩
    rcases ho with rfl | rfl | rfl | rfl | rfl | rfl | rfl | rfl | rfl | rfl
    · exact ⟨e1, Im.tk tko _ _ he1, be1.mono (by decide) (by omega)⟩
    · exact ⟨.none, rfl, bd0 (by decide) (by decide) rfl⟩
    · exact ⟨.int 0, rfl, bd0 (by show 1 ≤ 4; decide) (by show 1 ≤ 6; decide) rfl⟩
    · exact ⟨.int 1, rfl, bd0 (by show 1 ≤ 4; decide) (by show 1 ≤ 6; decide) rfl⟩
    · exact ⟨_, z0, bd0 (by show 1 ≤ 4; decide) (by show 1 ≤ 6; decide) rfl⟩
    · exact ⟨_, z1, bd0 (by show 1 + max 1 (max 1 0) ≤ 4; decide) (by show 1 + (1 + 0 + (1 + 0)) ≤ 6; decide) rfl⟩
    · exact ⟨_, z2, bd0 (by show 1 + max 1 (max (1 + max (1 + 0) (max 1 0)) 0) ≤ 4; decide) (by show 1 + (1 + (1 + (1 + 0 + (1 + 0)) + 0)) ≤ 6; decide) rfl⟩
    · exact ⟨.int (0 - 1), rfl, bd0 (by show 1 ≤ 4; decide) (by show 1 ≤ 6; decide) rfl⟩
    · exact ⟨.str "a", rfl, bd0 (by show 1 ≤ 4; decide) (by show 1 ≤ 6; decide) (by decide +kernel)⟩
    · exact ⟨.int 99, rfl, bd0 (by show 1 ≤ 4; decide) (by show 1 ≤ 6; decide) rfl⟩
  rintro _ H3 ⟨o, rfl, b3, d3, ho⟩
  have tk3 := tk_butN (K := K) b3 d2
  have hd3 := Im.tk tk3 _ _ hd2
  have hu3 := Im.tk tk3 _ _ hu
  -- a part of it
  refine s_seq ?_
  refine s_cut (fun σ' H' => ∃ (o : V), σ' = [some (.ref c), some v, some (.ref F), some (.int k), some u, some o, none] ∧ But c H3 H' ∧ DR H' c L ∧ Oth K H' S o) (fun N hN => ?_) ?_
  · refine s_if ?_
    kc_close
    refine s_isT hu3 ?_
    kc_close
    cases e with
    | tuple ps =>
      obtain ⟨a, vs, rfl, hs, his⟩ := hu3
      have b1 : 1 + hts ps ≤ 120 := bu.ht
      have b2 : 1 + szs ps ≤ S := bu.sz
      have b3' : pls ps = true := bu.pl
      have lvs := Ims.length his
      have lps := len_szs ps
      refine iteT ?_
      kc_close
      refine u_take d3 (by omega) (by omega) fun H4 x b4 d4 g0 g1 => ?_
      have tk4 := tk_butN (K := K) b4 d3
      have hs4 := tk4 _ _ hs
      have his4 := Ims.tk tk4 _ _ his
      kc_close
      refine ifI (fun _ => ?_) (fun _ => ?_)
      · kc_close
        obtain ⟨p1, ip1, sp1⟩ := Ims.cut his4 (some 1) none
        obtain ⟨p2, ip2, sp2⟩ := Ims.cut his4 (some (-1)) none
        obtain ⟨p4, ip4, sp4⟩ := Ims.cut his4 none (some (-1))
        have l2 : (cutV vs (some (-1)) none).length ≤ vs.length := cutV_length _ _ _
        refine s_slT hs4 fun q1 H5 s5 h1 => ?_
        have hs5 := sqt_same s5 hs4
        kc_close
        refine s_slT hs5 fun q2 H6 s6 h2 => ?_
        have hs6 := sqt_same s6 hs5
        refine s_catA hs6 h2 (by omega) fun q3 H7 s7 h3 => ?_
        have hs7 := sqt_same s7 hs6
        kc_close
        refine s_revTv hs7 fun q4 H8 n4 s8 h4 => ?_
        have hs8 := sqt_same s8 hs7
        kc_close
        refine s_slT hs8 fun q5 H9 s9 h5 => ?_
        kc_close
        intro l H10 nl s10 el
        have d10 : DR H10 c L := d4.same (((s5.trans s6).trans (s7.trans s8)).trans (s9.trans s10))
        have ncl : l ≠ c := (d4.same (((s5.trans s6).trans (s7.trans s8)).trans s9)).ne nl
        kc_close
        refine u_take d10 (by omega) (by omega) fun H11 y b11 d11 g2 g3 => ?_
        have el11 := b11 _ _ ncl el
        have tk11 := tk_butN (K := K) b11 d10
        obtain ⟨o', ho', eo⟩ := at4 (a0 := V.ref q1) (a1 := V.ref q3) (a2 := V.ref q4) (a3 := V.ref q5) g2 g3
        refine s_ixL (SqL.of el11) eo ?_
        kc_close
        have i4 : TK K H4 H11 := (TK.same (((s5.trans s6).trans (s7.trans s8)).trans (s9.trans s10))).trans tk11
        have f : ∀ {q : Addr} {es : List PyData} {us : List V}, SqT K H11 q us → Ims K H4 es us → 1 + hts es ≤ 121 → 1 + szs es ≤ 2 * S + 6 → pls es = true → Oth K H11 S (.ref q) := fun h i a b c => ⟨.tuple _, ⟨_, _, rfl, h, Ims.tk i4 _ _ i⟩, a, b, c⟩
        have ss1 := sub_szs sp1
        have ss2 := sub_szs sp2
        have ss4 := sub_szs sp4
        have sr := szs_rev ps
        refine hN _ _ ⟨o', rfl, (b4.trans (But.of (((s5.trans s6).trans (s7.trans s8)).trans (s9.trans s10)))).trans b11, d11, ?_⟩
        rcases ho' with rfl | rfl | rfl | rfl
        · exact f (tk11 _ _ (sqt_same ((s6.trans (s7.trans s8)).trans (s9.trans s10)) h1)) ip1 (by omega) (by omega) (ss1.2.2 b3')
        · refine f (tk11 _ _ (sqt_same (s8.trans (s9.trans s10)) h3)) (his4.app ip2) (by rw [hts_app]; omega) (by rw [szs_app]; omega) (pls_mem.mpr fun z hz => ?_)
          rcases List.mem_append.mp hz with hz | hz
          · exact pls_mem.mp b3' z hz
          · exact pls_mem.mp (ss2.2.2 b3') z hz
        · exact f (tk11 _ _ (sqt_same (s9.trans s10) (SqT.of h4))) his4.rev (by omega) (by omega) (sr.2.2 b3')
        · exact f (tk11 _ _ (sqt_same s10 h5)) ip4 (by omega) (by omega) (ss4.2.2 b3')
      · kc_close
        exact hN _ _ ⟨o, rfl, b4, d4, ho.tk tk4⟩
    | _ =>
      refine iteF ?_
      refine iteF ?_
      kc_close
      exact hN _ _ ⟨o, rfl, But.refl _ _, d3, ho⟩
  rintro _ H4 ⟨o, rfl, b4, d4, ⟨od, hod, bod⟩⟩
  have tk4 := tk_butN (K := K) b4 d3
  have hd4 := Im.tk tk4 _ _ hd3
  have bdh := bd.ht
  have bds := bd.sz
  have boh := bod.ht
  have bos := bod.sz
  -- changed
  refine s_seq ?_
  refine s_cut (fun σ' H' => ∃ (z : V) (zd : PyData), σ' = [some (.ref c), some v, some (.ref F), some (.int k), some u, some o, some z] ∧ Same H4 H' ∧ Im K H' zd z ∧ pl zd = true ∧ sz zd ≤ 3 * S + 6) (fun N hN => ?_) ?_
  · kc_close
    intro bx H5 nb s5 eb
    kc_close
    refine ⟨v, bx, o, rfl, d, od, _, Im.tk (TK.same s5) _ _ hd4, by omega, Im.tk (TK.same s5) _ _ hod, eb, bd.pl, bod.pl, by omega, fun H6 z zd i' b6 _ hz pz hz2 sz2 _ => ?_⟩
    kc_close
    exact hN _ _ ⟨z, zd, rfl, But.same b6 s5 nb, hz, pz, by omega⟩
  rintro _ H5 ⟨z, zd, rfl, s5, hz, pz, sz2⟩
  kc_close
  refine s_if ?_
  kc_close
  refine ⟨z, rfl, zd, hz, pz, by omega, fun H6 kk s6 hk6 => ?_⟩
  have bb : But c H H6 := (((But.of s1).trans b2).trans (b3.trans b4)).trans (But.of (s5.trans s6))
  have d6 := d4.same (s5.trans s6)
  kc_close
  refine ifP (fun h => ?_) (fun h => ?_)
  · kc_close
    exact q H6 v d bb d6 (Im.tk (TK.same (s5.trans s6)) _ _ hd4) (bd.mono (Nat.le_refl _) (by omega))
  · kc_close
    exact q H6 z zd bb d6 (Im.tk (TK.same s6) _ _ hz) ⟨hk6 (by omega), sz2, pz⟩
end
end K1
end
section
open PySem PySem.Spec PyProof.Rows L2 Z
local macro_rules | `(tactic| ktr_room) => `(tactic| first
  | assumption
  | (apply SqT.of; assumption)
  | (apply SqL.of; assumption)
  | (apply sqt_same; assumption; ktr_room)
  | (apply sql_same; assumption; ktr_room)
  | (apply sqt_but; assumption; assumption; ktr_room)
  | (apply sql_but; assumption; assumption; ktr_room)
  | (apply Same.of_; assumption; ktr_room)
  | (apply But.of_; assumption; assumption; ktr_room)
  | exact same_refl
  | exact but_refl
  | (apply same_tr; assumption; ktr_room)
  | (apply same_but; assumption; ktr_room; assumption)
  | (apply but_tr; assumption; ktr_room)
  | (apply but_trB; assumption; ktr_room))
local macro_rules | `(tactic| ktr_units) => `(tactic| first | with_reducible assumption | omega | rfl | exact ⟨by omega, by omega⟩ | exact .inl ⟨by omega, by omega⟩ | exact .inr ⟨by omega, by omega⟩ | exact ⟨by decide, by decide, by decide⟩ | exact Nat.le_of_ble_eq_true rfl | decide)
local macro_rules | `(tactic| kc_close) => `(tactic| repeat (with_reducible first
  | refine s_var (by with_unfolding_all rfl) ?_
  | refine s_c ?_
  | refine s_op ?_
  | refine s_rI0 ?_
  | refine s_asg ?_
  | refine s_gname ?_
  | refine s_seq ?_
  | refine s_cons ?_
  | refine s_nil ?_
  | refine s_call ?_
  | refine s_ret ?_
  | o_fieldsN
  | refine s_test ?_
  | refine s_bl ?_
  | refine s_rI (by with_unfolding_all (ktr_units)) ?_
  | refine s_rEq rfl ?_
  | refine s_rNe rfl ?_
  | refine s_cb ?_
  | refine s_int1 ?_
  | refine s_intB ?_
  | refine s_max2 ?_
  | refine s_min2 ?_
  | refine s_tup ?_
  | refine s_lst ?_
  | refine s_newT (by with_unfolding_all first | decide | exact Nat.le_of_ble_eq_true rfl) ?_
  | refine s_newL (by with_unfolding_all first | decide | exact Nat.le_of_ble_eq_true rfl) ?_
  | refine s_ixT (by ktr_room) (by with_unfolding_all rfl) ?_
  | refine s_ixL (by ktr_room) (by with_unfolding_all rfl) ?_
  | refine s_lenT (by ktr_room) ?_
  | refine s_lenL (by ktr_room) ?_
  | refine s_un ?_
  | refine s_rU ?_
  | refine s_and ?_
  | refine s_or ?_
  | refine s_not ?_
  | refine s_tB ?_
  | refine s_tru ?_
  | refine s_drop ?_
  | refine s_next ?_
  | refine s_for ?_
  | refine s_rng1 ?_
  | refine s_rng2 ?_
  | refine s_rng3 ?_
  | refine s_ilist ?_
  | refine s_itup ?_
  | refine s_iany ?_
  | refine s_ienum ?_
  | refine s_irev ?_
  | refine s_gcons ?_
  | refine s_gnil ?_
  | refine s_gtup (by ktr_room) (by with_unfolding_all rfl) ?_
  | refine s_gsub ?_
  | refine s_augS ?_
  | refine s_aug (by with_unfolding_all rfl) ?_
  | refine s_ipI ?_
  | refine s_bm ?_
  | refine s_bm0 ?_
  | refine s_tyL (by ktr_room) ?_
  | refine s_tyL0 (by ktr_room) ?_
  | refine s_sl ?_
  | refine s_part ?_
  | refine s_partv ?_
  | refine s_noPart ?_
  | refine s_lc ?_
  | refine s_yes ?_
  | refine s_wipe (by with_unfolding_all rfl) ?_
  | refine iteT ?_
  | refine s_retN ?_
  | refine s_isN ?_
  | refine s_truB ?_
  | refine s_isB2 ?_
  | refine s_notB2 ?_
  | refine s_revT ?_
  | refine s_andV ?_
  | refine s_orV ?_
  | refine s_ifE ?_
  | refine s_notK ?_
  | refine s_notN ?_
  | refine s_truL (by ktr_room) ?_
  | refine s_truT (by ktr_room) ?_))
open K1
local macro_rules | `(tactic| ktr_room) => `(tactic| first
  | (apply DR.same; assumption; ktr_room)
  | (apply sqt_butD; assumption; ktr_room; ktr_room))
namespace K1
section
variable {P : Program} {w : World} {K : PySem.W.Frag} {mg : Str → Option Value} {base : Heap}
def wholeB (d : PyData) (lo hi : Int) : Bool := match d with
  | .int i => decide (lo ≤ i) && decide (i ≤ hi)
  | _ => false
def spWhole (K : PySem.W.Frag) : Sp := fun vs H Q _ => ∃ (v : V) (lo hi : Int), vs = [v, .int lo, .int hi] ∧ ∃ d, Im K H d v ∧ pl d = true ∧ Q (.bl (wholeB d lo hi)) H
theorem ok__law_whole (T : NoB mg) (h : Has K mg "_law_whole" (topS 29) ["n", "least", "most"]) : Good P w K mg base 1 "_law_whole" ["n", "least", "most"] (spWhole K) := by
  have sc : FnScope ["n", "least", "most"] ["n", "least", "most"] (defScope (topS 29)) := ⟨rfl, rfl, rfl, by decide +kernel, rfl, by decide +kernel, by decide +kernel⟩
  have nd := sc.nd
  refine h.good sc (fun vs H Q E h => by obtain ⟨v, lo, hi, rfl, _⟩ := h; rfl) (fun f cdv A outer s H vs Q E hr h => ?_)
  obtain ⟨v, lo, hi, rfl, hyp⟩ := h
  refine ⟨_, (pss_one (ps_ret (pe_and (pe_callB (c_isiK K) (by rfl) T.n_isinstance (by decide +kernel) (pa_cons (pv 0) (pa_cons (pe_bltn (v := .ty "int") (by rfl) T.n_int (by decide +kernel) rfl) pa_nil))) (pe_and (pe_notK K (pe_callB (c_isiK K) (by rfl) T.n_isinstance (by decide +kernel) (pa_cons (pv 0) (pa_cons (pe_bltn (v := .ty "bool") (by rfl) T.n_bool (by decide +kernel) rfl) pa_nil)))) (pe_and (pe_cmpR op_ge (pv 0) (pv 1) (nomark _)) (pe_one (pe_cmpR op_le (pv 0) (pv 2) (nomark _)))))))), ?_⟩
  try dsimp only [cxOf, Cx.wish]
  obtain ⟨d, hd, pd, q⟩ := hyp
  kc_close
  refine s_isI hd ?_
  kc_close
  cases d with
  | int i =>
    have e : v = .int i := hd
    subst e
    refine iteT ?_
    kc_close
    refine s_isi (b := false) (by decide +kernel) ?_
    kc_close
    refine iteT ?_
    kc_close
    refine ifP (fun h => ?_) (fun h => ?_)
    · kc_close
      have q' : Q (.bl (decide (lo ≤ i) && decide (i ≤ hi))) H := q
      rw [decide_eq_true (show lo ≤ i by omega), Bool.true_and] at q'
      exact q'
    · have q' : Q (.bl (decide (lo ≤ i) && decide (i ≤ hi))) H := q
      rw [decide_eq_false (show ¬ lo ≤ i by omega), Bool.false_and] at q'
      exact q'
  | bool b => cases pd
  | none => refine iteF ?_; exact q
  | str _ => refine iteF ?_; exact q
  | tuple _ => refine iteF ?_; exact q
  | list _ => cases pd
  | dict _ => cases pd
/-- an address of the form of the document -/
def isAddr (n t m : Int) (d : PyData) : Prop := ∃ st sd xs, d = .tuple (xs.map .int) ∧ M.AddrAt n t m st sd xs
theorem map_int_inj : ∀ {xs ys : List Int}, xs.map PyData.int = ys.map PyData.int → xs = ys
  | [], [], _ => rfl
  | [], _ :: _, h => by cases h
  | _ :: _, [], h => by cases h
  | x :: xs, y :: ys, h => by
    injection h with h1 h2
    injection h1 with h1
    rw [h1, map_int_inj h2]
theorem isAddr_ints {n t m : Int} {xs : List Int} : isAddr n t m (.tuple (xs.map .int)) ↔ ∃ st sd, M.AddrAt n t m st sd xs := by
  constructor
  · rintro ⟨st, sd, ys, e, h⟩
    injection e with e
    rw [map_int_inj e]
    exact ⟨st, sd, h⟩
  · rintro ⟨st, sd, h⟩
    exact ⟨st, sd, xs, rfl, h⟩
/-- what holds of every address -/
theorem addr_all {n t m : Int} (n7 : n ≤ 7) (t2 : t ≤ 2) (m6 : m ≤ 6) {st sd : Int} {xs : List Int} (h : M.AddrAt n t m st sd xs) :
    4 ≤ xs.length ∧ xs[0]? = some st ∧ xs[1]? = some sd ∧ 1 ≤ st ∧ st ≤ 8 ∧ 1 ≤ sd ∧ sd ≤ n ∧ (∀ x ∈ xs, 0 ≤ x ∧ x ≤ 1000) ∧
    ([V.int 5, .int 5, .int 5, .int 6, .int 4, .int 6, .int 4, .int 4][(st - 1).toNat]? = some (.int xs.length)) := by
  cases h with
  | r1 h1 h2 h3 h4 h5 => unfold M.Pty M.Idx at *; exact ⟨by simp, rfl, rfl, by decide, by decide, h1.1, h1.2, by simp only [List.mem_cons, List.not_mem_nil, or_false]; rintro x (rfl | rfl | rfl | rfl | rfl) <;> omega, rfl⟩
  | r2 h1 h2 h3 h4 h5 => unfold M.Pty M.Idx at *; exact ⟨by simp, rfl, rfl, by decide, by decide, h1.1, h1.2, by simp only [List.mem_cons, List.not_mem_nil, or_false]; rintro x (rfl | rfl | rfl | rfl | rfl) <;> omega, rfl⟩
  | r3 h1 h2 h3 h4 => unfold M.Pty at *; exact ⟨by simp, rfl, rfl, by decide, by decide, h1.1, h1.2, by simp only [List.mem_cons, List.not_mem_nil, or_false]; rintro x (rfl | rfl | rfl | rfl | rfl) <;> omega, rfl⟩
  | r4 h1 h2 h3 h4 h5 => unfold M.Pty M.Idx at *; exact ⟨by simp, rfl, rfl, by decide, by decide, h1.1, h1.2, by simp only [List.mem_cons, List.not_mem_nil, or_false]; rintro x (rfl | rfl | rfl | rfl | rfl | rfl) <;> omega, rfl⟩
  | r5 h1 h2 => unfold M.Pty at *; exact ⟨by simp, rfl, rfl, by decide, by decide, h1.1, h1.2, by simp only [List.mem_cons, List.not_mem_nil, or_false]; rintro x (rfl | rfl | rfl | rfl) <;> omega, rfl⟩
  | r6 h1 h2 h3 h4 => unfold M.Pty M.Idx at *; exact ⟨by simp, rfl, rfl, by decide, by decide, h1.1, h1.2, by simp only [List.mem_cons, List.not_mem_nil, or_false]; rintro x (rfl | rfl | rfl | rfl | rfl | rfl) <;> omega, rfl⟩
  | r7 h1 h2 => unfold M.Pty at *; exact ⟨by simp, rfl, rfl, by decide, by decide, h1.1, h1.2, by simp only [List.mem_cons, List.not_mem_nil, or_false]; rintro x (rfl | rfl | rfl | rfl) <;> omega, rfl⟩
  | r8 h1 h2 => unfold M.Pty M.Idx at *; exact ⟨by simp, rfl, rfl, by decide, by decide, h1.1, h1.2, by simp only [List.mem_cons, List.not_mem_nil, or_false]; rintro x (rfl | rfl | rfl | rfl) <;> omega, rfl⟩
theorem whole_int {d : PyData} {lo hi : Int} (h : wholeB d lo hi = true) : ∃ i, d = .int i ∧ lo ≤ i ∧ i ≤ hi := by
  cases d with
  | int i =>
    have h' : (decide (lo ≤ i) && decide (i ≤ hi)) = true := h
    rw [Bool.and_eq_true, decide_eq_true_eq, decide_eq_true_eq] at h'
    exact ⟨i, rfl, h'⟩
  | _ => cases h
theorem whole_of {i lo hi : Int} (h0 : lo ≤ i) (h1 : i ≤ hi) : wholeB (.int i) lo hi = true := by
  show (decide (lo ≤ i) && decide (i ≤ hi)) = true
  rw [decide_eq_true h0, decide_eq_true h1]
  rfl
/-- a tuple all of whose items are whole -/
theorem all_whole {ds : List PyData} {lo hi : Int} (h : ∀ d ∈ ds, wholeB d lo hi = true) : ∃ xs : List Int, ds = xs.map .int ∧ ∀ x ∈ xs, lo ≤ x ∧ x ≤ hi := by
  induction ds with
  | nil => exact ⟨[], rfl, fun x h => (by cases h)⟩
  | cons d r ih =>
    obtain ⟨xs, e, k⟩ := ih fun d m => h d (List.mem_cons_of_mem _ m)
    obtain ⟨i, ei, h0⟩ := whole_int (h d (List.mem_cons_self ..))
    refine ⟨i :: xs, by rw [ei, e]; rfl, fun x m => ?_⟩
    rcases List.mem_cons.mp m with m | m
    · rw [m]
      exact h0
    · exact k x m
theorem Ims.ints {K : PySem.W.Frag} {H : Hp} : ∀ {xs : List Int} {vs : List V}, Ims K H (xs.map .int) vs → vs = xs.map V.int
  | [], vs, h => h
  | x :: xs, vs, h => by
    obtain ⟨v, r, e, i, is⟩ := h
    rw [e, show v = V.int x from i, Ims.ints is]
    rfl
/-- an address's bounds, by its numbers -/
def AP (n t m x0 x1 x2 x3 x4 x5 : Int) : Prop :=
  (x0 = 1 ∧ (1 ≤ x2 ∧ x2 ≤ n) ∧ x2 ≠ x1 ∧ (0 ≤ x3 ∧ x3 < m) ∧ (0 ≤ x4 ∧ x4 < t + 1)) ∨ (x0 = 2 ∧ (1 ≤ x2 ∧ x2 ≤ n) ∧ x2 ≠ x1 ∧ (1 ≤ x3 ∧ x3 ≤ n) ∧ (0 ≤ x4 ∧ x4 < m)) ∨
  (x0 = 3 ∧ x2 = 0 ∧ (1 ≤ x3 ∧ x3 ≤ n) ∧ (1 ≤ x4 ∧ x4 ≤ n) ∧ x4 ≠ x1) ∨ (x0 = 4 ∧ x2 = 0 ∧ (1 ≤ x3 ∧ x3 ≤ n) ∧ (1 ≤ x4 ∧ x4 ≤ n) ∧ x4 ≠ x3 ∧ (0 ≤ x5 ∧ x5 < m)) ∨
  (x0 = 5 ∧ x2 = 0 ∧ (1 ≤ x3 ∧ x3 ≤ n)) ∨ (x0 = 6 ∧ x2 = 0 ∧ (1 ≤ x3 ∧ x3 ≤ n) ∧ (0 ≤ x4 ∧ x4 < m) ∧ (0 ≤ x5 ∧ x5 < t + 1)) ∨ (x0 = 7 ∧ x2 = 0 ∧ (1 ≤ x3 ∧ x3 ≤ n)) ∨ (x0 = 8 ∧ x2 = 0 ∧ (0 ≤ x3 ∧ x3 < m))
theorem addr_AP {n t m st sd : Int} {xs : List Int} (h : M.AddrAt n t m st sd xs) : AP n t m (xs.getD 0 0) (xs.getD 1 0) (xs.getD 2 0) (xs.getD 3 0) (xs.getD 4 0) (xs.getD 5 0) := by
  cases h with
  | r1 h1 h2 h3 h4 h5 => exact .inl ⟨rfl, h2, h3, h4, h5⟩
  | r2 h1 h2 h3 h4 h5 => exact .inr (.inl ⟨rfl, h2, h3, h4, h5⟩)
  | r3 h1 h2 h3 h4 => exact .inr (.inr (.inl ⟨rfl, rfl, h2, h3, h4⟩))
  | r4 h1 h2 h3 h4 h5 => exact .inr (.inr (.inr (.inl ⟨rfl, rfl, h2, h3, h4, h5⟩)))
  | r5 h1 h2 => exact .inr (.inr (.inr (.inr (.inl ⟨rfl, rfl, h2⟩))))
  | r6 h1 h2 h3 h4 => exact .inr (.inr (.inr (.inr (.inr (.inl ⟨rfl, rfl, h2, h3, h4⟩)))))
  | r7 h1 h2 => exact .inr (.inr (.inr (.inr (.inr (.inr (.inl ⟨rfl, rfl, h2⟩))))))
  | r8 h1 h2 => exact .inr (.inr (.inr (.inr (.inr (.inr (.inr ⟨rfl, rfl, h2⟩))))))
theorem dec_lt_iff {a b : Int} {p : Prop} (h : a < b ↔ p) : (decide (a < b) = true ↔ p) := by rw [decide_eq_true_eq]; exact h
theorem dec_le_iff {a b : Int} {p : Prop} (h : a ≤ b ↔ p) : (decide (a ≤ b) = true ↔ p) := by rw [decide_eq_true_eq]; exact h
theorem dec_ne_iff {a b : Int} {p : Prop} (h : a ≠ b ↔ p) : ((!decide (V.int a = V.int b)) = true ↔ p) := by
  rw [← h]
  by_cases e : a = b
  · subst e
    simp
  · rw [decide_eq_false (fun z => e (V.int.inj z))]
    exact ⟨fun _ => e, fun _ => rfl⟩
def spIsAddr (K : PySem.W.Frag) : Sp := fun vs H Q _ => ∃ (su : Addr) (v : V), vs = [.ref su, v] ∧ ∃ p n t m d, SU K H su p n t m ∧ M.SetOk p n t m ∧ Im K H d v ∧ pl d = true ∧ sz d ≤ 100000 ∧ ∀ H' b, Same H H' → (b = true ↔ isAddr n t m d) → Q (.bl b) H'
theorem isTup_of {n t m : Int} {d : PyData} (h : isAddr n t m d) : isTup d = true := by
  obtain ⟨_, _, xs, rfl, _⟩ := h
  rfl
theorem ok__law_is_address (T : NoB mg) (h : Has K mg "_law_is_address" (topS 30) ["setup", "one"]) (G__law_whole : Good P w K mg base 1 "_law_whole" ["n", "least", "most"] (spWhole K)) : Good P w K mg base 2 "_law_is_address" ["setup", "one"] (spIsAddr K) := by
  have sc : FnScope ["setup", "one", "p", "n", "t", "m", "step", "x"] ["setup", "one"] (defScope (topS 30)) := ⟨rfl, rfl, rfl, by decide +kernel, rfl, by decide +kernel, by decide +kernel⟩
  have nd := sc.nd
  refine h.good sc (fun vs H Q E h => by obtain ⟨su, v, rfl, _⟩ := h; rfl) (fun f cdv A outer s H vs Q E hr h => ?_)
  obtain ⟨su, v, rfl, hyp⟩ := h
  refine ⟨_, (pss_cons (ps_asg (pv 0) (pg_tupK K 4 (by rfl) (pgs_cons (pg_name (i := 2) nd rfl (by first | exact .inl rfl | exact .inr rfl)) (pgs_cons (pg_name (i := 3) nd rfl (by first | exact .inl rfl | exact .inr rfl)) (pgs_cons (pg_name (i := 4) nd rfl (by first | exact .inl rfl | exact .inr rfl)) (pgs_cons (pg_name (i := 5) nd rfl (by first | exact .inl rfl | exact .inr rfl)) pgs_nil))))))
  (pss_cons (ps_if (PW.pt (pw_or (pt_not (pt_val (pe_callB (c_isiK K) (by rfl) T.n_isinstance (by decide +kernel) (pa_cons (pv 1) (pa_cons (pe_bltn (v := .ty "tuple") (by rfl) T.n_tuple (by decide +kernel) rfl) pa_nil))))) (pw_or (pt_cmpR op_lt (pe_callB (c_lenK K) (by rfl) T.n_len (by decide +kernel) (pa_cons (pv 1) pa_nil)) pe_int (nomark _)) (pw_or (pt_not (pt_val (pe_callG G__law_whole (hr.mono (by first | decide | omega)) (by rfl) (pa_cons (pe_ix (ix_tupK K) (pv 1) pe_int (fun _ _ => rfl)) (pa_cons pe_int (pa_cons pe_int pa_nil)))))) (pw_or1 (pt_not (pt_val (pe_callG G__law_whole (hr.mono (by first | decide | omega)) (by rfl) (pa_cons (pe_ix (ix_tupK K) (pv 1) pe_int (fun _ _ => rfl)) (pa_cons pe_int (pa_cons (pv 3) pa_nil)))))))))))
  (pss_one (ps_ret pe_bl)) pss_nil)
  (pss_cons (ps_set (i := 6) nd rfl (by first | exact .inl rfl | exact .inr rfl) (pe_ix (ix_tupK K) (pv 1) pe_int (fun _ _ => rfl)))
  (pss_cons (ps_if (PW.pt (pw_or (pt_cmpR op_ne (pe_callB (c_lenK K) (by rfl) T.n_len (by decide +kernel) (pa_cons (pv 1) pa_nil)) (pe_ix (ix_listK K) (pe_lst (pa_cons pe_int (pa_cons pe_int (pa_cons pe_int (pa_cons pe_int (pa_cons pe_int (pa_cons pe_int (pa_cons pe_int (pa_cons pe_int pa_nil))))))))) (pe_op op_sub (pv 6) pe_int) (fun _ _ => rfl)) (nomark _)) (pw_or1 (pt_not (pt_val (pe_callB (cr_allK K rfl) (by rfl) T.n_all (by decide +kernel) (pa_cons (pe_lc (own := [("x", 7)]) rfl nd (pi_tupK K (pv 1)) (blkOk_by (own := [("x", 7)]) (N := ["setup", "one", "p", "n", "t", "m", "step", "x"]) (by kernel_rfl)) (fun _ _ _ _ _ => (pg_name (i := 7) nd rfl (by first | exact .inl rfl | exact .inr rfl))) (fun _ _ _ _ _ => pts_nil) (fun _ _ _ _ _ => (pe_callG G__law_whole (hr.mono (by first | decide | omega)) (by rfl) (pa_cons (pv 7) (pa_cons pe_int (pa_cons pe_int pa_nil)))))) pa_nil)))))))
  (pss_one (ps_ret pe_bl)) pss_nil)
  (pss_cons (ps_if (pt_cmpR op_lt (pv 6) pe_int (nomark _))
  (pss_cons (ps_if (PW.pt (pw_or (pt_cmpR op_lt (pe_ix (ix_tupK K) (pv 1) pe_int (fun _ _ => rfl)) pe_int (nomark _)) (pw_or (pt_cmpR op_gt (pe_ix (ix_tupK K) (pv 1) pe_int (fun _ _ => rfl)) (pv 3) (nomark _)) (pw_or1 (pt_cmpR op_eq (pe_ix (ix_tupK K) (pv 1) pe_int (fun _ _ => rfl)) (pe_ix (ix_tupK K) (pv 1) pe_int (fun _ _ => rfl)) (nomark _))))))
  (pss_one (ps_ret pe_bl)) pss_nil)
  (pss_cons (ps_if (pt_cmpR op_eq (pv 6) pe_int (nomark _))
  (pss_one (ps_ret (pe_and (pe_cmpR op_lt (pe_ix (ix_tupK K) (pv 1) pe_int (fun _ _ => rfl)) (pv 5) (nomark _)) (pe_one (pe_cmpR op_le (pe_ix (ix_tupK K) (pv 1) pe_int (fun _ _ => rfl)) (pv 4) (nomark _)))))) pss_nil)
  (pss_one (ps_ret (pe_and (pe_cmpR op_gt (pe_ix (ix_tupK K) (pv 1) pe_int (fun _ _ => rfl)) pe_int (nomark _)) (pe_and (pe_cmpR op_le (pe_ix (ix_tupK K) (pv 1) pe_int (fun _ _ => rfl)) (pv 3) (nomark _)) (pe_one (pe_cmpR op_lt (pe_ix (ix_tupK K) (pv 1) pe_int (fun _ _ => rfl)) (pv 5) (nomark _))))))))) pss_nil)
  (pss_cons (ps_if (pt_cmpR op_ne (pe_ix (ix_tupK K) (pv 1) pe_int (fun _ _ => rfl)) pe_int (nomark _))
  (pss_one (ps_ret pe_bl)) pss_nil)
  (pss_cons (ps_if (pt_cmpR op_eq (pv 6) pe_int (nomark _))
  (pss_one (ps_ret (pe_cmpR op_lt (pe_ix (ix_tupK K) (pv 1) pe_int (fun _ _ => rfl)) (pv 5) (nomark _)))) pss_nil)
  (pss_cons (ps_if (PW.pt (pw_or (pt_cmpR op_lt (pe_ix (ix_tupK K) (pv 1) pe_int (fun _ _ => rfl)) pe_int (nomark _)) (pw_or1 (pt_cmpR op_gt (pe_ix (ix_tupK K) (pv 1) pe_int (fun _ _ => rfl)) (pv 3) (nomark _)))))
  (pss_one (ps_ret pe_bl)) pss_nil)
  (pss_cons (ps_if (pt_cmpR op_eq (pv 6) pe_int (nomark _))
  (pss_one (ps_ret (pe_and (pe_cmpR op_gt (pe_ix (ix_tupK K) (pv 1) pe_int (fun _ _ => rfl)) pe_int (nomark _)) (pe_and (pe_cmpR op_le (pe_ix (ix_tupK K) (pv 1) pe_int (fun _ _ => rfl)) (pv 3) (nomark _)) (pe_one (pe_cmpR op_ne (pe_ix (ix_tupK K) (pv 1) pe_int (fun _ _ => rfl)) (pe_ix (ix_tupK K) (pv 1) pe_int (fun _ _ => rfl)) (nomark _))))))) pss_nil)
  (pss_cons (ps_if (pt_cmpR op_eq (pv 6) pe_int (nomark _))
  (pss_one (ps_ret (pe_and (pe_cmpR op_gt (pe_ix (ix_tupK K) (pv 1) pe_int (fun _ _ => rfl)) pe_int (nomark _)) (pe_and (pe_cmpR op_le (pe_ix (ix_tupK K) (pv 1) pe_int (fun _ _ => rfl)) (pv 3) (nomark _)) (pe_and (pe_cmpR op_ne (pe_ix (ix_tupK K) (pv 1) pe_int (fun _ _ => rfl)) (pe_ix (ix_tupK K) (pv 1) pe_int (fun _ _ => rfl)) (nomark _)) (pe_one (pe_cmpR op_lt (pe_ix (ix_tupK K) (pv 1) pe_int (fun _ _ => rfl)) (pv 5) (nomark _)))))))) pss_nil)
  (pss_one (ps_ret (pe_or (pe_cmpR op_ne (pv 6) pe_int (nomark _)) (pe_one (pe_and (pe_cmpR op_lt (pe_ix (ix_tupK K) (pv 1) pe_int (fun _ _ => rfl)) (pv 5) (nomark _)) (pe_one (pe_cmpR op_le (pe_ix (ix_tupK K) (pv 1) pe_int (fun _ _ => rfl)) (pv 4) (nomark _)))))))))))))))))), ?_⟩
  try dsimp only [cxOf, Cx.wish]
  obtain ⟨p, n, t, m, d, hs, ok, hd, pd, sd, q⟩ := hyp
  have line : (100000 : Nat) < sizeLine := by decide
  have ot0 := ok.t0
  have ot2 := ok.t2
  have ont := ok.nt
  have on7 := ok.n7
  have om1 := ok.m1
  have om6 := ok.m6
  have no : ∀ H', Same H H' → ¬ isAddr n t m d → Q (.bl false) H' := fun H' s h => q H' false s ⟨fun z => (by cases z), fun z => absurd z h⟩
  refine s_seq ?_
  refine s_cut (fun σ' H' => σ' = [some (.ref su), some v, some (.int p), some (.int n), some (.int t), some (.int m), none, none] ∧ H' = H) (fun N hN => ?_) ?_
  · kc_close
    exact hN _ _ ⟨rfl, rfl⟩
  rintro _ H ⟨rfl, rfl⟩
  refine s_seq ?_
  refine s_cut (fun σ' H' => σ' = [some (.ref su), some v, some (.int p), some (.int n), some (.int t), some (.int m), none, none] ∧ H' = H ∧ ∃ (st sd : Int) (r : List PyData), d = .tuple (.int st :: .int sd :: r) ∧ 2 ≤ r.length ∧ 1 ≤ st ∧ st ≤ 8 ∧ 1 ≤ sd ∧ sd ≤ n) (fun N hN => ?_) ?_
  · refine s_if ?_
    kc_close
    refine s_isT hd ?_
    kc_close
    cases ht : isTup d with
    | false =>
      refine iteT ?_
      refine iteT ?_
      kc_close
      exact no H (Same.refl _) fun z => by
        rw [isTup_of z] at ht
        cases ht
    | true =>
      obtain ⟨ds, rfl⟩ : ∃ ds, d = .tuple ds := by
        cases d with
        | tuple ds => exact ⟨ds, rfl⟩
        | _ => cases ht
      obtain ⟨a, vs, rfl, hv, his⟩ := hd
      have lvs := Ims.length his
      have pds : pls ds = true := pd
      refine iteF ?_
      kc_close
      rw [lvs]
      refine ifP (fun h => ?_) (fun h => ?_)
      · refine iteT ?_
        kc_close
        refine no H (Same.refl _) fun z => ?_
        obtain ⟨st, sd, xs, e, ha⟩ := z
        injection e with e
        have := addr_all on7 ot2 om6 ha
        rw [e, List.length_map] at h
        omega
      · match ds, vs, his, pds, hv, h, no, hN, q, sd, lvs with
        | d0 :: d1 :: r, vs, his, pds, hv, h, no, hN, q, sd, lvs =>
          obtain ⟨v0, vs1, rfl, h0, v1, vs2, rfl, h1, hr⟩ := his
          have p0 : pl d0 = true := pls_mem.mp pds d0 (List.mem_cons_self ..)
          have p1 : pl d1 = true := pls_mem.mp pds d1 (List.mem_cons_of_mem _ (List.mem_cons_self ..))
          have hr2 : 2 ≤ r.length := by
            have h' : ¬ ((r.length + 1 + 1 : Nat) : Int) < 4 := h
            omega
          kc_close
          refine s_ixT hv (at_of (j := 0) rfl rfl) ?_
          kc_close
          refine ⟨v0, 1, 8, rfl, d0, h0, p0, ?_⟩
          kc_close
          cases w0 : wholeB d0 1 8 with
          | false =>
            refine iteT ?_
            refine iteT ?_
            kc_close
            refine no H (Same.refl _) fun z => ?_
            obtain ⟨st, sd, xs, e, ha⟩ := z
            injection e with e
            have A := addr_all on7 ot2 om6 ha
            cases xs with
            | nil => cases e
            | cons x xs =>
              injection e with e1 e2
              have : x = st := by simpa using A.2.1
              rw [e1, whole_of (by omega) (by omega)] at w0
              cases w0
          | true =>
            obtain ⟨st, rfl, st1, st8⟩ := whole_int w0
            refine iteF ?_
            kc_close
            refine s_ixT hv (at_of (j := 1) rfl rfl) ?_
            kc_close
            refine ⟨v1, 1, n, rfl, d1, h1, p1, ?_⟩
            kc_close
            cases w1 : wholeB d1 1 n with
            | false =>
              refine iteT ?_
              kc_close
              refine no H (Same.refl _) fun z => ?_
              obtain ⟨st, sd, xs, e, ha⟩ := z
              injection e with e
              have A := addr_all on7 ot2 om6 ha
              match xs, e, A with
              | x :: y :: xs, e, A =>
                injection e with e1 e2
                injection e2 with e2 e3
                have : y = sd := by simpa using A.2.2.1
                rw [e2, whole_of (by omega) (by omega)] at w1
                cases w1
            | true =>
              obtain ⟨sd', rfl, sd1, sd2⟩ := whole_int w1
              refine iteF ?_
              kc_close
              exact hN _ _ ⟨rfl, rfl, st, sd', r, rfl, hr2, st1, st8, sd1, sd2⟩
        | [], vs, his, pds, hv, h, no, hN, q, sd, lvs => exact absurd (show ((0 : Nat) : Int) < 4 by omega) h
        | [_], vs, his, pds, hv, h, no, hN, q, sd, lvs => exact absurd (show ((1 : Nat) : Int) < 4 by omega) h
  rintro _ H ⟨rfl, rfl, st, sd', r, rfl, hr2, st1, st8, sd1, sd2⟩
  obtain ⟨a, vs, rfl, hv, his⟩ := hd
  have lvs := Ims.length his
  have pds : pls (.int st :: .int sd' :: r) = true := pd
  have lsz := len_szs (.int st :: .int sd' :: r)
  have sd3 : 1 + szs (.int st :: .int sd' :: r) ≤ 100000 := sd
  have hv0 : vs[0]? = some (.int st) := by
    obtain ⟨v0, vs1, rfl, h0, _⟩ := his
    exact congrArg some h0
  refine s_seq ?_
  refine s_cut (fun σ' H' => σ' = [some (.ref su), some (.ref a), some (.int p), some (.int n), some (.int t), some (.int m), some (.int st), none] ∧ H' = H) (fun N hN => ?_) ?_
  · kc_close
    refine s_ixT hv (at_of (j := 0) rfl hv0) ?_
    kc_close
    exact hN _ _ ⟨rfl, rfl⟩
  rintro _ H ⟨rfl, rfl⟩
  refine s_seq ?_
  refine s_cut (fun σ' H' => σ' = [some (.ref su), some (.ref a), some (.int p), some (.int n), some (.int t), some (.int m), some (.int st), none] ∧ Same H H' ∧ ∃ xs : List Int, (.int st :: .int sd' :: r : List PyData) = xs.map .int ∧ (∀ x ∈ xs, 0 ≤ x ∧ x ≤ 1000) ∧ [V.int 5, .int 5, .int 5, .int 6, .int 4, .int 6, .int 4, .int 4][(st - 1).toNat]? = some (.int xs.length)) (fun N hN => ?_) ?_
  · obtain ⟨Ln, eL⟩ : ∃ Ln : Nat, [V.int 5, .int 5, .int 5, .int 6, .int 4, .int 6, .int 4, .int 4][(st - 1).toNat]? = some (.int Ln) := by
      rcases (show st = 1 ∨ st = 2 ∨ st = 3 ∨ st = 4 ∨ st = 5 ∨ st = 6 ∨ st = 7 ∨ st = 8 by omega) with rfl | rfl | rfl | rfl | rfl | rfl | rfl | rfl <;> exact ⟨_, rfl⟩
    refine s_if ?_
    kc_close
    intro l H1 nl s1 el
    kc_close
    refine s_ixL (SqL.of el) (at_of (j := (st - 1).toNat) (by omega) eL) ?_
    kc_close
    rw [lvs]
    refine ifN (fun h => ?_) (fun h => ?_)
    · refine iteT ?_
      kc_close
      refine no H1 s1 fun z => ?_
      obtain ⟨st', sd2', xs, e, ha⟩ := z
      injection e with e
      have A := addr_all on7 ot2 om6 ha
      have e1 : st' = st := by
        have e2 : (xs.map PyData.int)[0]? = some (.int st) := by rw [← e]; rfl
        rw [List.getElem?_map, A.2.1] at e2
        injection e2 with e2
        injection e2
      subst e1
      have e3 := A.2.2.2.2.2.2.2.2
      rw [eL] at e3
      injection e3 with e3
      injection e3 with e3
      have e4 := congrArg List.length e
      rw [List.length_map] at e4
      omega
    · have hv1 := sqt_same s1 hv
      have his1 := Ims.tk (TK.same s1) _ _ his
      kc_close
      refine s_itupv hv1 ?_
      refine l_mapT (fun i => V.bl (wholeB ((.int st :: .int sd' :: r : List PyData).getD i .none) 0 1000)) hv1 (by omega) ?_ ?_
      · intro D N' i y H' e s' k'
        obtain ⟨e1, ee, he⟩ := Ims.get his1 e
        have pe := pls_mem.mp pds e1 (List.mem_of_getElem? ee)
        kc_close
        refine ⟨y, 0, 1000, rfl, e1, Im.tk (TK.same s') _ _ he, pe, ?_⟩
        have := k' _ (Same.refl _)
        rw [List.getD_eq_getElem?_getD, ee] at this
        exact this
      intro B H2 nB s2 eB
      rw [lvs] at eB
      have eB2 : H2 B = some (.lst (((.int st :: .int sd' :: r : List PyData).map fun d => wholeB d 0 1000).map V.bl)) := by
        rw [eB, List.map_map]
        congr 2
        refine List.ext_getElem? fun i => ?_
        rw [List.getElem?_map, List.getElem?_map]
        by_cases hi : i < (.int st :: .int sd' :: r : List PyData).length
        · rw [List.getElem?_range hi, List.getElem?_eq_getElem hi]
          show some (V.bl (wholeB ((.int st :: .int sd' :: r : List PyData).getD i .none) 0 1000)) = _
          rw [List.getD_eq_getElem?_getD, List.getElem?_eq_getElem hi]
          rfl
        · rw [List.getElem?_eq_none (by simpa using Nat.le_of_not_lt hi), List.getElem?_eq_none (Nat.le_of_not_lt hi)]
          rfl
      kc_close
      refine s_all (SqL.of eB2) ?_
      kc_close
      cases hb : (((.int st :: .int sd' :: r : List PyData).map fun d => wholeB d 0 1000).all id) with
      | false =>
        refine iteT ?_
        kc_close
        refine no H2 (s1.trans s2) fun z => ?_
        obtain ⟨st', sd2', xs, e, ha⟩ := z
        injection e with e
        have A := addr_all on7 ot2 om6 ha
        have : (((.int st :: .int sd' :: r : List PyData).map fun d => wholeB d 0 1000).all id) = true := by
          rw [e, List.all_map, List.all_map, List.all_eq_true]
          intro x hx
          have := A.2.2.2.2.2.2.2.1 x hx
          exact whole_of this.1 this.2
        rw [this] at hb
        cases hb
      | true =>
        refine iteF ?_
        kc_close
        rw [List.all_map, List.all_eq_true] at hb
        obtain ⟨xs, ex, hx⟩ := all_whole hb
        refine hN _ _ ⟨rfl, s1.trans s2, xs, ex, hx, ?_⟩
        have e4 := congrArg List.length ex
        rw [List.length_map] at e4
        rw [eL, ← e4]
        congr 2
        omega
  rintro _ H1 ⟨rfl, s1, xs, ex, hx, eL⟩
  have hv1 := sqt_same s1 hv
  rw [ex] at his no q
  have evs := Ims.ints his
  subst evs
  have fin : ∀ b, (b = true ↔ ∃ st sd, M.AddrAt n t m st sd xs) → Q (.bl b) H1 := fun b h => q H1 b s1 (h.trans isAddr_ints.symm)
  have nof : (¬ ∃ st sd, M.AddrAt n t m st sd xs) → Q (.bl false) H1 := fun h => fin false ⟨fun z => (by cases z), fun z => absurd z h⟩
  clear hv no q his lvs lsz sd3 sd pd pds hv0
  have e0 : xs[0]? = some st := by
    have e2 : (xs.map PyData.int)[0]? = some (.int st) := by rw [← ex]; rfl
    rw [List.getElem?_map] at e2
    cases h : xs[0]? with
    | none => rw [h] at e2; cases e2
    | some y => rw [h] at e2; injection e2 with e2; injection e2 with e2; rw [e2]
  have e1 : xs[1]? = some sd' := by
    have e2 : (xs.map PyData.int)[1]? = some (.int sd') := by rw [← ex]; rfl
    rw [List.getElem?_map] at e2
    cases h : xs[1]? with
    | none => rw [h] at e2; cases e2
    | some y => rw [h] at e2; injection e2 with e2; injection e2 with e2; rw [e2]
  clear ex
  have ps : M.Pty n sd' := ⟨sd1, sd2⟩
  rcases (show st = 1 ∨ st = 2 ∨ st = 3 ∨ st = 4 ∨ st = 5 ∨ st = 6 ∨ st = 7 ∨ st = 8 by omega) with rfl | rfl | rfl | rfl | rfl | rfl | rfl | rfl
  · have ll : xs.length = 5 := by
      injection eL with eL
      injection eL with eL
      have : (5 : Int) = (xs.length : Int) := eL
      omega
    match xs, ll, e0, e1, hv1, fin, nof, hx with
    | [x0, x1, x2, x3, x4], _, e0, e1, hv1, fin, nof, hx =>
      have : x0 = 1 := by simpa using e0
      subst this
      have : x1 = sd' := by simpa using e1
      subst this
      have bx : ∀ y ∈ [1, x1, x2, x3, x4], 0 ≤ y ∧ y ≤ 1000 := hx
      simp only [List.mem_cons, List.not_mem_nil, or_false, forall_eq_or_imp, forall_eq] at bx
      kc_close
      refine s_if ?_
      kc_close
      refine ifTrue (by decide) ?_
      kc_close
      refine s_if ?_
      kc_close
      refine ifP (fun h => ?_) (fun h2 => ?_)
      · refine iteT ?_
        kc_close
        exact nof (by rintro ⟨_, _, h'⟩; have z : AP n t m 1 x1 x2 x3 x4 0 := addr_AP h'; unfold AP at z; omega)
      kc_close
      refine ifP (fun h => ?_) (fun h3 => ?_)
      · refine iteT ?_
        kc_close
        exact nof (by rintro ⟨_, _, h'⟩; have z : AP n t m 1 x1 x2 x3 x4 0 := addr_AP h'; unfold AP at z; omega)
      kc_close
      refine ifI (fun h => ?_) (fun h4 => ?_)
      · kc_close
        exact nof (by rintro ⟨_, _, h'⟩; have z : AP n t m 1 x1 x2 x3 x4 0 := addr_AP h'; unfold AP at z; omega)
      kc_close
      refine s_if ?_
      kc_close
      refine ifTrue (by decide) ?_
      kc_close
      refine ifP (fun h5 => ?_) (fun h5 => ?_)
      · kc_close
        exact fin _ (dec_le_iff ⟨fun z => ⟨_, _, .r1 ps ⟨by omega, by omega⟩ h4 ⟨by omega, by omega⟩ ⟨by omega, by omega⟩⟩, fun ⟨_, _, h'⟩ => (by have z : AP n t m 1 x1 x2 x3 x4 0 := addr_AP h'; unfold AP at z; omega)⟩)
      · exact nof (by rintro ⟨_, _, h'⟩; have z : AP n t m 1 x1 x2 x3 x4 0 := addr_AP h'; unfold AP at z; omega)
  · have ll : xs.length = 5 := by
      injection eL with eL
      injection eL with eL
      have : (5 : Int) = (xs.length : Int) := eL
      omega
    match xs, ll, e0, e1, hv1, fin, nof, hx with
    | [x0, x1, x2, x3, x4], _, e0, e1, hv1, fin, nof, hx =>
      have : x0 = 2 := by simpa using e0
      subst this
      have : x1 = sd' := by simpa using e1
      subst this
      have bx : ∀ y ∈ [2, x1, x2, x3, x4], 0 ≤ y ∧ y ≤ 1000 := hx
      simp only [List.mem_cons, List.not_mem_nil, or_false, forall_eq_or_imp, forall_eq] at bx
      kc_close
      refine s_if ?_
      kc_close
      refine ifTrue (by decide) ?_
      kc_close
      refine s_if ?_
      kc_close
      refine ifP (fun h => ?_) (fun h2 => ?_)
      · refine iteT ?_
        kc_close
        exact nof (by rintro ⟨_, _, h'⟩; have z : AP n t m 2 x1 x2 x3 x4 0 := addr_AP h'; unfold AP at z; omega)
      kc_close
      refine ifP (fun h => ?_) (fun h3 => ?_)
      · refine iteT ?_
        kc_close
        exact nof (by rintro ⟨_, _, h'⟩; have z : AP n t m 2 x1 x2 x3 x4 0 := addr_AP h'; unfold AP at z; omega)
      kc_close
      refine ifI (fun h => ?_) (fun h4 => ?_)
      · kc_close
        exact nof (by rintro ⟨_, _, h'⟩; have z : AP n t m 2 x1 x2 x3 x4 0 := addr_AP h'; unfold AP at z; omega)
      kc_close
      refine s_if ?_
      kc_close
      refine ifFalse (by decide) ?_
      kc_close
      refine ifP (fun h5 => ?_) (fun h5 => ?_)
      · kc_close
        refine ifP (fun h6 => ?_) (fun h6 => ?_)
        · kc_close
          exact fin _ (dec_lt_iff ⟨fun z => ⟨_, _, .r2 ps ⟨by omega, by omega⟩ h4 ⟨by omega, by omega⟩ ⟨by omega, by omega⟩⟩, fun ⟨_, _, h'⟩ => (by have z : AP n t m 2 x1 x2 x3 x4 0 := addr_AP h'; unfold AP at z; omega)⟩)
        · exact nof (by rintro ⟨_, _, h'⟩; have z : AP n t m 2 x1 x2 x3 x4 0 := addr_AP h'; unfold AP at z; omega)
      · exact nof (by rintro ⟨_, _, h'⟩; have z : AP n t m 2 x1 x2 x3 x4 0 := addr_AP h'; unfold AP at z; omega)
  · have ll : xs.length = 5 := by
      injection eL with eL
      injection eL with eL
      have : (5 : Int) = (xs.length : Int) := eL
      omega
    match xs, ll, e0, e1, hv1, fin, nof, hx with
    | [x0, x1, x2, x3, x4], _, e0, e1, hv1, fin, nof, hx =>
      have : x0 = 3 := by simpa using e0
      subst this
      have : x1 = sd' := by simpa using e1
      subst this
      have bx : ∀ y ∈ [3, x1, x2, x3, x4], 0 ≤ y ∧ y ≤ 1000 := hx
      simp only [List.mem_cons, List.not_mem_nil, or_false, forall_eq_or_imp, forall_eq] at bx
      kc_close
      refine s_if ?_
      kc_close
      refine ifFalse (by decide) ?_
      kc_close
      refine s_if ?_
      kc_close
      refine ifN (fun h => ?_) (fun h2 => ?_)
      · kc_close
        exact nof (by rintro ⟨_, _, h'⟩; have z : AP n t m 3 x1 x2 x3 x4 0 := addr_AP h'; unfold AP at z; omega)
      subst h2
      kc_close
      refine s_if ?_
      kc_close
      refine ifFalse (by decide) ?_
      kc_close
      refine s_if ?_
      kc_close
      refine ifP (fun h => ?_) (fun h3 => ?_)
      · refine iteT ?_
        kc_close
        exact nof (by rintro ⟨_, _, h'⟩; have z : AP n t m 3 x1 0 x3 x4 0 := addr_AP h'; unfold AP at z; omega)
      kc_close
      refine ifP (fun h => ?_) (fun h4 => ?_)
      · kc_close
        exact nof (by rintro ⟨_, _, h'⟩; have z : AP n t m 3 x1 0 x3 x4 0 := addr_AP h'; unfold AP at z; omega)
      kc_close
      refine s_if ?_
      kc_close
      refine ifTrue (by decide) ?_
      kc_close
      refine ifP (fun h5 => ?_) (fun h5 => ?_)
      · kc_close
        refine ifP (fun h6 => ?_) (fun h6 => ?_)
        · kc_close
          exact fin _ (dec_ne_iff ⟨fun z => ⟨_, _, .r3 ps ⟨by omega, by omega⟩ ⟨by omega, by omega⟩ z⟩, fun ⟨_, _, h'⟩ => (by have z : AP n t m 3 x1 0 x3 x4 0 := addr_AP h'; unfold AP at z; omega)⟩)
        · exact nof (by rintro ⟨_, _, h'⟩; have z : AP n t m 3 x1 0 x3 x4 0 := addr_AP h'; unfold AP at z; omega)
      · exact nof (by rintro ⟨_, _, h'⟩; have z : AP n t m 3 x1 0 x3 x4 0 := addr_AP h'; unfold AP at z; omega)
  · have ll : xs.length = 6 := by
      injection eL with eL
      injection eL with eL
      have : (6 : Int) = (xs.length : Int) := eL
      omega
    match xs, ll, e0, e1, hv1, fin, nof, hx with
    | [x0, x1, x2, x3, x4, x5], _, e0, e1, hv1, fin, nof, hx =>
      have : x0 = 4 := by simpa using e0
      subst this
      have : x1 = sd' := by simpa using e1
      subst this
      have bx : ∀ y ∈ [4, x1, x2, x3, x4, x5], 0 ≤ y ∧ y ≤ 1000 := hx
      simp only [List.mem_cons, List.not_mem_nil, or_false, forall_eq_or_imp, forall_eq] at bx
      kc_close
      refine s_if ?_
      kc_close
      refine ifFalse (by decide) ?_
      kc_close
      refine s_if ?_
      kc_close
      refine ifN (fun h => ?_) (fun h2 => ?_)
      · kc_close
        exact nof (by rintro ⟨_, _, h'⟩; have z : AP n t m 4 x1 x2 x3 x4 x5 := addr_AP h'; unfold AP at z; omega)
      subst h2
      kc_close
      refine s_if ?_
      kc_close
      refine ifFalse (by decide) ?_
      kc_close
      refine s_if ?_
      kc_close
      refine ifP (fun h => ?_) (fun h3 => ?_)
      · refine iteT ?_
        kc_close
        exact nof (by rintro ⟨_, _, h'⟩; have z : AP n t m 4 x1 0 x3 x4 x5 := addr_AP h'; unfold AP at z; omega)
      kc_close
      refine ifP (fun h => ?_) (fun h4 => ?_)
      · kc_close
        exact nof (by rintro ⟨_, _, h'⟩; have z : AP n t m 4 x1 0 x3 x4 x5 := addr_AP h'; unfold AP at z; omega)
      kc_close
      refine s_if ?_
      kc_close
      refine ifFalse (by decide) ?_
      kc_close
      refine s_if ?_
      kc_close
      refine ifTrue (by decide) ?_
      kc_close
      refine ifP (fun h5 => ?_) (fun h5 => ?_)
      · kc_close
        refine ifP (fun h6 => ?_) (fun h6 => ?_)
        · kc_close
          refine ifN (fun h7 => ?_) (fun h7 => ?_)
          · kc_close
            exact fin _ (dec_lt_iff ⟨fun z => ⟨_, _, .r4 ps ⟨by omega, by omega⟩ ⟨by omega, by omega⟩ h7 ⟨by omega, by omega⟩⟩, fun ⟨_, _, h'⟩ => (by have z : AP n t m 4 x1 0 x3 x4 x5 := addr_AP h'; unfold AP at z; omega)⟩)
          · exact nof (by rintro ⟨_, _, h'⟩; have z : AP n t m 4 x1 0 x3 x4 x5 := addr_AP h'; unfold AP at z; omega)
        · exact nof (by rintro ⟨_, _, h'⟩; have z : AP n t m 4 x1 0 x3 x4 x5 := addr_AP h'; unfold AP at z; omega)
      · exact nof (by rintro ⟨_, _, h'⟩; have z : AP n t m 4 x1 0 x3 x4 x5 := addr_AP h'; unfold AP at z; omega)
  · have ll : xs.length = 4 := by
      injection eL with eL
      injection eL with eL
      have : (4 : Int) = (xs.length : Int) := eL
      omega
    match xs, ll, e0, e1, hv1, fin, nof, hx with
    | [x0, x1, x2, x3], _, e0, e1, hv1, fin, nof, hx =>
      have : x0 = 5 := by simpa using e0
      subst this
      have : x1 = sd' := by simpa using e1
      subst this
      have bx : ∀ y ∈ [5, x1, x2, x3], 0 ≤ y ∧ y ≤ 1000 := hx
      simp only [List.mem_cons, List.not_mem_nil, or_false, forall_eq_or_imp, forall_eq] at bx
      kc_close
      refine s_if ?_
      kc_close
      refine ifFalse (by decide) ?_
      kc_close
      refine s_if ?_
      kc_close
      refine ifN (fun h => ?_) (fun h2 => ?_)
      · kc_close
        exact nof (by rintro ⟨_, _, h'⟩; have z : AP n t m 5 x1 x2 x3 0 0 := addr_AP h'; unfold AP at z; omega)
      subst h2
      kc_close
      refine s_if ?_
      kc_close
      refine ifFalse (by decide) ?_
      kc_close
      refine s_if ?_
      kc_close
      refine ifP (fun h => ?_) (fun h3 => ?_)
      · refine iteT ?_
        kc_close
        exact nof (by rintro ⟨_, _, h'⟩; have z : AP n t m 5 x1 0 x3 0 0 := addr_AP h'; unfold AP at z; omega)
      kc_close
      refine ifP (fun h => ?_) (fun h4 => ?_)
      · kc_close
        exact nof (by rintro ⟨_, _, h'⟩; have z : AP n t m 5 x1 0 x3 0 0 := addr_AP h'; unfold AP at z; omega)
      kc_close
      refine s_if ?_
      kc_close
      refine ifFalse (by decide) ?_
      kc_close
      refine s_if ?_
      kc_close
      refine ifFalse (by decide) ?_
      kc_close
      refine ifTrue (by decide) ?_
      exact fin true ⟨fun _ => ⟨_, _, .r5 ps ⟨by omega, by omega⟩⟩, fun _ => rfl⟩
  · have ll : xs.length = 6 := by
      injection eL with eL
      injection eL with eL
      have : (6 : Int) = (xs.length : Int) := eL
      omega
    match xs, ll, e0, e1, hv1, fin, nof, hx with
    | [x0, x1, x2, x3, x4, x5], _, e0, e1, hv1, fin, nof, hx =>
      have : x0 = 6 := by simpa using e0
      subst this
      have : x1 = sd' := by simpa using e1
      subst this
      have bx : ∀ y ∈ [6, x1, x2, x3, x4, x5], 0 ≤ y ∧ y ≤ 1000 := hx
      simp only [List.mem_cons, List.not_mem_nil, or_false, forall_eq_or_imp, forall_eq] at bx
      kc_close
      refine s_if ?_
      kc_close
      refine ifFalse (by decide) ?_
      kc_close
      refine s_if ?_
      kc_close
      refine ifN (fun h => ?_) (fun h2 => ?_)
      · kc_close
        exact nof (by rintro ⟨_, _, h'⟩; have z : AP n t m 6 x1 x2 x3 x4 x5 := addr_AP h'; unfold AP at z; omega)
      subst h2
      kc_close
      refine s_if ?_
      kc_close
      refine ifFalse (by decide) ?_
      kc_close
      refine s_if ?_
      kc_close
      refine ifP (fun h => ?_) (fun h3 => ?_)
      · refine iteT ?_
        kc_close
        exact nof (by rintro ⟨_, _, h'⟩; have z : AP n t m 6 x1 0 x3 x4 x5 := addr_AP h'; unfold AP at z; omega)
      kc_close
      refine ifP (fun h => ?_) (fun h4 => ?_)
      · kc_close
        exact nof (by rintro ⟨_, _, h'⟩; have z : AP n t m 6 x1 0 x3 x4 x5 := addr_AP h'; unfold AP at z; omega)
      kc_close
      refine s_if ?_
      kc_close
      refine ifFalse (by decide) ?_
      kc_close
      refine s_if ?_
      kc_close
      refine ifFalse (by decide) ?_
      kc_close
      refine ifFalse (by decide) ?_
      kc_close
      refine ifP (fun h5 => ?_) (fun h5 => ?_)
      · kc_close
        exact fin _ (dec_le_iff ⟨fun z => ⟨_, _, .r6 ps ⟨by omega, by omega⟩ ⟨by omega, by omega⟩ ⟨by omega, by omega⟩⟩, fun ⟨_, _, h'⟩ => (by have z : AP n t m 6 x1 0 x3 x4 x5 := addr_AP h'; unfold AP at z; omega)⟩)
      · exact nof (by rintro ⟨_, _, h'⟩; have z : AP n t m 6 x1 0 x3 x4 x5 := addr_AP h'; unfold AP at z; omega)
  · have ll : xs.length = 4 := by
      injection eL with eL
      injection eL with eL
      have : (4 : Int) = (xs.length : Int) := eL
      omega
    match xs, ll, e0, e1, hv1, fin, nof, hx with
    | [x0, x1, x2, x3], _, e0, e1, hv1, fin, nof, hx =>
      have : x0 = 7 := by simpa using e0
      subst this
      have : x1 = sd' := by simpa using e1
      subst this
      have bx : ∀ y ∈ [7, x1, x2, x3], 0 ≤ y ∧ y ≤ 1000 := hx
      simp only [List.mem_cons, List.not_mem_nil, or_false, forall_eq_or_imp, forall_eq] at bx
      kc_close
      refine s_if ?_
      kc_close
      refine ifFalse (by decide) ?_
      kc_close
      refine s_if ?_
      kc_close
      refine ifN (fun h => ?_) (fun h2 => ?_)
      · kc_close
        exact nof (by rintro ⟨_, _, h'⟩; have z : AP n t m 7 x1 x2 x3 0 0 := addr_AP h'; unfold AP at z; omega)
      subst h2
      kc_close
      refine s_if ?_
      kc_close
      refine ifFalse (by decide) ?_
      kc_close
      refine s_if ?_
      kc_close
      refine ifP (fun h => ?_) (fun h3 => ?_)
      · refine iteT ?_
        kc_close
        exact nof (by rintro ⟨_, _, h'⟩; have z : AP n t m 7 x1 0 x3 0 0 := addr_AP h'; unfold AP at z; omega)
      kc_close
      refine ifP (fun h => ?_) (fun h4 => ?_)
      · kc_close
        exact nof (by rintro ⟨_, _, h'⟩; have z : AP n t m 7 x1 0 x3 0 0 := addr_AP h'; unfold AP at z; omega)
      kc_close
      refine s_if ?_
      kc_close
      refine ifFalse (by decide) ?_
      kc_close
      refine s_if ?_
      kc_close
      refine ifFalse (by decide) ?_
      kc_close
      refine ifTrue (by decide) ?_
      exact fin true ⟨fun _ => ⟨_, _, .r7 ps ⟨by omega, by omega⟩⟩, fun _ => rfl⟩
  · have ll : xs.length = 4 := by
      injection eL with eL
      injection eL with eL
      have : (4 : Int) = (xs.length : Int) := eL
      omega
    match xs, ll, e0, e1, hv1, fin, nof, hx with
    | [x0, x1, x2, x3], _, e0, e1, hv1, fin, nof, hx =>
      have : x0 = 8 := by simpa using e0
      subst this
      have : x1 = sd' := by simpa using e1
      subst this
      have bx : ∀ y ∈ [8, x1, x2, x3], 0 ≤ y ∧ y ≤ 1000 := hx
      simp only [List.mem_cons, List.not_mem_nil, or_false, forall_eq_or_imp, forall_eq] at bx
      kc_close
      refine s_if ?_
      kc_close
      refine ifFalse (by decide) ?_
      kc_close
      refine s_if ?_
      kc_close
      refine ifN (fun h => ?_) (fun h2 => ?_)
      · kc_close
        exact nof (by rintro ⟨_, _, h'⟩; have z : AP n t m 8 x1 x2 x3 0 0 := addr_AP h'; unfold AP at z; omega)
      subst h2
      kc_close
      refine s_if ?_
      kc_close
      refine ifTrue (by decide) ?_
      kc_close
      exact fin _ (dec_lt_iff ⟨fun z => ⟨_, _, .r8 ps ⟨by omega, by omega⟩⟩, fun ⟨_, _, h'⟩ => (by have z : AP n t m 8 x1 0 x3 0 0 := addr_AP h'; unfold AP at z; omega)⟩)
end
end K1
end
section
open PySem PySem.Spec PyProof.Rows L2 Z
local macro_rules | `(tactic| ktr_room) => `(tactic| first
  | assumption
  | (apply SqT.of; assumption)
  | (apply SqL.of; assumption)
  | (apply sqt_same; assumption; ktr_room)
  | (apply sql_same; assumption; ktr_room)
  | (apply sqt_but; assumption; assumption; ktr_room)
  | (apply sql_but; assumption; assumption; ktr_room)
  | (apply Same.of_; assumption; ktr_room)
  | (apply But.of_; assumption; assumption; ktr_room)
  | exact same_refl
  | exact but_refl
  | (apply same_tr; assumption; ktr_room)
  | (apply same_but; assumption; ktr_room; assumption)
  | (apply but_tr; assumption; ktr_room)
  | (apply but_trB; assumption; ktr_room))
local macro_rules | `(tactic| ktr_units) => `(tactic| first | with_reducible assumption | omega | rfl | exact ⟨by omega, by omega⟩ | exact .inl ⟨by omega, by omega⟩ | exact .inr ⟨by omega, by omega⟩ | exact ⟨by decide, by decide, by decide⟩ | exact Nat.le_of_ble_eq_true rfl | decide)
local macro_rules | `(tactic| kc_close) => `(tactic| repeat (with_reducible first
  | refine s_var (by with_unfolding_all rfl) ?_
  | refine s_c ?_
  | refine s_op ?_
  | refine s_rI0 ?_
  | refine s_asg ?_
  | refine s_gname ?_
  | refine s_seq ?_
  | refine s_cons ?_
  | refine s_nil ?_
  | refine s_call ?_
  | refine s_ret ?_
  | o_fieldsN
  | refine s_test ?_
  | refine s_bl ?_
  | refine s_rI (by with_unfolding_all (ktr_units)) ?_
  | refine s_rEq rfl ?_
  | refine s_rNe rfl ?_
  | refine s_cb ?_
  | refine s_int1 ?_
  | refine s_intB ?_
  | refine s_max2 ?_
  | refine s_min2 ?_
  | refine s_tup ?_
  | refine s_lst ?_
  | refine s_newT (by with_unfolding_all first | decide | exact Nat.le_of_ble_eq_true rfl) ?_
  | refine s_newL (by with_unfolding_all first | decide | exact Nat.le_of_ble_eq_true rfl) ?_
  | refine s_ixT (by ktr_room) (by with_unfolding_all rfl) ?_
  | refine s_ixL (by ktr_room) (by with_unfolding_all rfl) ?_
  | refine s_lenT (by ktr_room) ?_
  | refine s_lenL (by ktr_room) ?_
  | refine s_un ?_
  | refine s_rU ?_
  | refine s_and ?_
  | refine s_or ?_
  | refine s_not ?_
  | refine s_tB ?_
  | refine s_tru ?_
  | refine s_drop ?_
  | refine s_next ?_
  | refine s_for ?_
  | refine s_rng1 ?_
  | refine s_rng2 ?_
  | refine s_rng3 ?_
  | refine s_ilist ?_
  | refine s_itup ?_
  | refine s_iany ?_
  | refine s_ienum ?_
  | refine s_irev ?_
  | refine s_gcons ?_
  | refine s_gnil ?_
  | refine s_gtup (by ktr_room) (by with_unfolding_all rfl) ?_
  | refine s_gsub ?_
  | refine s_augS ?_
  | refine s_aug (by with_unfolding_all rfl) ?_
  | refine s_ipI ?_
  | refine s_bm ?_
  | refine s_bm0 ?_
  | refine s_tyL (by ktr_room) ?_
  | refine s_tyL0 (by ktr_room) ?_
  | refine s_sl ?_
  | refine s_part ?_
  | refine s_partv ?_
  | refine s_noPart ?_
  | refine s_lc ?_
  | refine s_yes ?_
  | refine s_wipe (by with_unfolding_all rfl) ?_
  | refine iteT ?_
  | refine s_retN ?_
  | refine s_isN ?_
  | refine s_truB ?_
  | refine s_isB2 ?_
  | refine s_notB2 ?_
  | refine s_revT ?_
  | refine s_andV ?_
  | refine s_orV ?_
  | refine s_ifE ?_
  | refine s_notK ?_
  | refine s_notN ?_
  | refine s_truL (by ktr_room) ?_
  | refine s_truT (by ktr_room) ?_))
open K1
local macro_rules | `(tactic| ktr_room) => `(tactic| first
  | (apply DR.same; assumption; ktr_room)
  | (apply sqt_butD; assumption; ktr_room; ktr_room))
namespace K1
section
variable {P : Program} {w : World} {K : PySem.W.Frag} {mg : Str → Option Value} {base : Heap}
def chgD : M.Chg → PyData
  | .is v => .tuple [.str "is", .int v]
  | .add v => .tuple [.str "add", .int v]
  | .drop => .tuple [.str "drop"]
  | .copy x => .tuple [.str "copy", .tuple (x.map .int)]
def ruleD (r : List Int × M.Chg) : PyData := .tuple [.tuple (r.1.map .int), chgD r.2]
def scrD (s : M.Scr) : PyData := .tuple [.tuple (s.foes.map .int), .tuple (s.rules.map ruleD)]
def isScr (p n t m : Int) (d : PyData) : Prop := ∃ s, d = scrD s ∧ M.ScrOk p n t m s
def ChgP (p n t m : Int) (d : PyData) : Prop := ∃ c, d = chgD c ∧ M.ChgOk p n t m c
def RuleP (p n t m : Int) (foes : List Int) (d : PyData) : Prop := ∃ ad cd st i xs, d = .tuple [ad, cd] ∧ ad = .tuple (xs.map .int) ∧ M.AddrAt n t m st i xs ∧ i ∈ foes ∧ ChgP p n t m cd
structure ScrP (p n t m : Int) (foes : List Int) (rs : List PyData) : Prop where
  asc : foes.Pairwise (· < ·)
  pty : ∀ i ∈ foes, M.Pty n i
  few : (foes.length : Int) ≤ t
  len : rs.length ≤ 40
  rule : ∀ r ∈ rs, RuleP p n t m foes r
theorem rules_of {p n t m : Int} {foes : List Int} : ∀ {rs : List PyData}, (∀ r ∈ rs, RuleP p n t m foes r) → ∃ rules : List (List Int × M.Chg), rs = rules.map ruleD ∧ ∀ r ∈ rules, (∃ st i, M.AddrAt n t m st i r.1 ∧ i ∈ foes) ∧ M.ChgOk p n t m r.2
  | [], _ => ⟨[], rfl, fun r h => (by cases h)⟩
  | d :: rs, h => by
    obtain ⟨rules, e, k⟩ := rules_of fun r m => h r (List.mem_cons_of_mem _ m)
    obtain ⟨ad, cd, st, i, xs, rfl, rfl, ha, hi, c, rfl, hc⟩ := h d (List.mem_cons_self ..)
    refine ⟨(xs, c) :: rules, by rw [e]; rfl, fun r m => ?_⟩
    rcases List.mem_cons.mp m with m | m
    · rw [m]
      exact ⟨⟨st, i, ha, hi⟩, hc⟩
    · exact k r m
theorem isScr_iff {p n t m : Int} {foes : List Int} {rs : List PyData} : isScr p n t m (.tuple [.tuple (foes.map .int), .tuple rs]) ↔ ScrP p n t m foes rs := by
  constructor
  · rintro ⟨⟨fs, rules⟩, e, h⟩
    injection e with e
    injection e with e1 e2
    injection e2 with e2
    injection e1 with e1
    injection e2 with e2
    have ef := map_int_inj e1
    have e2 : rs = rules.map ruleD := e2
    have ef : foes = fs := ef
    subst ef e2
    refine ⟨h.asc, h.pty, h.few, by rw [List.length_map]; exact h.len, fun r m => ?_⟩
    obtain ⟨⟨x, c⟩, mm, rfl⟩ := List.mem_map.mp m
    obtain ⟨⟨st, i, ha, hi⟩, hc⟩ := h.rule _ mm
    exact ⟨_, _, st, i, x, rfl, rfl, ha, hi, c, rfl, hc⟩
  · intro h
    obtain ⟨rules, e, k⟩ := rules_of h.rule
    subst e
    exact ⟨⟨foes, rules⟩, rfl, h.asc, h.pty, h.few, by have := h.len; rw [List.length_map] at this; exact this, k⟩
theorem scr_form {p n t m : Int} {d : PyData} (h : isScr p n t m d) : ∃ foes rs, d = .tuple [.tuple (foes.map .int), .tuple rs] ∧ ScrP p n t m foes rs := by
  obtain ⟨s, rfl, k⟩ := h
  exact ⟨s.foes, s.rules.map ruleD, rfl, isScr_iff.mp ⟨s, rfl, k⟩⟩
/-- what a change is, by its first item -/
theorem chg_two {p n t m : Int} {x : Str} {e : PyData} : ChgP p n t m (.tuple [.str x, e]) ↔ ((x = "is" ∨ x = "add") ∧ wholeB e 0 (p - 1) = true) ∨ (x = "copy" ∧ isAddr n t m e) := by
  constructor
  · rintro ⟨c, h, k⟩
    cases c with
    | is v =>
      injection h with h
      injection h with h1 h2
      injection h2 with h2
      injection h1 with h1
      subst h1 h2
      exact .inl ⟨.inl rfl, whole_of k.1 (by have := k.2; omega)⟩
    | add v =>
      injection h with h
      injection h with h1 h2
      injection h2 with h2
      injection h1 with h1
      subst h1 h2
      exact .inl ⟨.inr rfl, whole_of k.1 (by have := k.2; omega)⟩
    | drop =>
      injection h with h
      injection h with h1 h2
      cases h2
    | copy xs =>
      injection h with h
      injection h with h1 h2
      injection h2 with h2
      injection h1 with h1
      subst h1 h2
      obtain ⟨s, i, k⟩ := k
      exact .inr ⟨rfl, s, i, xs, rfl, k⟩
  · rintro (⟨rfl | rfl, h⟩ | ⟨rfl, st, i, xs, rfl, h⟩)
    · obtain ⟨v, rfl, h0, h1⟩ := whole_int h
      exact ⟨.is v, rfl, h0, by omega⟩
    · obtain ⟨v, rfl, h0, h1⟩ := whole_int h
      exact ⟨.add v, rfl, h0, by omega⟩
    · exact ⟨.copy xs, rfl, st, i, h⟩
theorem chg_str {p n t m : Int} {d : PyData} (h : ChgP p n t m d) : ∃ x r, d = .tuple (.str x :: r) := by
  obtain ⟨c, rfl, _⟩ := h
  cases c <;> exact ⟨_, _, rfl⟩
theorem chg_not2 {p n t m : Int} {ds : List PyData} (h : ds.length ≠ 2) : ChgP p n t m (.tuple ds) ↔ (PyData.tuple ds) = .tuple [.str "drop"] := by
  constructor
  · rintro ⟨c, e, k⟩
    cases c with
    | drop => exact e
    | is v => injection e with e; subst e; exact absurd rfl h
    | add v => injection e with e; subst e; exact absurd rfl h
    | copy v => injection e with e; subst e; exact absurd rfl h
  · intro e
    exact ⟨.drop, e, trivial⟩
def spGood (K : PySem.W.Frag) : Sp := fun vs H Q _ => ∃ (su : Addr) (v : V), vs = [.ref su, v] ∧ ∃ p n t m d, SU K H su p n t m ∧ M.SetOk p n t m ∧ Im K H d v ∧ pl d = true ∧ sz d ≤ 100000 ∧ ∀ H' b, Same H H' → (b = true ↔ isScr p n t m d) → Q (.bl b) H'
end
end K1
end
section
open PySem PySem.Spec PyProof.Rows L2 Z
local macro_rules | `(tactic| ktr_room) => `(tactic| first
  | assumption
  | (apply SqT.of; assumption)
  | (apply SqL.of; assumption)
  | (apply sqt_same; assumption; ktr_room)
  | (apply sql_same; assumption; ktr_room)
  | (apply sqt_but; assumption; assumption; ktr_room)
  | (apply sql_but; assumption; assumption; ktr_room)
  | (apply Same.of_; assumption; ktr_room)
  | (apply But.of_; assumption; assumption; ktr_room)
  | exact same_refl
  | exact but_refl
  | (apply same_tr; assumption; ktr_room)
  | (apply same_but; assumption; ktr_room; assumption)
  | (apply but_tr; assumption; ktr_room)
  | (apply but_trB; assumption; ktr_room))
local macro_rules | `(tactic| ktr_units) => `(tactic| first | with_reducible assumption | omega | rfl | exact ⟨by omega, by omega⟩ | exact .inl ⟨by omega, by omega⟩ | exact .inr ⟨by omega, by omega⟩ | exact ⟨by decide, by decide, by decide⟩ | exact Nat.le_of_ble_eq_true rfl | decide)
local macro_rules | `(tactic| kc_close) => `(tactic| repeat (with_reducible first
  | refine s_var (by with_unfolding_all rfl) ?_
  | refine s_c ?_
  | refine s_op ?_
  | refine s_rI0 ?_
  | refine s_asg ?_
  | refine s_gname ?_
  | refine s_seq ?_
  | refine s_cons ?_
  | refine s_nil ?_
  | refine s_call ?_
  | refine s_ret ?_
  | o_fieldsN
  | refine s_test ?_
  | refine s_bl ?_
  | refine s_rI (by with_unfolding_all (ktr_units)) ?_
  | refine s_rEq rfl ?_
  | refine s_rNe rfl ?_
  | refine s_cb ?_
  | refine s_int1 ?_
  | refine s_intB ?_
  | refine s_max2 ?_
  | refine s_min2 ?_
  | refine s_tup ?_
  | refine s_lst ?_
  | refine s_newT (by with_unfolding_all first | decide | exact Nat.le_of_ble_eq_true rfl) ?_
  | refine s_newL (by with_unfolding_all first | decide | exact Nat.le_of_ble_eq_true rfl) ?_
  | refine s_ixT (by ktr_room) (by with_unfolding_all rfl) ?_
  | refine s_ixL (by ktr_room) (by with_unfolding_all rfl) ?_
  | refine s_lenT (by ktr_room) ?_
  | refine s_lenL (by ktr_room) ?_
  | refine s_un ?_
  | refine s_rU ?_
  | refine s_and ?_
  | refine s_or ?_
  | refine s_not ?_
  | refine s_tB ?_
  | refine s_tru ?_
  | refine s_drop ?_
  | refine s_next ?_
  | refine s_for ?_
  | refine s_rng1 ?_
  | refine s_rng2 ?_
  | refine s_rng3 ?_
  | refine s_ilist ?_
  | refine s_itup ?_
  | refine s_iany ?_
  | refine s_ienum ?_
  | refine s_irev ?_
  | refine s_gcons ?_
  | refine s_gnil ?_
  | refine s_gtup (by ktr_room) (by with_unfolding_all rfl) ?_
  | refine s_gsub ?_
  | refine s_augS ?_
  | refine s_aug (by with_unfolding_all rfl) ?_
  | refine s_ipI ?_
  | refine s_bm ?_
  | refine s_bm0 ?_
  | refine s_tyL (by ktr_room) ?_
  | refine s_tyL0 (by ktr_room) ?_
  | refine s_sl ?_
  | refine s_part ?_
  | refine s_partv ?_
  | refine s_noPart ?_
  | refine s_lc ?_
  | refine s_yes ?_
  | refine s_wipe (by with_unfolding_all rfl) ?_
  | refine iteT ?_
  | refine s_retN ?_
  | refine s_isN ?_
  | refine s_truB ?_
  | refine s_isB2 ?_
  | refine s_notB2 ?_
  | refine s_revT ?_
  | refine s_andV ?_
  | refine s_orV ?_
  | refine s_ifE ?_
  | refine s_notK ?_
  | refine s_notN ?_
  | refine s_truL (by ktr_room) ?_
  | refine s_truT (by ktr_room) ?_))
open K1
local macro_rules | `(tactic| ktr_room) => `(tactic| first
  | (apply DR.same; assumption; ktr_room)
  | (apply sqt_butD; assumption; ktr_room; ktr_room))
namespace K1
section
variable {P : Program} {w : World} {K : PySem.W.Frag} {mg : Str → Option Value} {base : Heap}
theorem im_tup {K : PySem.W.Frag} {H : Hp} {d : PyData} {v : V} (h : Im K H d v) (t : isTup d = true) : ∃ a vs ds, d = .tuple ds ∧ v = .ref a ∧ SqT K H a vs ∧ Ims K H ds vs := by
  cases d with
  | tuple ds =>
    obtain ⟨a, vs, e, s, i⟩ := h
    exact ⟨a, vs, ds, rfl, e, s, i⟩
  | _ => cases t
theorem inV_two (x : Str) : inV (.str x) [.str "is", .str "add"] = (decide (x = "is") || decide (x = "add")) := by
  unfold inV
  rw [List.any_cons, List.any_cons, List.any_nil, Bool.or_false]
  have e : ∀ y : Str, eqV (.str y) (.str x) = decide (x = y) := fun y => by
    show (y == x) = decide (x = y)
    by_cases h : x = y
    · subst h
      simp
    · rw [decide_eq_false h]
      simpa using fun z => h z.symm
  rw [e, e]
theorem str_dec (x y : Str) : decide (V.str x = V.str y) = decide (x = y) := by
  by_cases h : x = y
  · subst h
    simp
  · rw [decide_eq_false h, decide_eq_false (fun z => h (by injection z))]
/-- the slots -/
abbrev stG (su v p n t m rule change good : Option V := none) : L2.St := [su, v, p, n, t, m, rule, change, good, none, none]
theorem ok__law_good (T : NoB mg) (h : Has K mg "_law_good" (topS 31) ["setup", "plan"]) (G__law_whole : Good P w K mg base 1 "_law_whole" ["n", "least", "most"] (spWhole K)) (G__law_is_address : Good P w K mg base 2 "_law_is_address" ["setup", "one"] (spIsAddr K)) : Good P w K mg base 3 "_law_good" ["setup", "plan"] (spGood K) := by
  have sc : FnScope ["setup", "plan", "p", "n", "t", "m", "rule", "change", "good", "i", "k"] ["setup", "plan"] (defScope (topS 31)) := ⟨rfl, rfl, rfl, by decide +kernel, rfl, by decide +kernel, by decide +kernel⟩
  have nd := sc.nd
  refine h.good sc (fun vs H Q E h => by obtain ⟨su, v, rfl, _⟩ := h; rfl) (fun f cdv A outer s H vs Q E hr h => ?_)
  obtain ⟨su, v, rfl, hyp⟩ := h
  refine ⟨_, (pss_cons (ps_asg (pv 0) (pg_tupK K 4 (by rfl) (pgs_cons (pg_name (i := 2) nd rfl (by first | exact .inl rfl | exact .inr rfl)) (pgs_cons (pg_name (i := 3) nd rfl (by first | exact .inl rfl | exact .inr rfl)) (pgs_cons (pg_name (i := 4) nd rfl (by first | exact .inl rfl | exact .inr rfl)) (pgs_cons (pg_name (i := 5) nd rfl (by first | exact .inl rfl | exact .inr rfl)) pgs_nil))))))
  (pss_cons (ps_if (PW.pt (pw_or (pt_not (pt_val (pe_callB (c_isiK K) (by rfl) T.n_isinstance (by decide +kernel) (pa_cons (pv 1) (pa_cons (pe_bltn (v := .ty "tuple") (by rfl) T.n_tuple (by decide +kernel) rfl) pa_nil))))) (pw_or (pt_cmpR op_ne (pe_callB (c_lenK K) (by rfl) T.n_len (by decide +kernel) (pa_cons (pv 1) pa_nil)) pe_int (nomark _)) (pw_or (pt_not (pt_val (pe_callB (c_isiK K) (by rfl) T.n_isinstance (by decide +kernel) (pa_cons (pe_ix (ix_tupK K) (pv 1) pe_int (fun _ _ => rfl)) (pa_cons (pe_bltn (v := .ty "tuple") (by rfl) T.n_tuple (by decide +kernel) rfl) pa_nil))))) (pw_or1 (pt_not (pt_val (pe_callB (c_isiK K) (by rfl) T.n_isinstance (by decide +kernel) (pa_cons (pe_ix (ix_tupK K) (pv 1) pe_int (fun _ _ => rfl)) (pa_cons (pe_bltn (v := .ty "tuple") (by rfl) T.n_tuple (by decide +kernel) rfl) pa_nil))))))))))
  (pss_one (ps_ret pe_bl)) pss_nil)
  (pss_cons (ps_if (PW.pt (pw_or (pt_cmpR op_gt (pe_callB (c_lenK K) (by rfl) T.n_len (by decide +kernel) (pa_cons (pe_ix (ix_tupK K) (pv 1) pe_int (fun _ _ => rfl)) pa_nil)) (pv 4) (nomark _)) (pw_or (pt_cmpR op_gt (pe_callB (c_lenK K) (by rfl) T.n_len (by decide +kernel) (pa_cons (pe_ix (ix_tupK K) (pv 1) pe_int (fun _ _ => rfl)) pa_nil)) pe_int (nomark _)) (pw_or1 (pt_not (pt_val (pe_callB (cr_allK K rfl) (by rfl) T.n_all (by decide +kernel) (pa_cons (pe_lc (own := [("i", 9)]) rfl nd (pi_tupK K (pe_ix (ix_tupK K) (pv 1) pe_int (fun _ _ => rfl))) (blkOk_by (own := [("i", 9)]) (N := ["setup", "plan", "p", "n", "t", "m", "rule", "change", "good", "i", "k"]) (by kernel_rfl)) (fun _ _ _ _ _ => (pg_name (i := 9) nd rfl (by first | exact .inl rfl | exact .inr rfl))) (fun _ _ _ _ _ => pts_nil) (fun _ _ _ _ _ => (pe_callG G__law_whole (hr.mono (by first | decide | omega)) (by rfl) (pa_cons (pv 9) (pa_cons pe_int (pa_cons (pv 3) pa_nil)))))) pa_nil))))))))
  (pss_one (ps_ret pe_bl)) pss_nil)
  (pss_cons (ps_if (pt_val (pe_callB (cr_anyK K rfl) (by rfl) T.n_any (by decide +kernel) (pa_cons (pe_lc (own := [("k", 10)]) rfl nd (pi_range1 rfl T.n_range (pa_cons (pe_op op_sub (pe_callB (c_lenK K) (by rfl) T.n_len (by decide +kernel) (pa_cons (pe_ix (ix_tupK K) (pv 1) pe_int (fun _ _ => rfl)) pa_nil)) pe_int) pa_nil)) (blkOk_by (own := [("k", 10)]) (N := ["setup", "plan", "p", "n", "t", "m", "rule", "change", "good", "i", "k"]) (by kernel_rfl)) (fun _ _ _ _ _ => (pg_name (i := 10) nd rfl (by first | exact .inl rfl | exact .inr rfl))) (fun _ _ _ _ _ => pts_nil) (fun _ _ _ _ _ => (pe_cmpR op_ge (pe_ix (ix_tupK K) (pe_ix (ix_tupK K) (pv 1) pe_int (fun _ _ => rfl)) (pv 10) (fun _ _ => rfl)) (pe_ix (ix_tupK K) (pe_ix (ix_tupK K) (pv 1) pe_int (fun _ _ => rfl)) (pe_op op_add (pv 10) pe_int) (fun _ _ => rfl)) (nomark _)))) pa_nil)))
  (pss_one (ps_ret pe_bl)) pss_nil)
  (pss_cons (ps_for PassesOwn.never rfl (pi_tupK K (pe_ix (ix_tupK K) (pv 1) pe_int (fun _ _ => rfl))) (pg_name (i := 6) nd rfl (by first | exact .inl rfl | exact .inr rfl))
  (pss_cons (ps_if (PW.pt (pw_or (pt_not (pt_val (pe_callB (c_isiK K) (by rfl) T.n_isinstance (by decide +kernel) (pa_cons (pv 6) (pa_cons (pe_bltn (v := .ty "tuple") (by rfl) T.n_tuple (by decide +kernel) rfl) pa_nil))))) (pw_or (pt_cmpR op_ne (pe_callB (c_lenK K) (by rfl) T.n_len (by decide +kernel) (pa_cons (pv 6) pa_nil)) pe_int (nomark _)) (pw_or (pt_not (pt_val (pe_callG G__law_is_address (hr.mono (by first | decide | omega)) (by rfl) (pa_cons (pv 0) (pa_cons (pe_ix (ix_tupK K) (pv 6) pe_int (fun _ _ => rfl)) pa_nil))))) (pw_or1 (pt_cmpR (op_notInK K) (pe_ix (ix_tupK K) (pe_ix (ix_tupK K) (pv 6) pe_int (fun _ _ => rfl)) pe_int (fun _ _ => rfl)) (pe_ix (ix_tupK K) (pv 1) pe_int (fun _ _ => rfl)) (by rfl)))))))
  (pss_one (ps_ret pe_bl)) pss_nil)
  (pss_cons (ps_set (i := 7) nd rfl (by first | exact .inl rfl | exact .inr rfl) (pe_ix (ix_tupK K) (pv 6) pe_int (fun _ _ => rfl)))
  (pss_cons (ps_if (PW.pt (pw_or (pt_not (pt_val (pe_callB (c_isiK K) (by rfl) T.n_isinstance (by decide +kernel) (pa_cons (pv 7) (pa_cons (pe_bltn (v := .ty "tuple") (by rfl) T.n_tuple (by decide +kernel) rfl) pa_nil))))) (pw_or (pt_cmpR op_eq (pe_callB (c_lenK K) (by rfl) T.n_len (by decide +kernel) (pa_cons (pv 7) pa_nil)) pe_int (nomark _)) (pw_or1 (pt_not (pt_val (pe_callB (c_isiK K) (by rfl) T.n_isinstance (by decide +kernel) (pa_cons (pe_ix (ix_tupK K) (pv 7) pe_int (fun _ _ => rfl)) (pa_cons (pe_bltn (v := .ty "str") (by rfl) T.n_str (by decide +kernel) rfl) pa_nil)))))))))
  (pss_one (ps_ret pe_bl)) pss_nil)
  (pss_cons (ps_set (i := 8) nd rfl (by first | exact .inl rfl | exact .inr rfl) (pe_cmpR (op_eqMK K hr.units) (pv 7) (pe_tup (pa_cons pe_str pa_nil)) (nomark _)))
  (pss_cons (ps_if (PW.pt (pw_and (pt_cmpR op_eq (pe_callB (c_lenK K) (by rfl) T.n_len (by decide +kernel) (pa_cons (pv 7) pa_nil)) pe_int (nomark _)) (pw_and1 (pt_cmpR (op_inK K) (pe_ix (ix_tupK K) (pv 7) pe_int (fun _ _ => rfl)) (pe_lst (pa_cons pe_str (pa_cons pe_str pa_nil))) (by rfl)))))
  (pss_one (ps_set (i := 8) nd rfl (by first | exact .inl rfl | exact .inr rfl) (pe_callG G__law_whole (hr.mono (by first | decide | omega)) (by rfl) (pa_cons (pe_ix (ix_tupK K) (pv 7) pe_int (fun _ _ => rfl)) (pa_cons pe_int (pa_cons (pe_op op_sub (pv 2) pe_int) pa_nil)))))) pss_nil)
  (pss_cons (ps_if (PW.pt (pw_and (pt_cmpR op_eq (pe_callB (c_lenK K) (by rfl) T.n_len (by decide +kernel) (pa_cons (pv 7) pa_nil)) pe_int (nomark _)) (pw_and1 (pt_cmpR op_eq (pe_ix (ix_tupK K) (pv 7) pe_int (fun _ _ => rfl)) pe_str (nomark _)))))
  (pss_one (ps_set (i := 8) nd rfl (by first | exact .inl rfl | exact .inr rfl) (pe_callG G__law_is_address (hr.mono (by first | decide | omega)) (by rfl) (pa_cons (pv 0) (pa_cons (pe_ix (ix_tupK K) (pv 7) pe_int (fun _ _ => rfl)) pa_nil))))) pss_nil)
  (pss_one (ps_if (pt_not (pt_val (pv 8)))
  (pss_one (ps_ret pe_bl)) pss_nil)))))))))
  (pss_one (ps_ret pe_bl))))))), ?_⟩
  try dsimp only [cxOf, Cx.wish]
  obtain ⟨p, n, t, m, d, hs, ok, hd, pd, sd, q⟩ := hyp
  have line : (100000 : Nat) < sizeLine := by decide
  have opr := ok.pr.lt
  have ot0 := ok.t0
  have ot2 := ok.t2
  have ont := ok.nt
  have on7 := ok.n7
  have om1 := ok.m1
  have om6 := ok.m6
  have no : ∀ H', Same H H' → ¬ isScr p n t m d → Q (.bl false) H' := fun H' s h => q H' false s ⟨fun z => (by cases z), fun z => absurd z h⟩
  refine s_seq ?_
  refine s_cut (fun σ' H' => σ' = stG (some (.ref su)) (some v) (some (.int p)) (some (.int n)) (some (.int t)) (some (.int m)) ∧ H' = H) (fun N hN => ?_) ?_
  · kc_close
    exact hN _ _ ⟨rfl, rfl⟩
  rintro _ H ⟨rfl, rfl⟩
  -- the form
  refine s_seq ?_
  refine s_cut (fun σ' H' => ∃ (a f r : Addr) (fd rs : List PyData) (fv rv : List V), v = .ref a ∧ σ' = stG (some (.ref su)) (some (.ref a)) (some (.int p)) (some (.int n)) (some (.int t)) (some (.int m)) ∧ H' = H ∧ d = .tuple [.tuple fd, .tuple rs] ∧ SqT K H a [.ref f, .ref r] ∧ SqT K H f fv ∧ Ims K H fd fv ∧ SqT K H r rv ∧ Ims K H rs rv) (fun N hN => ?_) ?_
  · refine s_if ?_
    kc_close
    refine s_isT hd ?_
    kc_close
    cases ht : isTup d with
    | false =>
      refine iteT ?_
      refine iteT ?_
      kc_close
      exact no H (Same.refl _) fun z => by
        obtain ⟨_, _, rfl, _⟩ := scr_form z
        cases ht
    | true =>
      obtain ⟨a, vs, ds, rfl, rfl, hv, his⟩ := im_tup hd ht
      have lvs := Ims.length his
      refine iteF ?_
      kc_close
      rw [lvs]
      refine ifN (fun h => ?_) (fun h => ?_)
      · refine iteT ?_
        kc_close
        exact no H (Same.refl _) fun z => by
          obtain ⟨fs, rs, e, _⟩ := scr_form z
          injection e with e
          rw [e] at h
          exact h rfl
      · match ds, h, his, no, hN with
        | [d0, d1], _, his, no, hN =>
          obtain ⟨v0, _, rfl, h0, v1, _, rfl, h1, rfl⟩ := his
          kc_close
          refine s_isT h0 ?_
          kc_close
          cases t0 : isTup d0 with
          | false =>
            refine iteT ?_
            refine iteT ?_
            kc_close
            exact no H (Same.refl _) fun z => by
              obtain ⟨fs, rs, e, _⟩ := scr_form z
              injection e with e
              injection e with e e2
              rw [e] at t0
              cases t0
          | true =>
            obtain ⟨f, fv, fd, rfl, rfl, hf, hfi⟩ := im_tup h0 t0
            refine iteF ?_
            kc_close
            refine s_isT h1 ?_
            kc_close
            cases t1 : isTup d1 with
            | false =>
              refine iteT ?_
              kc_close
              exact no H (Same.refl _) fun z => by
                obtain ⟨fs, rs, e, _⟩ := scr_form z
                injection e with e
                injection e with e e2
                injection e2 with e2
                rw [e2] at t1
                cases t1
            | true =>
              obtain ⟨r, rv, rd, rfl, rfl, hr, hri⟩ := im_tup h1 t1
              refine iteF ?_
              kc_close
              exact hN _ _ ⟨a, f, r, fd, rd, fv, rv, rfl, rfl, rfl, rfl, hv, hf, hfi, hr, hri⟩
        | [], h, _, _, _ => cases h
        | [_], h, _, _, _ => cases h
        | _ :: _ :: _ :: _, h, _, _, _ =>
          have h' : ((_ : Nat) : Int) = 2 := h
          simp at h'
          omega
  rintro _ H ⟨a, f, r, fd, rs, fv, rv, rfl, rfl, rfl, rfl, hv, hf, hfi, hr, hri⟩
  clear hd
  have sd' : 1 + (1 + szs fd + (1 + szs rs + 0)) ≤ 100000 := sd
  have pd' : (pls fd && (pls rs && true)) = true := pd
  rw [Bool.and_eq_true, Bool.and_eq_true] at pd'
  have lfd := len_szs fd
  have lrs := len_szs rs
  have lfv := Ims.length hfi
  have lrv := Ims.length hri
  -- the foes
  refine s_seq ?_
  refine s_cut (fun σ' H' => σ' = stG (some (.ref su)) (some (.ref a)) (some (.int p)) (some (.int n)) (some (.int t)) (some (.int m)) ∧ Same H H' ∧ ∃ foes : List Int, fd = foes.map .int ∧ (foes.length : Int) ≤ t ∧ rs.length ≤ 40 ∧ ∀ i ∈ foes, M.Pty n i) (fun N hN => ?_) ?_
  · refine s_if ?_
    kc_close
    rw [lfv]
    refine ifP (fun h => ?_) (fun h => ?_)
    · refine iteT ?_
      kc_close
      exact no H (Same.refl _) fun z => by
        obtain ⟨fs, rs', e, k⟩ := scr_form z
        injection e with e
        injection e with e e2
        injection e with e
        have := k.few
        rw [e, List.length_map] at h
        omega
    kc_close
    rw [lrv]
    refine ifP (fun h2 => ?_) (fun h2 => ?_)
    · refine iteT ?_
      kc_close
      exact no H (Same.refl _) fun z => by
        obtain ⟨fs, rs', e, k⟩ := scr_form z
        injection e with e
        injection e with e e2
        injection e2 with e2
        injection e2 with e2
        have := k.len
        rw [← e2] at this
        omega
    kc_close
    refine s_itupv hf ?_
    refine l_mapT (fun i => V.bl (wholeB (fd.getD i .none) 1 n)) hf (by omega) ?_ ?_
    · intro D N' i y H' e s' k'
      obtain ⟨e1, ee, he⟩ := Ims.get hfi e
      have pe := pls_mem.mp pd'.1 e1 (List.mem_of_getElem? ee)
      kc_close
      refine ⟨y, 1, n, rfl, e1, Im.tk (TK.same s') _ _ he, pe, ?_⟩
      have := k' _ (Same.refl _)
      rw [List.getD_eq_getElem?_getD, ee] at this
      exact this
    intro B H2 nB s2 eB
    rw [lfv] at eB
    have eB2 : H2 B = some (.lst ((fd.map fun d => wholeB d 1 n).map V.bl)) := by
      rw [eB, List.map_map]
      congr 2
      refine List.ext_getElem? fun i => ?_
      rw [List.getElem?_map, List.getElem?_map]
      by_cases hi : i < fd.length
      · rw [List.getElem?_range hi, List.getElem?_eq_getElem hi]
        show some (V.bl (wholeB (fd.getD i .none) 1 n)) = _
        rw [List.getD_eq_getElem?_getD, List.getElem?_eq_getElem hi]
        rfl
      · rw [List.getElem?_eq_none (by simpa using Nat.le_of_not_lt hi), List.getElem?_eq_none (Nat.le_of_not_lt hi)]
        rfl
    kc_close
    refine s_all (SqL.of eB2) ?_
    kc_close
    cases hb : ((fd.map fun d => wholeB d 1 n).all id) with
    | false =>
      refine iteT ?_
      kc_close
      refine no H2 s2 fun z => ?_
      obtain ⟨fs, rs', e, k⟩ := scr_form z
      injection e with e
      injection e with e e2
      injection e with e
      have : ((fd.map fun d => wholeB d 1 n).all id) = true := by
        rw [e, List.all_map, List.all_map, List.all_eq_true]
        intro x hx
        have := k.pty x hx
        exact whole_of this.1 this.2
      rw [this] at hb
      cases hb
    | true =>
      refine iteF ?_
      kc_close
      rw [List.all_map, List.all_eq_true] at hb
      obtain ⟨xs, ex, hx⟩ := all_whole hb
      refine hN _ _ ⟨rfl, s2, xs, ex, ?_, by omega, hx⟩
      have e4 := congrArg List.length ex
      rw [List.length_map] at e4
      omega
  rintro _ H1 ⟨rfl, s1, foes, rfl, few, l40, pty⟩
  have efv := Ims.ints hfi
  subst efv
  have hv1 : SqT K H1 a [.ref f, .ref r] := sqt_same s1 hv
  have hf1 : IsT K H1 f foes := sqt_same s1 hf
  have hr1 : SqT K H1 r rv := sqt_same s1 hr
  have hri1 := Ims.tk (TK.same s1) _ _ hri
  have hs1 : SU K H1 su p n t m := sqt_same s1 hs
  have no1 : ∀ H', Same H1 H' → ¬ ScrP p n t m foes rs → Q (.bl false) H' := fun H' s h => no H' (s1.trans s) fun z => h (isScr_iff.mp z)
  -- ascending
  refine s_seq ?_
  refine s_cut (fun σ' H' => σ' = stG (some (.ref su)) (some (.ref a)) (some (.int p)) (some (.int n)) (some (.int t)) (some (.int m)) ∧ Same H1 H' ∧ foes.Pairwise (· < ·)) (fun N hN => ?_) ?_
  · refine s_if ?_
    kc_close
    rw [List.length_map]
    refine s_rng1v (by omega) (by omega) ?_
    refine l_mapR (fun k => V.bl (decide (foes.getD k 0 ≥ foes.getD (k + 1) 0))) (by omega) ?_ ?_
    · intro D N' k H' hk s' k'
      have hv' : SqT K H' a [.ref f, .ref r] := sqt_same s' hv1
      have hf' : IsT K H' f foes := sqt_same s' hf1
      kc_close
      refine s_ixT hf' (at_intI (k := k) (by omega) (by omega)) ?_
      kc_close
      refine s_ixT hf' (at_intI (k := k + 1) (by omega) (by omega)) ?_
      kc_close
      exact k' _ (Same.refl _)
    intro B H2 nB s2 eB
    have eB2 : H2 B = some (.lst (((List.range ((foes.length : Int) - 1).toNat).map fun k => decide (foes.getD k 0 ≥ foes.getD (k + 1) 0)).map V.bl)) := by
      rw [eB, List.map_map]
      rfl
    kc_close
    refine s_any (SqL.of eB2) ?_
    kc_close
    match foes, few, no1, hN with
    | [], _, no1, hN =>
      refine iteF ?_
      kc_close
      exact hN _ _ ⟨rfl, s2, .nil⟩
    | [x], _, no1, hN =>
      refine iteF ?_
      kc_close
      exact hN _ _ ⟨rfl, s2, List.pairwise_singleton _ _⟩
    | [x, y], _, no1, hN =>
      show (if (decide (x ≥ y) || false) = true then _ else _)
      by_cases h : x ≥ y
      · refine ifTrue (by rw [decide_eq_true h]; rfl) ?_
        kc_close
        refine no1 H2 s2 fun z => ?_
        have := (List.pairwise_cons.mp z.asc).1 y (List.mem_singleton.mpr rfl)
        omega
      · refine ifFalse (by rw [decide_eq_false h]; rfl) ?_
        kc_close
        refine hN _ _ ⟨rfl, s2, List.pairwise_cons.mpr ⟨fun z hz => ?_, List.pairwise_singleton _ _⟩⟩
        rw [List.mem_singleton.mp hz]
        omega
    | _ :: _ :: _ :: _, few, _, _ =>
      exfalso
      simp only [List.length_cons] at few
      omega
  rintro _ H2 ⟨rfl, s2, asc⟩
  have hv2 : SqT K H2 a [.ref f, .ref r] := sqt_same s2 hv1
  have hf2 : IsT K H2 f foes := sqt_same s2 hf1
  have hr2 : SqT K H2 r rv := sqt_same s2 hr1
  have hri2 := Ims.tk (TK.same s2) _ _ hri1
  have hs2 : SU K H2 su p n t m := sqt_same s2 hs1
  have no2 : ∀ H' ru, Same H2 H' → ru ∈ rs → ¬ RuleP p n t m foes ru → Q (.bl false) H' := fun H' ru s hm h => no1 H' (s2.trans s) fun z => h (z.rule ru hm)
  clear hv1 hf1 hr1 hri1 hs1 hv hf hr hri hs no hfi
  -- the rules
  kc_close
  refine s_itupv hr2 ?_
  refine w_tup (xs := rv) (fun i σ' H' => ∃ y6 y7 y8, σ' = stG (some (.ref su)) (some (.ref a)) (some (.int p)) (some (.int n)) (some (.int t)) (some (.int m)) y6 y7 y8 ∧ Same H2 H' ∧ ∀ ru ∈ rs.take i, RuleP p n t m foes ru) ⟨none, none, none, rfl, Same.refl _, fun ru h => (by cases h)⟩ (fun i σ' H' _ z => by
    obtain ⟨_, _, _, _, s, _⟩ := z
    exact sqt_same s hr2) ?_ ?_
  · rintro i x _ H3 he ⟨y6, y7, y8, rfl, s3, done⟩
    obtain ⟨ru, eru, hru⟩ := Ims.get (Ims.tk (TK.same s3) _ _ hri2) he
    have mru := List.mem_of_getElem? eru
    have pru := pls_mem.mp pd'.2.1 ru mru
    have sru := (mem_sz mru).1
    have no3 : ∀ H', Same H3 H' → ¬ RuleP p n t m foes ru → Q (.bl false) H' := fun H' s h => no2 H' ru (s3.trans s) mru h
    have hv3 : SqT K H3 a [.ref f, .ref r] := sqt_same s3 hv2
    have hf3 : IsT K H3 f foes := sqt_same s3 hf2
    have hs3 : SU K H3 su p n t m := sqt_same s3 hs2
    refine s_gname ?_
    refine s_seq ?_
    refine s_cut (fun σ' H' => ∃ (ra : Addr) (av cv : V) (ad cd : PyData) (st sd0 : Int) (xs : List Int), x = .ref ra ∧ σ' = stG (some (.ref su)) (some (.ref a)) (some (.int p)) (some (.int n)) (some (.int t)) (some (.int m)) (some (.ref ra)) y7 y8 ∧ Same H3 H' ∧ SqT K H' ra [av, cv] ∧ ru = .tuple [ad, cd] ∧ Im K H' cd cv ∧ ad = .tuple (xs.map .int) ∧ M.AddrAt n t m st sd0 xs ∧ sd0 ∈ foes) (fun N hN => ?_) ?_
    · refine s_if ?_
      kc_close
      refine s_isT hru ?_
      kc_close
      cases t0 : isTup ru with
      | false =>
        refine iteT ?_
        refine iteT ?_
        kc_close
        exact no3 H3 (Same.refl _) fun z => by
          obtain ⟨_, _, _, _, _, rfl, _⟩ := z
          cases t0
      | true =>
        obtain ⟨ra, vs, ds, rfl, rfl, hra, hrai⟩ := im_tup hru t0
        have lvs := Ims.length hrai
        refine iteF ?_
        kc_close
        rw [lvs]
        refine ifN (fun h => ?_) (fun h => ?_)
        · refine iteT ?_
          kc_close
          exact no3 H3 (Same.refl _) fun z => by
            obtain ⟨_, _, _, _, _, e, _⟩ := z
            injection e with e
            rw [e] at h
            exact h rfl
        · match ds, h, hrai, no3, hN, pru, sru with
          | [ad, cd], _, hrai, no3, hN, pru, sru =>
            obtain ⟨av, _, rfl, h0, cv, _, rfl, h1, rfl⟩ := hrai
            have pru' : (pl ad && (pl cd && true)) = true := pru
            rw [Bool.and_eq_true] at pru'
            have sru' : 1 + (sz ad + (sz cd + 0)) ≤ szs rs := sru
            kc_close
            refine ⟨su, av, rfl, p, n, t, m, ad, hs3, ok, h0, pru'.1, by omega, fun H4 b s4 hb => ?_⟩
            have hra4 := sqt_same s4 hra
            have hf4 : IsT K H4 f foes := sqt_same s4 hf3
            have hv4 : SqT K H4 a [.ref f, .ref r] := sqt_same s4 hv3
            have h04 := Im.tk (TK.same s4) _ _ h0
            kc_close
            cases b with
            | false =>
              refine iteT ?_
              refine iteT ?_
              kc_close
              exact no3 H4 s4 fun z => by
                obtain ⟨_, _, st, i, xs, e, ea, ha, _⟩ := z
                injection e with e
                injection e with e e2
                subst e
                exact absurd (hb.mpr ⟨st, i, xs, ea, ha⟩) (by decide)
            | true =>
              obtain ⟨st, sd0, xs, rfl, ha⟩ := hb.mp rfl
              have A := addr_all on7 ot2 om6 ha
              obtain ⟨aa, avs, rfl, haa, hai⟩ := h04
              have e5 := Ims.ints hai
              subst e5
              refine iteF ?_
              kc_close
              refine s_ixT haa (at_of (j := 1) rfl (by rw [List.getElem?_map, A.2.2.1]; rfl)) ?_
              kc_close
              refine s_notInI (.inr hf4) ?_
              kc_close
              by_cases hm : sd0 ∈ foes
              · refine ifFalse (by rw [decide_eq_true hm]; rfl) ?_
                kc_close
                exact hN _ _ ⟨ra, _, cv, _, cd, st, sd0, xs, rfl, rfl, s4, hra4, rfl, Im.tk (TK.same s4) _ _ h1, rfl, ha, hm⟩
              · refine ifTrue (by rw [decide_eq_false hm]; rfl) ?_
                kc_close
                exact no3 H4 s4 fun z => by
                  obtain ⟨_, _, st', i', xs', e, ea, ha', hi', _⟩ := z
                  injection e with e
                  injection e with e e2
                  rw [← e] at ea
                  injection ea with ea
                  have := map_int_inj ea
                  subst this
                  have A' := addr_all on7 ot2 om6 ha'
                  have e9 := A.2.2.1
                  rw [A'.2.2.1] at e9
                  injection e9 with e9
                  subst e9
                  exact hm hi'
          | [], h, _, _, _, _, _ => cases h
          | [_], h, _, _, _, _, _ => cases h
          | _ :: _ :: _ :: _, h, _, _, _, _, _ =>
            have h' : ((_ : Nat) : Int) = 2 := h
            simp at h'
            omega
    rintro _ H4 ⟨ra, av, cv, ad, cd, st, sd0, xs, rfl, rfl, s4, hra, rfl, hcd, rfl, ha, hsd⟩
    have pru' : (pl (.tuple (xs.map .int)) && (pl cd && true)) = true := pru
    rw [Bool.and_eq_true, Bool.and_eq_true] at pru'
    have sru' : 1 + (sz (.tuple (xs.map .int)) + (sz cd + 0)) ≤ szs rs := sru
    have hs4 : SU K H4 su p n t m := sqt_same s4 hs3
    have no4 : ∀ H', Same H4 H' → ¬ ChgP p n t m cd → Q (.bl false) H' := fun H' s h => no3 H' (s4.trans s) fun z => by
      obtain ⟨_, _, _, _, _, e, _, _, _, hc⟩ := z
      injection e with e
      injection e with e e2
      injection e2 with e2
      rw [← e2] at hc
      exact h hc
    refine s_seq ?_
    refine s_cut (fun σ' H' => σ' = stG (some (.ref su)) (some (.ref a)) (some (.int p)) (some (.int n)) (some (.int t)) (some (.int m)) (some (.ref ra)) (some cv) y8 ∧ H' = H4) (fun N hN => ?_) ?_
    · kc_close
      exact hN _ _ ⟨rfl, rfl⟩
    rintro _ H4 ⟨rfl, rfl⟩
    refine s_seq ?_
    refine s_cut (fun σ' H' => ∃ (ca : Addr) (z : Str) (er : List PyData) (ev : List V), cv = .ref ca ∧ σ' = stG (some (.ref su)) (some (.ref a)) (some (.int p)) (some (.int n)) (some (.int t)) (some (.int m)) (some (.ref ra)) (some (.ref ca)) y8 ∧ H' = H4 ∧ cd = .tuple (.str z :: er) ∧ SqT K H4 ca (.str z :: ev) ∧ Ims K H4 er ev) (fun N hN => ?_) ?_
    · refine s_if ?_
      kc_close
      refine s_isT hcd ?_
      kc_close
      cases t0 : isTup cd with
      | false =>
        refine iteT ?_
        refine iteT ?_
        kc_close
        exact no4 H4 (Same.refl _) fun z => by
          obtain ⟨_, _, rfl⟩ := chg_str z
          cases t0
      | true =>
        obtain ⟨ca, cvs, cds, rfl, rfl, hca, hcai⟩ := im_tup hcd t0
        refine iteF ?_
        kc_close
        cases cds with
        | nil =>
          have : cvs = [] := hcai
          subst this
          refine ifTrue (by decide) ?_
          refine iteT ?_
          kc_close
          exact no4 H4 (Same.refl _) fun z => by
            obtain ⟨_, _, e⟩ := chg_str z
            cases e
        | cons c0 er =>
          obtain ⟨w0, ev, rfl, hc0, hev⟩ := hcai
          refine ifI (fun h => ?_) (fun _ => ?_)
          · have h' : ((ev.length + 1 : Nat) : Int) = 0 := h
            omega
          · kc_close
            refine s_ixT hca (at_of (j := 0) rfl rfl) ?_
            kc_close
            refine s_isS hc0 ?_
            kc_close
            cases c0 with
            | str z =>
              have : w0 = .str z := hc0
              subst this
              refine iteF ?_
              kc_close
              exact hN _ _ ⟨ca, z, er, ev, rfl, rfl, rfl, rfl, hca, hev⟩
            | _ =>
              refine iteT ?_
              kc_close
              exact no4 H4 (Same.refl _) fun z => by
                obtain ⟨_, _, e⟩ := chg_str z
                cases e
    rintro _ H4 ⟨ca, z, er, ev, rfl, rfl, rfl, rfl, hca, hev⟩
    have lev := Ims.length hev
    have pcd : (strS z && pls er) = true := pru'.2.1
    rw [Bool.and_eq_true] at pcd
    have scd : 1 + (1 + szs er) ≤ szs rs := by
      have : sz (.tuple (.str z :: er)) = 1 + (1 + szs er) := rfl
      omega
    -- good
    refine s_seq ?_
    refine s_cut (fun σ' H' => ∃ b0 : Bool, σ' = stG (some (.ref su)) (some (.ref a)) (some (.int p)) (some (.int n)) (some (.int t)) (some (.int m)) (some (.ref ra)) (some (.ref ca)) (some (.bl b0)) ∧ Same H4 H' ∧ (b0 = true ↔ PyData.tuple (.str z :: er) = .tuple [.str "drop"])) (fun N hN => ?_) ?_
    · kc_close
      intro tq H5 ntq s5 etq
      refine ⟨.tuple (.str z :: er), .tuple [.str "drop"], Im.dp _ _ (Im.tk (TK.same s5) _ _ hcd), Im.dp _ _ ⟨tq, [.str "drop"], rfl, SqT.of etq, _, [], rfl, rfl, rfl⟩, pl_lay _ pru'.2.1, by decide +kernel, by simp [PyData.depth, PyData.depthAll], ?_⟩
      kc_close
      exact hN _ _ ⟨_, rfl, s5, Z.eqv_iff _ _ (pl_noB _ pru'.2.1) rfl⟩
    rintro _ H5 ⟨b0, rfl, s5, hb0⟩
    have hca5 := sqt_same s5 hca
    have hev5 := Ims.tk (TK.same s5) _ _ hev
    have hs5 : SU K H5 su p n t m := sqt_same s5 hs4
    refine s_seq ?_
    refine s_cut (fun σ' H' => ∃ b1 : Bool, σ' = stG (some (.ref su)) (some (.ref a)) (some (.int p)) (some (.int n)) (some (.int t)) (some (.int m)) (some (.ref ra)) (some (.ref ca)) (some (.bl b1)) ∧ Same H5 H' ∧ (er.length ≠ 1 → b1 = b0) ∧ (∀ e, er = [e] → (z = "is" ∨ z = "add" → b1 = wholeB e 0 (p - 1)) ∧ (¬ (z = "is" ∨ z = "add") → b1 = b0))) (fun N hN => ?_) ?_
    · refine s_if ?_
      kc_close
      refine ifI (fun h => ?_) (fun h => ?_)
      · have h' : ((ev.length + 1 : Nat) : Int) = 2 := h
        match er, ev, hev5, lev, h', hN, pcd, hca5 with
        | [e], [w1], hev5, lev, _, hN, pcd, hca5 =>
          obtain ⟨_, _, ew, he, _⟩ := hev5
          injection ew with ew _
          subst ew
          have pe : pl e = true := pls_mem.mp pcd.2 e (List.mem_singleton.mpr rfl)
          kc_close
          intro l H6 nl s6 el
          refine ⟨l, _, rfl, .inl (SqL.of el), rfl, rfl, ?_⟩
          rw [inV_two]
          have hca6 := sqt_same s6 hca5
          kc_close
          by_cases hz : z = "is" ∨ z = "add"
          · refine ifTrue (by rcases hz with rfl | rfl <;> rfl) ?_
            kc_close
            refine ⟨w1, 0, p - 1, rfl, e, Im.tk (TK.same s6) _ _ he, pe, ?_⟩
            kc_close
            refine hN _ _ ⟨_, rfl, s6, fun h => absurd rfl h, fun e' h => ?_⟩
            injection h with h _
            subst h
            exact ⟨fun _ => rfl, fun h => absurd hz h⟩
          · refine ifFalse (by rw [decide_eq_false (fun h => hz (.inl h)), decide_eq_false (fun h => hz (.inr h))]; rfl) ?_
            kc_close
            exact hN _ _ ⟨b0, rfl, s6, fun h => absurd rfl h, fun e' h => ⟨fun h => absurd h hz, fun _ => rfl⟩⟩
        | [], ev', _, lev, h', _, _, _ =>
          exfalso
          have l2 : ev'.length = 0 := lev
          omega
        | _ :: _ :: _, ev', _, lev, h', _, _, _ =>
          exfalso
          simp only [List.length_cons] at lev
          omega
      · refine iteF ?_
        kc_close
        refine hN _ _ ⟨b0, rfl, Same.refl _, fun _ => rfl, fun e he => ?_⟩
        subst he
        have l1 : ev.length = 1 := lev
        have h' : ((ev.length + 1 : Nat) : Int) ≠ 2 := h
        omega
    rintro _ H6 ⟨b1, rfl, s6, hb1, hb2⟩
    have hca6 := sqt_same s6 hca5
    have hev6 := Ims.tk (TK.same s6) _ _ hev5
    have hs6 : SU K H6 su p n t m := sqt_same s6 hs5
    refine s_seq ?_
    refine s_cut (fun σ' H' => ∃ b2 : Bool, σ' = stG (some (.ref su)) (some (.ref a)) (some (.int p)) (some (.int n)) (some (.int t)) (some (.int m)) (some (.ref ra)) (some (.ref ca)) (some (.bl b2)) ∧ Same H6 H' ∧ (b2 = true ↔ ChgP p n t m (.tuple (.str z :: er)))) (fun N hN => ?_) ?_
    · have fin1 : (er.length ≠ 1) → (b1 = true ↔ ChgP p n t m (.tuple (.str z :: er))) := fun h => by
        rw [hb1 h, hb0]
        exact (chg_not2 (by show er.length + 1 ≠ 2; omega)).symm
      have fin2 : ∀ e, er = [e] → z ≠ "copy" → (b1 = true ↔ ChgP p n t m (.tuple (.str z :: er))) := fun e he hz => by
        subst he
        rw [chg_two]
        obtain ⟨k1, k2⟩ := hb2 e rfl
        by_cases h : z = "is" ∨ z = "add"
        · rw [k1 h]
          exact ⟨fun x => .inl ⟨h, x⟩, fun x => x.elim (fun x => x.2) fun x => absurd x.1 hz⟩
        · rw [k2 h, hb0]
          refine ⟨fun x => ?_, fun x => x.elim (fun x => absurd x.1 h) fun x => absurd x.1 hz⟩
          injection x with x
          injection x with _ x
          cases x
      refine s_if ?_
      kc_close
      refine ifI (fun h => ?_) (fun h => ?_)
      · have h' : ((ev.length + 1 : Nat) : Int) = 2 := h
        match er, ev, hev6, lev, h', hN, pcd, hca6, fin2, scd with
        | [e], [w1], hev6, lev, _, hN, pcd, hca6, fin2, scd =>
          obtain ⟨_, _, ew, he, _⟩ := hev6
          injection ew with ew _
          subst ew
          have pe : pl e = true := pls_mem.mp pcd.2 e (List.mem_singleton.mpr rfl)
          have se : 1 + (1 + (sz e + 0)) ≤ szs rs := scd
          kc_close
          rw [str_dec]
          by_cases hz : z = "copy"
          · subst hz
            refine ifTrue (decide_eq_true rfl) ?_
            kc_close
            refine ⟨su, w1, rfl, p, n, t, m, e, hs6, ok, he, pe, by omega, fun H7 b s7 hb => ?_⟩
            kc_close
            refine hN _ _ ⟨b, rfl, s7, hb.trans ?_⟩
            rw [chg_two]
            refine ⟨fun x => .inr ⟨rfl, x⟩, fun x => x.elim (fun x => ?_) fun x => x.2⟩
            rcases x.1 with x | x <;> exact absurd x (by decide +kernel)
          · refine ifFalse (decide_eq_false hz) ?_
            kc_close
            exact hN _ _ ⟨b1, rfl, Same.refl _, fin2 e rfl hz⟩
        | [], ev', _, lev, h', _, _, _, _, _ =>
          exfalso
          have l2 : ev'.length = 0 := lev
          omega
        | _ :: _ :: _, ev', _, lev, h', _, _, _, _, _ =>
          exfalso
          simp only [List.length_cons] at lev
          omega
      · refine iteF ?_
        kc_close
        refine hN _ _ ⟨b1, rfl, Same.refl _, fin1 fun h1 => ?_⟩
        have h' : ((ev.length + 1 : Nat) : Int) ≠ 2 := h
        omega
    rintro _ H7 ⟨b2, rfl, s7, hb3⟩
    refine s_if ?_
    kc_close
    cases b2 with
    | false =>
      refine iteT ?_
      kc_close
      exact no4 H7 ((s5.trans s6).trans s7) fun h => absurd (hb3.mpr h) (by decide)
    | true =>
      refine iteF ?_
      kc_close
      refine ⟨_, _, _, rfl, ((s3.trans s4).trans s5).trans (s6.trans s7), fun ru hm => ?_⟩
      rw [take_get eru] at hm
      rcases List.mem_append.mp hm with hm | hm
      · exact done ru hm
      · rw [List.mem_singleton.mp hm]
        exact ⟨_, _, st, sd0, xs, rfl, rfl, ha, hsd, hb3.mp rfl⟩
  · rintro _ H3 ⟨y6, y7, y8, rfl, s3, done⟩
    rw [lrv, List.take_length] at done
    kc_close
    exact q H3 true ((s1.trans s2).trans s3) ⟨fun _ => isScr_iff.mpr ⟨asc, pty, few, l40, done⟩, fun _ => rfl⟩
end
end K1
end
section
open PySem PySem.Spec PyProof.Rows L2 Z
local macro_rules | `(tactic| ktr_room) => `(tactic| first
  | assumption
  | (apply SqT.of; assumption)
  | (apply SqL.of; assumption)
  | (apply sqt_same; assumption; ktr_room)
  | (apply sql_same; assumption; ktr_room)
  | (apply sqt_but; assumption; assumption; ktr_room)
  | (apply sql_but; assumption; assumption; ktr_room)
  | (apply Same.of_; assumption; ktr_room)
  | (apply But.of_; assumption; assumption; ktr_room)
  | exact same_refl
  | exact but_refl
  | (apply same_tr; assumption; ktr_room)
  | (apply same_but; assumption; ktr_room; assumption)
  | (apply but_tr; assumption; ktr_room)
  | (apply but_trB; assumption; ktr_room))
local macro_rules | `(tactic| ktr_units) => `(tactic| first | with_reducible assumption | omega | rfl | exact ⟨by omega, by omega⟩ | exact .inl ⟨by omega, by omega⟩ | exact .inr ⟨by omega, by omega⟩ | exact ⟨by decide, by decide, by decide⟩ | exact Nat.le_of_ble_eq_true rfl | decide)
local macro_rules | `(tactic| kc_close) => `(tactic| repeat (with_reducible first
  | refine s_var (by with_unfolding_all rfl) ?_
  | refine s_c ?_
  | refine s_op ?_
  | refine s_rI0 ?_
  | refine s_asg ?_
  | refine s_gname ?_
  | refine s_seq ?_
  | refine s_cons ?_
  | refine s_nil ?_
  | refine s_call ?_
  | refine s_ret ?_
  | o_fieldsN
  | refine s_test ?_
  | refine s_bl ?_
  | refine s_rI (by with_unfolding_all (ktr_units)) ?_
  | refine s_rEq rfl ?_
  | refine s_rNe rfl ?_
  | refine s_cb ?_
  | refine s_int1 ?_
  | refine s_intB ?_
  | refine s_max2 ?_
  | refine s_min2 ?_
  | refine s_tup ?_
  | refine s_lst ?_
  | refine s_newT (by with_unfolding_all first | decide | exact Nat.le_of_ble_eq_true rfl) ?_
  | refine s_newL (by with_unfolding_all first | decide | exact Nat.le_of_ble_eq_true rfl) ?_
  | refine s_ixT (by ktr_room) (by with_unfolding_all rfl) ?_
  | refine s_ixL (by ktr_room) (by with_unfolding_all rfl) ?_
  | refine s_lenT (by ktr_room) ?_
  | refine s_lenL (by ktr_room) ?_
  | refine s_un ?_
  | refine s_rU ?_
  | refine s_and ?_
  | refine s_or ?_
  | refine s_not ?_
  | refine s_tB ?_
  | refine s_tru ?_
  | refine s_drop ?_
  | refine s_next ?_
  | refine s_for ?_
  | refine s_rng1 ?_
  | refine s_rng2 ?_
  | refine s_rng3 ?_
  | refine s_ilist ?_
  | refine s_itup ?_
  | refine s_iany ?_
  | refine s_ienum ?_
  | refine s_irev ?_
  | refine s_gcons ?_
  | refine s_gnil ?_
  | refine s_gtup (by ktr_room) (by with_unfolding_all rfl) ?_
  | refine s_gsub ?_
  | refine s_augS ?_
  | refine s_aug (by with_unfolding_all rfl) ?_
  | refine s_ipI ?_
  | refine s_bm ?_
  | refine s_bm0 ?_
  | refine s_tyL (by ktr_room) ?_
  | refine s_tyL0 (by ktr_room) ?_
  | refine s_sl ?_
  | refine s_part ?_
  | refine s_partv ?_
  | refine s_noPart ?_
  | refine s_lc ?_
  | refine s_yes ?_
  | refine s_wipe (by with_unfolding_all rfl) ?_
  | refine iteT ?_
  | refine s_retN ?_
  | refine s_isN ?_
  | refine s_truB ?_
  | refine s_isB2 ?_
  | refine s_notB2 ?_
  | refine s_revT ?_
  | refine s_andV ?_
  | refine s_orV ?_
  | refine s_ifE ?_
  | refine s_notK ?_
  | refine s_notN ?_
  | refine s_truL (by ktr_room) ?_
  | refine s_truT (by ktr_room) ?_))
open K1
local macro_rules | `(tactic| ktr_room) => `(tactic| first
  | (apply DR.same; assumption; ktr_room)
  | (apply sqt_butD; assumption; ktr_room; ktr_room))
namespace K1
section
variable {P : Program} {w : World} {K : PySem.W.Frag} {mg : Str → Option Value} {base : Heap}
def spIsScript (K : PySem.W.Frag) : Sp := fun vs H Q _ => ∃ (su : Addr) (v : V), vs = [.ref su, v] ∧ ∃ p n t m d, SU K H su p n t m ∧ M.SetOk p n t m ∧ Im K H d v ∧ pl d = true ∧ sz d ≤ 100000 ∧ ht d ≤ 130 ∧ ∀ H' b, Same H H' → (b = true ↔ isScr p n t m d) → Q (.bl b) H'
theorem ims_ints {K : PySem.W.Frag} {H : Hp} : ∀ xs : List Int, Ims K H (xs.map .int) (xs.map V.int)
  | [] => rfl
  | x :: xs => ⟨.int x, xs.map V.int, rfl, rfl, ims_ints xs⟩
theorem im_ints {K : PySem.W.Frag} {H : Hp} {a : Addr} {xs : List Int} (h : IsT K H a xs) : Im K H (.tuple (xs.map .int)) (.ref a) := ⟨a, _, rfl, h, ims_ints xs⟩
theorem im_chg {K : PySem.W.Frag} {H : Hp} {b : Addr} {c : M.Chg} (h : IsChg K H b c) : Im K H (chgD c) (.ref b) := by
  cases c with
  | is v => exact ⟨b, _, rfl, h, _, _, rfl, rfl, _, _, rfl, rfl, rfl⟩
  | add v => exact ⟨b, _, rfl, h, _, _, rfl, rfl, _, _, rfl, rfl, rfl⟩
  | drop => exact ⟨b, _, rfl, h, _, _, rfl, rfl, rfl⟩
  | copy x =>
    obtain ⟨a, h1, h2⟩ := h
    exact ⟨b, _, rfl, h1, _, _, rfl, rfl, _, _, rfl, im_ints h2, rfl⟩
theorem im_rule {K : PySem.W.Frag} {H : Hp} {b : Addr} {r : List Int × M.Chg} (h : IsRule K H b r) : Im K H (ruleD r) (.ref b) := by
  obtain ⟨a, c, h1, h2, h3⟩ := h
  exact ⟨b, _, rfl, h1, _, _, rfl, im_ints h2, _, _, rfl, im_chg h3, rfl⟩
theorem ims_rules {K : PySem.W.Frag} {H : Hp} : ∀ {as : List Addr} {rs : List (List Int × M.Chg)}, Paired (IsRule K H) as rs → Ims K H (rs.map ruleD) (as.map V.ref)
  | _, _, .nil => rfl
  | _, _, .cons h t => ⟨_, _, rfl, im_rule h, ims_rules t⟩
/-! sizes -/
theorem szs_ints (xs : List Int) : szs (xs.map .int) = xs.length ∧ hts (xs.map .int) ≤ 1 ∧ pls (xs.map .int) = true := by
  induction xs with
  | nil => exact ⟨rfl, Nat.zero_le _, rfl⟩
  | cons a r ih =>
    refine ⟨?_, ?_, ih.2.2⟩
    · show 1 + szs (r.map .int) = r.length + 1
      omega
    · show max 1 (hts (r.map .int)) ≤ 1
      omega
/-- bounded data, all three -/
theorem bd_ints (xs : List Int) : Bd 2 (1 + xs.length) (.tuple (xs.map .int)) := by
  have h := szs_ints xs
  refine ⟨?_, ?_, h.2.2⟩
  · show 1 + hts (xs.map .int) ≤ 2
    omega
  · show 1 + szs (xs.map .int) ≤ 1 + xs.length
    omega
theorem bd_two {h s1 s2 : Nat} {d e : PyData} (b : Bd h s1 d) (c : Bd h s2 e) : Bd (h + 1) (1 + s1 + s2) (.tuple [d, e]) := by
  have b1 := b.ht
  have b2 := b.sz
  have c1 := c.ht
  have c2 := c.sz
  refine ⟨?_, ?_, ?_⟩
  · show 1 + max (ht d) (max (ht e) 0) ≤ h + 1
    omega
  · show 1 + (sz d + (sz e + 0)) ≤ 1 + s1 + s2
    omega
  · show (pl d && (pl e && true)) = true
    rw [b.pl, c.pl]
    rfl
theorem bd_str (x : Str) (h : strS x = true) : Bd 1 1 (.str x) := ⟨Nat.le_refl _, Nat.le_refl _, h⟩
theorem bd_int (i : Int) : Bd 1 1 (.int i) := ⟨Nat.le_refl _, Nat.le_refl _, rfl⟩
theorem bd_one {h s : Nat} {d : PyData} (b : Bd h s d) : Bd (h + 1) (1 + s) (.tuple [d]) := by
  have b1 := b.ht
  have b2 := b.sz
  refine ⟨?_, ?_, ?_⟩
  · show 1 + max (ht d) 0 ≤ h + 1
    omega
  · show 1 + (sz d + 0) ≤ 1 + s
    omega
  · show (pl d && true) = true
    rw [b.pl]
    rfl
theorem addr_len {n t m st sd : Int} {xs : List Int} (h : M.AddrAt n t m st sd xs) : xs.length ≤ 6 := by
  cases h <;> simp
theorem chg_bd {p n t m : Int} {c : M.Chg} (h : M.ChgOk p n t m c) : Bd 3 9 (chgD c) := by
  cases c with
  | is v => exact (bd_two (h := 1) (bd_str _ (by decide +kernel)) (bd_int v)).mono (by decide) (by decide)
  | add v => exact (bd_two (h := 1) (bd_str _ (by decide +kernel)) (bd_int v)).mono (by decide) (by decide)
  | drop => exact (bd_one (bd_str _ (by decide +kernel))).mono (by decide) (by decide)
  | copy x =>
    obtain ⟨_, _, h⟩ := h
    have := addr_len h
    exact (bd_two (h := 2) ((bd_str "copy" (by decide +kernel)).mono (by decide) (Nat.le_refl _)) (bd_ints x)).mono (by decide) (by omega)
theorem rule_bd {p n t m : Int} {r : List Int × M.Chg} (h1 : r.1.length ≤ 6) (h2 : M.ChgOk p n t m r.2) : Bd 4 17 (ruleD r) :=
  (bd_two (h := 3) ((bd_ints r.1).mono (by decide) (Nat.le_refl _)) (chg_bd h2)).mono (by decide) (by omega)
theorem rules_bd {rs : List PyData} (h : ∀ r ∈ rs, Bd 4 17 r) : szs rs ≤ 17 * rs.length ∧ hts rs ≤ 4 ∧ pls rs = true := by
  induction rs with
  | nil => exact ⟨Nat.zero_le _, Nat.zero_le _, rfl⟩
  | cons a r ih =>
    have i := ih fun x m => h x (List.mem_cons_of_mem _ m)
    have b := h a (List.mem_cons_self ..)
    have b1 := b.ht
    have b2 := b.sz
    refine ⟨?_, ?_, ?_⟩
    · show sz a + szs r ≤ 17 * (r.length + 1)
      omega
    · show max (ht a) (hts r) ≤ 4
      omega
    · show (pl a && pls r) = true
      rw [b.pl, i.2.2]
      rfl
theorem Ims.rep {K : PySem.W.Frag} {H : Hp} {ds : List PyData} {vs : List V} (h : Ims K H ds vs) : ∀ n, Ims K H (List.replicate n ds).flatten (List.replicate n vs).flatten
  | 0 => rfl
  | n + 1 => by
    rw [List.replicate_succ, List.replicate_succ, List.flatten_cons, List.flatten_cons]
    exact h.app (Ims.rep h n)
theorem rep_bd {ds : List PyData} (hp : pls ds = true) : ∀ n, szs (List.replicate n ds).flatten = n * szs ds ∧ hts (List.replicate n ds).flatten ≤ hts ds ∧ pls (List.replicate n ds).flatten = true
  | 0 => ⟨(Nat.zero_mul _).symm, Nat.zero_le _, rfl⟩
  | n + 1 => by
    have ih := rep_bd hp n
    rw [List.replicate_succ, List.flatten_cons, szs_app, hts_app]
    refine ⟨by rw [ih.1, Nat.succ_mul]; omega, by omega, pls_mem.mpr fun z hz => ?_⟩
    rcases List.mem_append.mp hz with hz | hz
    · exact pls_mem.mp hp z hz
    · exact pls_mem.mp ih.2.2 z hz
theorem s_isiBB {K : PySem.W.Frag} {H : Hp} {Q : VK} {b : Bool} (q : Q (.bl true) H) : rIsi K [.bl b, .ty "bool"] H Q := s_isB (d := .bool b) rfl q
/-- what stands throughout the law -/
structure Cx12 (K : PySem.W.Frag) (H : Hp) (C L su PL f r : Addr) (as : List Addr) (p n t m : Int) (s : M.Scr) : Prop where
  dr : DR H C L
  su : SU K H su p n t m
  pl : SqT K H PL [.ref f, .ref r]
  fo : IsT K H f s.foes
  ru : SqT K H r (as.map V.ref)
  rs : Paired (IsRule K H) as s.rules
theorem Cx12.go {K : PySem.W.Frag} {H H' : Hp} {C L su PL f r : Addr} {as : List Addr} {p n t m : Int} {s : M.Scr} (c : Cx12 K H C L su PL f r as p n t m s) (k : TK K H H') (d : DR H' C L) : Cx12 K H' C L su PL f r as p n t m s :=
  ⟨d, k _ _ c.su, k _ _ c.pl, k _ _ c.fo, k _ _ c.ru, L2.Paired.mapP c.rs fun a x h => h.tk k⟩
theorem Cx12.same {K : PySem.W.Frag} {H H' : Hp} {C L su PL f r : Addr} {as : List Addr} {p n t m : Int} {s : M.Scr} (c : Cx12 K H C L su PL f r as p n t m s) (k : Same H H') : Cx12 K H' C L su PL f r as p n t m s := c.go (TK.same k) (c.dr.same k)
theorem Cx12.but {K : PySem.W.Frag} {H H' : Hp} {C L su PL f r : Addr} {as : List Addr} {p n t m : Int} {s : M.Scr} (c : Cx12 K H C L su PL f r as p n t m s) (b : But C H H') (d : DR H' C L) : Cx12 K H' C L su PL f r as p n t m s := c.go (tk_butD b c.dr) d
abbrev stP (s c su plan k other kind rule more change j moved told : Option V := none) : L2.St := [s, c, su, plan, k, other, kind, rule, more, change, j, moved, told]
theorem at6 {d : Int} (h0 : 0 ≤ d) (h1 : d < 6) : ∃ k : Int, atI [V.int 20, .int 21, .int 39, .int 40, .int 41, .int 60] d = some (.int k) := by
  rcases (show d = 0 ∨ d = 1 ∨ d = 2 ∨ d = 3 ∨ d = 4 ∨ d = 5 by omega) with rfl | rfl | rfl | rfl | rfl | rfl <;> exact ⟨_, rfl⟩
theorem at11 {α : Type} {a0 a1 a2 a3 a4 a5 a6 a7 a8 a9 a10 : α} {d : Int} (h0 : 0 ≤ d) (h1 : d < 11) : ∃ x, (x = a0 ∨ x = a1 ∨ x = a2 ∨ x = a3 ∨ x = a4 ∨ x = a5 ∨ x = a6 ∨ x = a7 ∨ x = a8 ∨ x = a9 ∨ x = a10) ∧ atI [a0, a1, a2, a3, a4, a5, a6, a7, a8, a9, a10] d = some x := by
  rcases (show d = 0 ∨ d = 1 ∨ d = 2 ∨ d = 3 ∨ d = 4 ∨ d = 5 ∨ d = 6 ∨ d = 7 ∨ d = 8 ∨ d = 9 ∨ d = 10 by omega) with rfl | rfl | rfl | rfl | rfl | rfl | rfl | rfl | rfl | rfl | rfl
  · exact ⟨a0, by simp, rfl⟩
  · exact ⟨a1, by simp, rfl⟩
  · exact ⟨a2, by simp, rfl⟩
  · exact ⟨a3, by simp, rfl⟩
  · exact ⟨a4, by simp, rfl⟩
  · exact ⟨a5, by simp, rfl⟩
  · exact ⟨a6, by simp, rfl⟩
  · exact ⟨a7, by simp, rfl⟩
  · exact ⟨a8, by simp, rfl⟩
  · exact ⟨a9, by simp, rfl⟩
  · exact ⟨a10, by simp, rfl⟩
theorem s_repT {K : PySem.W.Frag} {H : Hp} {Q : VK} {p : Addr} {xs : List V} {k : Int} (hx : SqT K H p xs) (h0 : xs ≠ []) (h1 : 2 ≤ k) (h2 : k ≤ 1000) (h3 : xs.length ≤ 1000) (h : ∀ q H', H q = none → Same H H' → H' q = some (.tup (List.replicate k.toNat xs).flatten) → Q (.ref q) H') : rRepT K (.ref p) (.int k) H Q :=
  ⟨p, k, xs, rfl, rfl, hx, h0, h1, h2, h3, s_new h⟩
theorem im_pair {K : PySem.W.Frag} {H : Hp} {a : Addr} {d e : PyData} {v u : V} (h : SqT K H a [v, u]) (hd : Im K H d v) (he : Im K H e u) : Im K H (.tuple [d, e]) (.ref a) := im_two h hd he
theorem im_seq {K : PySem.W.Frag} {H : Hp} {a : Addr} {ds : List PyData} {vs : List V} (h : SqT K H a vs) (hd : Ims K H ds vs) : Im K H (.tuple ds) (.ref a) := ⟨a, vs, rfl, h, hd⟩
theorem bd_seq {h s : Nat} {ds : List PyData} (a : hts ds ≤ h) (b : szs ds ≤ s) (c : pls ds = true) : Bd (h + 1) (s + 1) (.tuple ds) := ⟨by show 1 + hts ds ≤ h + 1; omega, by show 1 + szs ds ≤ s + 1; omega, c⟩
def Sj : Nat → Nat
  | 0 => 300
  | j + 1 => 3 * Sj j + 6
theorem scr_bd {p n t m : Int} {s : M.Scr} (ok : M.SetOk p n t m) (sok : M.ScrOk p n t m s) (l : s.rules.length ≤ 13) : Bd 6 254 (scrD s) := by
  have hfoes := sok.few
  have ot2 := ok.t2
  have rbd : ∀ x ∈ s.rules.map ruleD, Bd 4 17 x := fun x hx => by
    obtain ⟨y, hy, rfl⟩ := List.mem_map.mp hx
    obtain ⟨⟨st, i, ha, _⟩, hc⟩ := sok.rule y hy
    exact rule_bd (addr_len ha) hc
  have rsz := rules_bd rbd
  rw [List.length_map] at rsz
  exact (bd_two (h := 5) ((bd_ints s.foes).mono (by decide) (show _ ≤ 3 by omega)) (bd_seq (h := 4) (s := 249) rsz.2.1 (by omega) rsz.2.2)).mono (by decide) (by decide)
theorem cx_im {K : PySem.W.Frag} {H : Hp} {C L su PL f r : Addr} {as : List Addr} {p n t m : Int} {s : M.Scr} (cx : Cx12 K H C L su PL f r as p n t m s) : Im K H (scrD s) (.ref PL) := im_pair cx.pl (im_ints cx.fo) (im_seq cx.ru (ims_rules cx.rs))
theorem spoil_loop {R : VK} {N : L2.St → Hp → Prop} {H : Hp} {C L su PL f r : Addr} {as : List Addr} {p n t m : Int} {s : M.Scr} {s0 : Addr} {ki kd : Int} {y7 y8 y9 y10 y11 y12 : Option V} {z : Nat} (hz : z ≤ 2) (ok : M.SetOk p n t m) (sok : M.ScrOk p n t m s) (l13 : s.rules.length ≤ 13)
    (cx : Cx12 K H C L su PL f r as p n t m s)
    (hN : ∀ σ' H', (∃ (ov : V) (od : PyData) (y7 y8 y9 y10 y11 : Option V), σ' = stP (some (.ref s0)) (some (.ref C)) (some (.ref su)) (some (.ref PL)) (some (.int ki)) (some ov) (some (.int kd)) y7 y8 y9 y10 y11 y12 ∧ Cx12 K H' C L su PL f r as p n t m s ∧ Im K H' od ov ∧ Bd 121 50000 od) → N σ' H') :
    ForW (gName 10) (tAsg (tCall (spSpoilt K) [] E0 (tCons (tVar 1) (tCons (tVar 5) tNil))) (gName 5)) R N (Itr 0 z) (stP (some (.ref s0)) (some (.ref C)) (some (.ref su)) (some (.ref PL)) (some (.int ki)) (some (.ref PL)) (some (.int kd)) y7 y8 y9 y10 y11 y12) H := by
  refine w_range (fun j σ' H' => ∃ (ov : V) (od : PyData) (y10 : Option V), σ' = stP (some (.ref s0)) (some (.ref C)) (some (.ref su)) (some (.ref PL)) (some (.int ki)) (some ov) (some (.int kd)) y7 y8 y9 y10 y11 y12 ∧ Cx12 K H' C L su PL f r as p n t m s ∧ Im K H' od ov ∧ Bd 120 (Sj j) od) ⟨.ref PL, scrD s, y10, rfl, cx, cx_im cx, (scr_bd ok sok l13).mono (by decide) (by decide)⟩ ?_ ?_
  · rintro j _ H1 hj ⟨ov, od, y10, rfl, cx1, hov, bod⟩
    have hS : Sj j ≤ 64000 := by
      rcases (show j = 0 ∨ j = 1 by omega) with rfl | rfl <;> decide
    kc_close
    refine ⟨C, ov, rfl, L, od, Sj j, cx1.dr, hov, bod, hS, fun H2 ov' od' b2 d2 hov' bod' => ?_⟩
    kc_close
    exact ⟨ov', od', _, rfl, cx1.but b2 d2, hov', bod'⟩
  · rintro _ H1 ⟨ov, od, y10, rfl, cx1, hov, bod⟩
    refine hN _ _ ⟨ov, od, y7, y8, y9, y10, y11, rfl, cx1, hov, bod.mono (by decide) ?_⟩
    rcases (show z = 0 ∨ z = 1 ∨ z = 2 by omega) with rfl | rfl | rfl <;> decide
end
end K1
end
section
open PySem PySem.Spec PyProof.Rows L2 Z
local macro_rules | `(tactic| ktr_room) => `(tactic| first
  | assumption
  | (apply SqT.of; assumption)
  | (apply SqL.of; assumption)
  | (apply sqt_same; assumption; ktr_room)
  | (apply sql_same; assumption; ktr_room)
  | (apply sqt_but; assumption; assumption; ktr_room)
  | (apply sql_but; assumption; assumption; ktr_room)
  | (apply Same.of_; assumption; ktr_room)
  | (apply But.of_; assumption; assumption; ktr_room)
  | exact same_refl
  | exact but_refl
  | (apply same_tr; assumption; ktr_room)
  | (apply same_but; assumption; ktr_room; assumption)
  | (apply but_tr; assumption; ktr_room)
  | (apply but_trB; assumption; ktr_room))
local macro_rules | `(tactic| ktr_units) => `(tactic| first | with_reducible assumption | omega | rfl | exact ⟨by omega, by omega⟩ | exact .inl ⟨by omega, by omega⟩ | exact .inr ⟨by omega, by omega⟩ | exact ⟨by decide, by decide, by decide⟩ | exact Nat.le_of_ble_eq_true rfl | decide)
local macro_rules | `(tactic| kc_close) => `(tactic| repeat (with_reducible first
  | refine s_var (by with_unfolding_all rfl) ?_
  | refine s_c ?_
  | refine s_op ?_
  | refine s_rI0 ?_
  | refine s_asg ?_
  | refine s_gname ?_
  | refine s_seq ?_
  | refine s_cons ?_
  | refine s_nil ?_
  | refine s_call ?_
  | refine s_ret ?_
  | o_fieldsN
  | refine s_test ?_
  | refine s_bl ?_
  | refine s_rI (by with_unfolding_all (ktr_units)) ?_
  | refine s_rEq rfl ?_
  | refine s_rNe rfl ?_
  | refine s_cb ?_
  | refine s_int1 ?_
  | refine s_intB ?_
  | refine s_max2 ?_
  | refine s_min2 ?_
  | refine s_tup ?_
  | refine s_lst ?_
  | refine s_newT (by with_unfolding_all first | decide | exact Nat.le_of_ble_eq_true rfl) ?_
  | refine s_newL (by with_unfolding_all first | decide | exact Nat.le_of_ble_eq_true rfl) ?_
  | refine s_ixT (by ktr_room) (by with_unfolding_all rfl) ?_
  | refine s_ixL (by ktr_room) (by with_unfolding_all rfl) ?_
  | refine s_lenT (by ktr_room) ?_
  | refine s_lenL (by ktr_room) ?_
  | refine s_un ?_
  | refine s_rU ?_
  | refine s_and ?_
  | refine s_or ?_
  | refine s_not ?_
  | refine s_tB ?_
  | refine s_tru ?_
  | refine s_drop ?_
  | refine s_next ?_
  | refine s_for ?_
  | refine s_rng1 ?_
  | refine s_rng2 ?_
  | refine s_rng3 ?_
  | refine s_ilist ?_
  | refine s_itup ?_
  | refine s_iany ?_
  | refine s_ienum ?_
  | refine s_irev ?_
  | refine s_gcons ?_
  | refine s_gnil ?_
  | refine s_gtup (by ktr_room) (by with_unfolding_all rfl) ?_
  | refine s_gsub ?_
  | refine s_augS ?_
  | refine s_aug (by with_unfolding_all rfl) ?_
  | refine s_ipI ?_
  | refine s_bm ?_
  | refine s_bm0 ?_
  | refine s_tyL (by ktr_room) ?_
  | refine s_tyL0 (by ktr_room) ?_
  | refine s_sl ?_
  | refine s_part ?_
  | refine s_partv ?_
  | refine s_noPart ?_
  | refine s_lc ?_
  | refine s_yes ?_
  | refine s_wipe (by with_unfolding_all rfl) ?_
  | refine iteT ?_
  | refine s_retN ?_
  | refine s_isN ?_
  | refine s_truB ?_
  | refine s_isB2 ?_
  | refine s_notB2 ?_
  | refine s_revT ?_
  | refine s_andV ?_
  | refine s_orV ?_
  | refine s_ifE ?_
  | refine s_notK ?_
  | refine s_notN ?_
  | refine s_truL (by ktr_room) ?_
  | refine s_truT (by ktr_room) ?_))
open K1
local macro_rules | `(tactic| ktr_room) => `(tactic| first
  | (apply DR.same; assumption; ktr_room)
  | (apply sqt_butD; assumption; ktr_room; ktr_room))
namespace K1
section
variable {P : Program} {w : World} {K : PySem.W.Frag} {mg : Str → Option Value} {base : Heap}
def spIsInteger (K : PySem.W.Frag) : Sp := fun vs H Q _ => ∃ (v : V), vs = [v] ∧ ∃ d, Im K H d v ∧ pl d = true ∧ Q (.bl (isInt d)) H
theorem ok_is_integer (T : NoB mg) (h : Has K mg "is_integer" (topS 1) ["value"]) : Good P w K mg base 1 "is_integer" ["value"] (spIsInteger K) := by
  have sc : FnScope ["value"] ["value"] (defScope (topS 1)) := ⟨rfl, rfl, rfl, by decide +kernel, rfl, by decide +kernel, by decide +kernel⟩
  have nd := sc.nd
  refine h.good sc (fun vs H Q E h => by obtain ⟨v, rfl, _⟩ := h; rfl) (fun f cdv A outer s H vs Q E hr h => ?_)
  obtain ⟨v, rfl, hyp⟩ := h
  refine ⟨_, (pss_one (ps_ret (pe_and (pe_callB (c_isiK K) (by rfl) T.n_isinstance (by decide +kernel) (pa_cons (pv 0) (pa_cons (pe_bltn (v := .ty "int") (by rfl) T.n_int (by decide +kernel) rfl) pa_nil))) (pe_one (pe_notK K (pe_callB (c_isiK K) (by rfl) T.n_isinstance (by decide +kernel) (pa_cons (pv 0) (pa_cons (pe_bltn (v := .ty "bool") (by rfl) T.n_bool (by decide +kernel) rfl) pa_nil)))))))), ?_⟩
  try dsimp only [cxOf, Cx.wish]
  obtain ⟨d, hd, pd, q⟩ := hyp
  kc_close
  refine s_isI hd ?_
  kc_close
  cases d with
  | int i =>
    have e : v = .int i := hd
    subst e
    refine iteT ?_
    kc_close
    refine s_isi (b := false) (by decide +kernel) ?_
    kc_close
    exact q
  | bool b => cases pd
  | none => refine iteF ?_; exact q
  | str _ => refine iteF ?_; exact q
  | tuple _ => refine iteF ?_; exact q
  | list _ => cases pd
  | dict _ => cases pd
def spIsBetween (K : PySem.W.Frag) : Sp := fun vs H Q _ => ∃ (v : V) (lo hi : Int), vs = [v, .int lo, .int hi] ∧ ∃ d, Im K H d v ∧ pl d = true ∧ Q (.bl (wholeB d lo hi)) H
theorem ok_is_between (h : Has K mg "is_between" (topS 2) ["value", "low", "high"]) (G_is_integer : Good P w K mg base 1 "is_integer" ["value"] (spIsInteger K)) : Good P w K mg base 2 "is_between" ["value", "low", "high"] (spIsBetween K) := by
  have sc : FnScope ["value", "low", "high"] ["value", "low", "high"] (defScope (topS 2)) := ⟨rfl, rfl, rfl, by decide +kernel, rfl, by decide +kernel, by decide +kernel⟩
  have nd := sc.nd
  refine h.good sc (fun vs H Q E h => by obtain ⟨v, lo, hi, rfl, _⟩ := h; rfl) (fun f cdv A outer s H vs Q E hr h => ?_)
  obtain ⟨v, lo, hi, rfl, hyp⟩ := h
  refine ⟨_, (pss_one (ps_ret (pe_and (pe_callG G_is_integer (hr.mono (by first | decide | omega)) (by rfl) (pa_cons (pv 0) pa_nil)) (pe_one (pe_chain op_le op_le (pv 1) (pv 0) (pv 2)))))), ?_⟩
  try dsimp only [cxOf, Cx.wish]
  obtain ⟨d, hd, pd, q⟩ := hyp
  kc_close
  refine ⟨v, rfl, d, hd, pd, ?_⟩
  kc_close
  cases d with
  | int i =>
    have e : v = .int i := hd
    subst e
    have q' : Q (.bl (decide (lo ≤ i) && decide (i ≤ hi))) H := q
    refine iteT ?_
    refine s_chain ?_
    kc_close
    refine ifP (fun h => ?_) (fun h => ?_)
    · kc_close
      rw [decide_eq_true h, Bool.true_and] at q'
      exact q'
    · rw [decide_eq_false h, Bool.false_and] at q'
      exact q'
  | bool b => cases pd
  | none => refine iteF ?_; exact q
  | str _ => refine iteF ?_; exact q
  | tuple _ => refine iteF ?_; exact q
  | list _ => cases pd
  | dict _ => cases pd
def tupB (d : PyData) (lo hi : Int) : Bool := match d with
  | .tuple ds => decide (lo ≤ ds.length) && decide ((ds.length : Int) ≤ hi)
  | _ => false
theorem tup_of {d : PyData} {lo hi : Int} (h : tupB d lo hi = true) : ∃ ds, d = .tuple ds ∧ lo ≤ ds.length ∧ (ds.length : Int) ≤ hi := by
  cases d with
  | tuple ds =>
    have h' : (decide (lo ≤ ds.length) && decide ((ds.length : Int) ≤ hi)) = true := h
    rw [Bool.and_eq_true, decide_eq_true_eq, decide_eq_true_eq] at h'
    exact ⟨ds, rfl, h'⟩
  | _ => cases h
theorem tupB_of {ds : List PyData} {lo hi : Int} (h0 : lo ≤ ds.length) (h1 : (ds.length : Int) ≤ hi) : tupB (.tuple ds) lo hi = true := by
  show (decide (lo ≤ ds.length) && decide ((ds.length : Int) ≤ hi)) = true
  rw [decide_eq_true h0, decide_eq_true h1]
  rfl
def spIsTuple (K : PySem.W.Frag) : Sp := fun vs H Q _ => ∃ (v : V) (lo hi : Int), vs = [v, .int lo, .int hi] ∧ ∃ d, Im K H d v ∧ pl d = true ∧ Q (.bl (tupB d lo hi)) H
theorem ok_is_tuple (T : NoB mg) (h : Has K mg "is_tuple" (topS 3) ["value", "least", "most"]) : Good P w K mg base 1 "is_tuple" ["value", "least", "most"] (spIsTuple K) := by
  have sc : FnScope ["value", "least", "most"] ["value", "least", "most"] (defScope (topS 3)) := ⟨rfl, rfl, rfl, by decide +kernel, rfl, by decide +kernel, by decide +kernel⟩
  have nd := sc.nd
  refine h.good sc (fun vs H Q E h => by obtain ⟨v, lo, hi, rfl, _⟩ := h; rfl) (fun f cdv A outer s H vs Q E hr h => ?_)
  obtain ⟨v, lo, hi, rfl, hyp⟩ := h
  refine ⟨_, (pss_one (ps_ret (pe_and (pe_callB (c_isiK K) (by rfl) T.n_isinstance (by decide +kernel) (pa_cons (pv 0) (pa_cons (pe_bltn (v := .ty "tuple") (by rfl) T.n_tuple (by decide +kernel) rfl) pa_nil))) (pe_one (pe_chain op_le op_le (pv 1) (pe_callB (c_lenK K) (by rfl) T.n_len (by decide +kernel) (pa_cons (pv 0) pa_nil)) (pv 2)))))), ?_⟩
  try dsimp only [cxOf, Cx.wish]
  obtain ⟨d, hd, pd, q⟩ := hyp
  kc_close
  refine s_isT hd ?_
  kc_close
  cases d with
  | tuple ds =>
    obtain ⟨a, vs, rfl, hv, his⟩ := hd
    have lvs := Ims.length his
    have q' : Q (.bl (decide (lo ≤ ds.length) && decide ((ds.length : Int) ≤ hi))) H := q
    refine iteT ?_
    refine s_chain ?_
    kc_close
    rw [lvs]
    refine ifP (fun h => ?_) (fun h => ?_)
    · kc_close
      rw [decide_eq_true h, Bool.true_and] at q'
      exact q'
    · rw [decide_eq_false h, Bool.false_and] at q'
      exact q'
  | bool b => cases pd
  | none => refine iteF ?_; exact q
  | str _ => refine iteF ?_; exact q
  | int _ => refine iteF ?_; exact q
  | list _ => cases pd
  | dict _ => cases pd
def pairsB (d : PyData) (lo hi : Int) : Bool := match d with
  | .tuple ds => tupB (.tuple ds) lo hi && ds.all fun e => tupB e 2 2
  | _ => false
theorem ims_map {K : PySem.W.Frag} {H : Hp} {ds : List PyData} {vs : List V} (f : PyData → Bool) (h : Ims K H ds vs) {B : Addr} (e : H B = some (.lst ((List.range vs.length).map fun i => V.bl (f (ds.getD i .none))))) : H B = some (.lst ((ds.map f).map V.bl)) := by
  rw [e, List.map_map, Ims.length h]
  congr 2
  refine List.ext_getElem? fun i => ?_
  rw [List.getElem?_map, List.getElem?_map]
  by_cases hi : i < ds.length
  · rw [List.getElem?_range hi, List.getElem?_eq_getElem hi]
    show some (V.bl (f (ds.getD i .none))) = _
    rw [List.getD_eq_getElem?_getD, List.getElem?_eq_getElem hi]
    rfl
  · rw [List.getElem?_eq_none (by simpa using Nat.le_of_not_lt hi), List.getElem?_eq_none (Nat.le_of_not_lt hi)]
    rfl
theorem ims_same {K : PySem.W.Frag} {H H' : Hp} {ds : List PyData} {vs : List V} (s : Same H H') (h : Ims K H ds vs) : Ims K H' ds vs := Ims.tk (TK.same s) _ _ h
def spArePairs (K : PySem.W.Frag) : Sp := fun vs H Q _ => ∃ (v : V) (lo hi : Int), vs = [v, .int lo, .int hi] ∧ ∃ d, Im K H d v ∧ pl d = true ∧ hi ≤ 1000 ∧ ∀ H', Same H H' → Q (.bl (pairsB d lo hi)) H'
theorem ok_are_pairs (T : NoB mg) (h : Has K mg "are_pairs" (topS 4) ["value", "least", "most"]) (G_is_tuple : Good P w K mg base 1 "is_tuple" ["value", "least", "most"] (spIsTuple K)) : Good P w K mg base 2 "are_pairs" ["value", "least", "most"] (spArePairs K) := by
  have sc : FnScope ["value", "least", "most", "pair"] ["value", "least", "most"] (defScope (topS 4)) := ⟨rfl, rfl, rfl, by decide +kernel, rfl, by decide +kernel, by decide +kernel⟩
  have nd := sc.nd
  refine h.good sc (fun vs H Q E h => by obtain ⟨v, lo, hi, rfl, _⟩ := h; rfl) (fun f cdv A outer s H vs Q E hr h => ?_)
  obtain ⟨v, lo, hi, rfl, hyp⟩ := h
  refine ⟨_, (pss_one (ps_ret (pe_and (pe_callG G_is_tuple (hr.mono (by first | decide | omega)) (by rfl) (pa_cons (pv 0) (pa_cons (pv 1) (pa_cons (pv 2) pa_nil)))) (pe_one (pe_callB (cr_allK K rfl) (by rfl) T.n_all (by decide +kernel) (pa_cons (pe_lc (own := [("pair", 3)]) rfl nd (pi_tupK K (pv 0)) (blkOk_by (own := [("pair", 3)]) (N := ["value", "least", "most", "pair"]) (by kernel_rfl)) (fun _ _ _ _ _ => (pg_name (i := 3) nd rfl (by first | exact .inl rfl | exact .inr rfl))) (fun _ _ _ _ _ => pts_nil) (fun _ _ _ _ _ => (pe_callG G_is_tuple (hr.mono (by first | decide | omega)) (by rfl) (pa_cons (pv 3) (pa_cons pe_int (pa_cons pe_int pa_nil)))))) pa_nil)))))), ?_⟩
  try dsimp only [cxOf, Cx.wish]
  obtain ⟨d, hd, pd, h1000, q⟩ := hyp
  kc_close
  refine ⟨v, lo, hi, rfl, d, hd, pd, ?_⟩
  kc_close
  cases ht : tupB d lo hi with
  | false =>
    refine iteF ?_
    have := q H (Same.refl _)
    rw [show pairsB d lo hi = false by cases d with
      | tuple ds => show (tupB (.tuple ds) lo hi && _) = false; rw [ht]; rfl
      | _ => rfl] at this
    exact this
  | true =>
    obtain ⟨ds, rfl, l0, l1⟩ := tup_of ht
    obtain ⟨a, vs, rfl, hv, his⟩ := hd
    have lvs := Ims.length his
    have pds : pls ds = true := pd
    refine iteT ?_
    kc_close
    refine s_itupv hv ?_
    refine l_mapT (fun i => V.bl (tupB (ds.getD i .none) 2 2)) hv (by omega) ?_ ?_
    · intro D N' i y H' e s' k'
      obtain ⟨e1, ee, he⟩ := Ims.get his e
      have pe := pls_mem.mp pds e1 (List.mem_of_getElem? ee)
      kc_close
      refine ⟨y, 2, 2, rfl, e1, Im.tk (TK.same s') _ _ he, pe, ?_⟩
      have := k' _ (Same.refl _)
      rw [List.getD_eq_getElem?_getD, ee] at this
      exact this
    intro B H2 nB s2 eB
    have eB2 := ims_map (fun e => tupB e 2 2) (ims_same s2 his) eB
    kc_close
    refine s_all (SqL.of eB2) ?_
    have := q H2 s2
    rw [show pairsB (.tuple ds) lo hi = (tupB (.tuple ds) lo hi && ds.all fun e => tupB e 2 2) from rfl, ht, Bool.true_and] at this
    rw [List.all_map]
    exact this
end
end K1
end
section
open PySem PySem.Spec PyProof.Rows L2 Z
local macro_rules | `(tactic| ktr_room) => `(tactic| first
  | assumption
  | (apply SqT.of; assumption)
  | (apply SqL.of; assumption)
  | (apply sqt_same; assumption; ktr_room)
  | (apply sql_same; assumption; ktr_room)
  | (apply sqt_but; assumption; assumption; ktr_room)
  | (apply sql_but; assumption; assumption; ktr_room)
  | (apply Same.of_; assumption; ktr_room)
  | (apply But.of_; assumption; assumption; ktr_room)
  | exact same_refl
  | exact but_refl
  | (apply same_tr; assumption; ktr_room)
  | (apply same_but; assumption; ktr_room; assumption)
  | (apply but_tr; assumption; ktr_room)
  | (apply but_trB; assumption; ktr_room))
local macro_rules | `(tactic| ktr_units) => `(tactic| first | with_reducible assumption | omega | rfl | exact ⟨by omega, by omega⟩ | exact .inl ⟨by omega, by omega⟩ | exact .inr ⟨by omega, by omega⟩ | exact ⟨by decide, by decide, by decide⟩ | exact Nat.le_of_ble_eq_true rfl | decide)
local macro_rules | `(tactic| kc_close) => `(tactic| repeat (with_reducible first
  | refine s_var (by with_unfolding_all rfl) ?_
  | refine s_c ?_
  | refine s_op ?_
  | refine s_rI0 ?_
  | refine s_asg ?_
  | refine s_gname ?_
  | refine s_seq ?_
  | refine s_cons ?_
  | refine s_nil ?_
  | refine s_call ?_
  | refine s_ret ?_
  | o_fieldsN
  | refine s_test ?_
  | refine s_bl ?_
  | refine s_rI (by with_unfolding_all (ktr_units)) ?_
  | refine s_rEq rfl ?_
  | refine s_rNe rfl ?_
  | refine s_cb ?_
  | refine s_int1 ?_
  | refine s_intB ?_
  | refine s_max2 ?_
  | refine s_min2 ?_
  | refine s_tup ?_
  | refine s_lst ?_
  | refine s_newT (by with_unfolding_all first | decide | exact Nat.le_of_ble_eq_true rfl) ?_
  | refine s_newL (by with_unfolding_all first | decide | exact Nat.le_of_ble_eq_true rfl) ?_
  | refine s_ixT (by ktr_room) (by with_unfolding_all rfl) ?_
  | refine s_ixL (by ktr_room) (by with_unfolding_all rfl) ?_
  | refine s_lenT (by ktr_room) ?_
  | refine s_lenL (by ktr_room) ?_
  | refine s_un ?_
  | refine s_rU ?_
  | refine s_and ?_
  | refine s_or ?_
  | refine s_not ?_
  | refine s_tB ?_
  | refine s_tru ?_
  | refine s_drop ?_
  | refine s_next ?_
  | refine s_for ?_
  | refine s_rng1 ?_
  | refine s_rng2 ?_
  | refine s_rng3 ?_
  | refine s_ilist ?_
  | refine s_itup ?_
  | refine s_iany ?_
  | refine s_ienum ?_
  | refine s_irev ?_
  | refine s_gcons ?_
  | refine s_gnil ?_
  | refine s_gtup (by ktr_room) (by with_unfolding_all rfl) ?_
  | refine s_gsub ?_
  | refine s_augS ?_
  | refine s_aug (by with_unfolding_all rfl) ?_
  | refine s_ipI ?_
  | refine s_bm ?_
  | refine s_bm0 ?_
  | refine s_tyL (by ktr_room) ?_
  | refine s_tyL0 (by ktr_room) ?_
  | refine s_sl ?_
  | refine s_part ?_
  | refine s_partv ?_
  | refine s_noPart ?_
  | refine s_lc ?_
  | refine s_yes ?_
  | refine s_wipe (by with_unfolding_all rfl) ?_
  | refine iteT ?_
  | refine s_retN ?_
  | refine s_isN ?_
  | refine s_truB ?_
  | refine s_isB2 ?_
  | refine s_notB2 ?_
  | refine s_revT ?_
  | refine s_andV ?_
  | refine s_orV ?_
  | refine s_ifE ?_
  | refine s_notK ?_
  | refine s_notN ?_
  | refine s_truL (by ktr_room) ?_
  | refine s_truT (by ktr_room) ?_))
open K1
local macro_rules | `(tactic| ktr_room) => `(tactic| first
  | (apply DR.same; assumption; ktr_room)
  | (apply sqt_butD; assumption; ktr_room; ktr_room))
namespace K1
def partB (n t m : Int) (wd : Str) (d : PyData) : Bool := if wd = "party" then wholeB d 1 n else if wd = "board" then wholeB d 0 0 else if wd = "index" then wholeB d 0 (m - 1) else wholeB d 0 t
def formS (st : Int) : List Str := ([["party", "party", "index", "place"], ["party", "party", "party", "index"], ["party", "board", "party", "party"], ["party", "board", "party", "party", "index"], ["party", "board", "party"], ["party", "board", "party", "index", "place"], ["party", "board", "party"], ["party", "board", "index"]] : List (List Str)).getD (st - 1).toNat []
def diffS (st : Int) : Option (Nat × Nat) := [some (1, 2), some (1, 2), some (1, 4), some (3, 4)].getD (st - 1).toNat none
theorem pt_party {n t m : Int} {d : PyData} : partB n t m "party" d = wholeB d 1 n := rfl
theorem pt_board {n t m : Int} {d : PyData} : partB n t m "board" d = wholeB d 0 0 := by unfold partB; rw [if_neg (by decide), if_pos rfl]
theorem pt_index {n t m : Int} {d : PyData} : partB n t m "index" d = wholeB d 0 (m - 1) := by unfold partB; rw [if_neg (by decide), if_neg (by decide), if_pos rfl]
theorem pt_place {n t m : Int} {d : PyData} : partB n t m "place" d = wholeB d 0 t := by unfold partB; rw [if_neg (by decide), if_neg (by decide), if_neg (by decide)]
def partsB (n t m : Int) : List Str → List PyData → Bool
  | [], [] => true
  | x :: xs, d :: ds => partB n t m x d && partsB n t m xs ds
  | _, _ => false
theorem parts_list {n t m : Int} : ∀ (xs : List Str) (ds : List PyData), xs.length = ds.length → partsB n t m xs ds = ((List.range xs.length).map fun i => partB n t m (xs.getD i "") (ds.getD i .none)).all id
  | [], [], _ => rfl
  | x :: xs, d :: ds, h => by
    show (partB n t m x d && partsB n t m xs ds) = _
    rw [parts_list xs ds (by simpa using h), List.length_cons, List.range_succ_eq_map, List.map_cons, List.all_cons, List.map_map]
    rfl
  | [], _ :: _, h => by cases h
  | _ :: _, [], h => by cases h
theorem pd_int_ne {a b : Int} : (PyData.int a ≠ PyData.int b) ↔ a ≠ b := ⟨fun h e => h (by rw [e]), fun h e => h (by injection e)⟩
/-- an address, read part by part -/
theorem addr_read {n t m st : Int} {r : List PyData} (h1 : 1 ≤ st) (h8 : st ≤ 8) (hl : r.length = (formS st).length) :
    isAddr n t m (.tuple (.int st :: r)) ↔ partsB n t m (formS st) r = true ∧ ∀ f s, diffS st = some (f, s) → (.int st :: r : List PyData)[f]? ≠ (.int st :: r : List PyData)[s]? := by
  rcases (show st = 1 ∨ st = 2 ∨ st = 3 ∨ st = 4 ∨ st = 5 ∨ st = 6 ∨ st = 7 ∨ st = 8 by omega) with rfl | rfl | rfl | rfl | rfl | rfl | rfl | rfl
  · match r, hl with
    | [a, b, c, d], _ =>
      constructor
      · rintro ⟨st', sd, xs, e, h⟩
        injection e with e
        cases h with
        | r1 p1 p2 p3 p4 p5 =>
          injection e with e0 e; injection e with e1 e; injection e with e2 e; injection e with e3 e; injection e with e4 e
          subst e1 e2 e3 e4
          refine ⟨?_, fun f s z => ?_⟩
          · show (partB n t m "party" _ && (partB n t m "party" _ && (partB n t m "index" _ && (partB n t m "place" _ && true)))) = true
            rw [pt_party, pt_party, pt_index, pt_place, whole_of p1.1 p1.2, whole_of p2.1 p2.2, whole_of p4.1 (by have := p4.2; omega), whole_of p5.1 (by have := p5.2; omega)]
            rfl
          · cases z
            intro z
            injection z with z
            injection z with z
            exact p3 z.symm
        | _ => injection e with e0 e; injection e0 with e0; exact absurd e0 (by decide)
      · rintro ⟨hp, hd⟩
        have hp' : (partB n t m "party" a && (partB n t m "party" b && (partB n t m "index" c && (partB n t m "place" d && true)))) = true := hp
        rw [pt_party, pt_party, pt_index, pt_place, Bool.and_true, Bool.and_eq_true, Bool.and_eq_true, Bool.and_eq_true] at hp'
        obtain ⟨i, rfl, i1, i2⟩ := whole_int hp'.1
        obtain ⟨j, rfl, j1, j2⟩ := whole_int hp'.2.1
        obtain ⟨k, rfl, k1, k2⟩ := whole_int hp'.2.2.1
        obtain ⟨u, rfl, u1, u2⟩ := whole_int hp'.2.2.2
        exact ⟨1, i, [1, i, j, k, u], rfl, .r1 ⟨i1, i2⟩ ⟨j1, j2⟩ (fun z => hd 1 2 rfl (by rw [z]; rfl)) ⟨k1, by omega⟩ ⟨u1, by omega⟩⟩
  · match r, hl with
    | [a, b, c, d], _ =>
      constructor
      · rintro ⟨st', sd, xs, e, h⟩
        injection e with e
        cases h with
        | r2 p1 p2 p3 p4 p5 =>
          injection e with e0 e; injection e with e1 e; injection e with e2 e; injection e with e3 e; injection e with e4 e
          subst e1 e2 e3 e4
          refine ⟨?_, fun f s z => ?_⟩
          · show (partB n t m "party" _ && (partB n t m "party" _ && (partB n t m "party" _ && (partB n t m "index" _ && true)))) = true
            rw [pt_party, pt_party, pt_party, pt_index, whole_of p1.1 p1.2, whole_of p2.1 p2.2, whole_of p4.1 p4.2, whole_of p5.1 (by have := p5.2; omega)]
            rfl
          · cases z
            intro z
            injection z with z
            injection z with z
            exact p3 z.symm
        | _ => injection e with e0 e; injection e0 with e0; exact absurd e0 (by decide)
      · rintro ⟨hp, hd⟩
        have hp' : (partB n t m "party" a && (partB n t m "party" b && (partB n t m "party" c && (partB n t m "index" d && true)))) = true := hp
        rw [pt_party, pt_party, pt_party, pt_index, Bool.and_true, Bool.and_eq_true, Bool.and_eq_true, Bool.and_eq_true] at hp'
        obtain ⟨i, rfl, i1, i2⟩ := whole_int hp'.1
        obtain ⟨j, rfl, j1, j2⟩ := whole_int hp'.2.1
        obtain ⟨k, rfl, k1, k2⟩ := whole_int hp'.2.2.1
        obtain ⟨u, rfl, u1, u2⟩ := whole_int hp'.2.2.2
        exact ⟨2, i, [2, i, j, k, u], rfl, .r2 ⟨i1, i2⟩ ⟨j1, j2⟩ (fun z => hd 1 2 rfl (by rw [z]; rfl)) ⟨k1, k2⟩ ⟨u1, by omega⟩⟩
  · match r, hl with
    | [a, b, c, d], _ =>
      constructor
      · rintro ⟨st', sd, xs, e, h⟩
        injection e with e
        cases h with
        | r3 p1 p2 p3 p4 =>
          injection e with e0 e; injection e with e1 e; injection e with e2 e; injection e with e3 e; injection e with e4 e
          subst e1 e2 e3 e4
          refine ⟨?_, fun f s z => ?_⟩
          · show (partB n t m "party" _ && (partB n t m "board" _ && (partB n t m "party" _ && (partB n t m "party" _ && true)))) = true
            rw [pt_party, pt_party, pt_party, pt_board, whole_of p1.1 p1.2, whole_of p2.1 p2.2, whole_of p3.1 p3.2, whole_of (by omega) (by omega)]
            rfl
          · cases z
            intro z
            injection z with z
            injection z with z
            exact p4 z.symm
        | _ => injection e with e0 e; injection e0 with e0; exact absurd e0 (by decide)
      · rintro ⟨hp, hd⟩
        have hp' : (partB n t m "party" a && (partB n t m "board" b && (partB n t m "party" c && (partB n t m "party" d && true)))) = true := hp
        rw [pt_party, pt_party, pt_party, pt_board, Bool.and_true, Bool.and_eq_true, Bool.and_eq_true, Bool.and_eq_true] at hp'
        obtain ⟨i, rfl, i1, i2⟩ := whole_int hp'.1
        obtain ⟨j, rfl, j1, j2⟩ := whole_int hp'.2.1
        obtain ⟨k, rfl, k1, k2⟩ := whole_int hp'.2.2.1
        obtain ⟨u, rfl, u1, u2⟩ := whole_int hp'.2.2.2
        have : j = 0 := by omega
        subst this
        exact ⟨3, i, [3, i, 0, k, u], rfl, .r3 ⟨i1, i2⟩ ⟨k1, k2⟩ ⟨u1, u2⟩ (fun z => hd 1 4 rfl (by rw [z]; rfl))⟩
  · match r, hl with
    | [a, b, c, d, g], _ =>
      constructor
      · rintro ⟨st', sd, xs, e, h⟩
        injection e with e
        cases h with
        | r4 p1 p2 p3 p4 p5 =>
          injection e with e0 e; injection e with e1 e; injection e with e2 e; injection e with e3 e; injection e with e4 e; injection e with e5 e
          subst e1 e2 e3 e4 e5
          refine ⟨?_, fun f s z => ?_⟩
          · show (partB n t m "party" _ && (partB n t m "board" _ && (partB n t m "party" _ && (partB n t m "party" _ && (partB n t m "index" _ && true))))) = true
            rw [pt_party, pt_party, pt_party, pt_board, pt_index, whole_of p1.1 p1.2, whole_of p2.1 p2.2, whole_of p3.1 p3.2, whole_of (by omega) (by omega), whole_of p5.1 (by have := p5.2; omega)]
            rfl
          · cases z
            intro z
            injection z with z
            injection z with z
            exact p4 z.symm
        | _ => injection e with e0 e; injection e0 with e0; exact absurd e0 (by decide)
      · rintro ⟨hp, hd⟩
        have hp' : (partB n t m "party" a && (partB n t m "board" b && (partB n t m "party" c && (partB n t m "party" d && (partB n t m "index" g && true))))) = true := hp
        rw [pt_party, pt_party, pt_party, pt_board, pt_index, Bool.and_true, Bool.and_eq_true, Bool.and_eq_true, Bool.and_eq_true, Bool.and_eq_true] at hp'
        obtain ⟨i, rfl, i1, i2⟩ := whole_int hp'.1
        obtain ⟨j, rfl, j1, j2⟩ := whole_int hp'.2.1
        obtain ⟨k, rfl, k1, k2⟩ := whole_int hp'.2.2.1
        obtain ⟨u, rfl, u1, u2⟩ := whole_int hp'.2.2.2.1
        obtain ⟨y, rfl, y1, y2⟩ := whole_int hp'.2.2.2.2
        have : j = 0 := by omega
        subst this
        exact ⟨4, i, [4, i, 0, k, u, y], rfl, .r4 ⟨i1, i2⟩ ⟨k1, k2⟩ ⟨u1, u2⟩ (fun z => hd 3 4 rfl (by rw [z]; rfl)) ⟨y1, by omega⟩⟩
  · match r, hl with
    | [a, b, c], _ =>
      constructor
      · rintro ⟨st', sd, xs, e, h⟩
        injection e with e
        cases h with
        | r5 p1 p2 =>
          injection e with e0 e; injection e with e1 e; injection e with e2 e; injection e with e3 e
          subst e1 e2 e3
          refine ⟨?_, fun f s z => by cases z⟩
          show (partB n t m "party" _ && (partB n t m "board" _ && (partB n t m "party" _ && true))) = true
          rw [pt_party, pt_party, pt_board, whole_of p1.1 p1.2, whole_of p2.1 p2.2, whole_of (by omega) (by omega)]
          rfl
        | _ => injection e with e0 e; injection e0 with e0; exact absurd e0 (by decide)
      · rintro ⟨hp, hd⟩
        have hp' : (partB n t m "party" a && (partB n t m "board" b && (partB n t m "party" c && true))) = true := hp
        rw [pt_party, pt_party, pt_board, Bool.and_true, Bool.and_eq_true, Bool.and_eq_true] at hp'
        obtain ⟨i, rfl, i1, i2⟩ := whole_int hp'.1
        obtain ⟨j, rfl, j1, j2⟩ := whole_int hp'.2.1
        obtain ⟨k, rfl, k1, k2⟩ := whole_int hp'.2.2
        have : j = 0 := by omega
        subst this
        exact ⟨5, i, [5, i, 0, k], rfl, .r5 ⟨i1, i2⟩ ⟨k1, k2⟩⟩
  · match r, hl with
    | [a, b, c, d, g], _ =>
      constructor
      · rintro ⟨st', sd, xs, e, h⟩
        injection e with e
        cases h with
        | r6 p1 p2 p3 p4 =>
          injection e with e0 e; injection e with e1 e; injection e with e2 e; injection e with e3 e; injection e with e4 e; injection e with e5 e
          subst e1 e2 e3 e4 e5
          refine ⟨?_, fun f s z => by cases z⟩
          show (partB n t m "party" _ && (partB n t m "board" _ && (partB n t m "party" _ && (partB n t m "index" _ && (partB n t m "place" _ && true))))) = true
          rw [pt_party, pt_party, pt_board, pt_index, pt_place, whole_of p1.1 p1.2, whole_of p2.1 p2.2, whole_of p3.1 (by have := p3.2; omega), whole_of (by omega) (by omega), whole_of p4.1 (by have := p4.2; omega)]
          rfl
        | _ => injection e with e0 e; injection e0 with e0; exact absurd e0 (by decide)
      · rintro ⟨hp, hd⟩
        have hp' : (partB n t m "party" a && (partB n t m "board" b && (partB n t m "party" c && (partB n t m "index" d && (partB n t m "place" g && true))))) = true := hp
        rw [pt_party, pt_party, pt_board, pt_index, pt_place, Bool.and_true, Bool.and_eq_true, Bool.and_eq_true, Bool.and_eq_true, Bool.and_eq_true] at hp'
        obtain ⟨i, rfl, i1, i2⟩ := whole_int hp'.1
        obtain ⟨j, rfl, j1, j2⟩ := whole_int hp'.2.1
        obtain ⟨k, rfl, k1, k2⟩ := whole_int hp'.2.2.1
        obtain ⟨u, rfl, u1, u2⟩ := whole_int hp'.2.2.2.1
        obtain ⟨y, rfl, y1, y2⟩ := whole_int hp'.2.2.2.2
        have : j = 0 := by omega
        subst this
        exact ⟨6, i, [6, i, 0, k, u, y], rfl, .r6 ⟨i1, i2⟩ ⟨k1, k2⟩ ⟨u1, by omega⟩ ⟨y1, by omega⟩⟩
  · match r, hl with
    | [a, b, c], _ =>
      constructor
      · rintro ⟨st', sd, xs, e, h⟩
        injection e with e
        cases h with
        | r7 p1 p2 =>
          injection e with e0 e; injection e with e1 e; injection e with e2 e; injection e with e3 e
          subst e1 e2 e3
          refine ⟨?_, fun f s z => by cases z⟩
          show (partB n t m "party" _ && (partB n t m "board" _ && (partB n t m "party" _ && true))) = true
          rw [pt_party, pt_party, pt_board, whole_of p1.1 p1.2, whole_of p2.1 p2.2, whole_of (by omega) (by omega)]
          rfl
        | _ => injection e with e0 e; injection e0 with e0; exact absurd e0 (by decide)
      · rintro ⟨hp, hd⟩
        have hp' : (partB n t m "party" a && (partB n t m "board" b && (partB n t m "party" c && true))) = true := hp
        rw [pt_party, pt_party, pt_board, Bool.and_true, Bool.and_eq_true, Bool.and_eq_true] at hp'
        obtain ⟨i, rfl, i1, i2⟩ := whole_int hp'.1
        obtain ⟨j, rfl, j1, j2⟩ := whole_int hp'.2.1
        obtain ⟨k, rfl, k1, k2⟩ := whole_int hp'.2.2
        have : j = 0 := by omega
        subst this
        exact ⟨7, i, [7, i, 0, k], rfl, .r7 ⟨i1, i2⟩ ⟨k1, k2⟩⟩
  · match r, hl with
    | [a, b, c], _ =>
      constructor
      · rintro ⟨st', sd, xs, e, h⟩
        injection e with e
        cases h with
        | r8 p1 p2 =>
          injection e with e0 e; injection e with e1 e; injection e with e2 e; injection e with e3 e
          subst e1 e2 e3
          refine ⟨?_, fun f s z => by cases z⟩
          show (partB n t m "party" _ && (partB n t m "board" _ && (partB n t m "index" _ && true))) = true
          rw [pt_party, pt_index, pt_board, whole_of p1.1 p1.2, whole_of p2.1 (by have := p2.2; omega), whole_of (by omega) (by omega)]
          rfl
        | _ => injection e with e0 e; injection e0 with e0; exact absurd e0 (by decide)
      · rintro ⟨hp, hd⟩
        have hp' : (partB n t m "party" a && (partB n t m "board" b && (partB n t m "index" c && true))) = true := hp
        rw [pt_party, pt_index, pt_board, Bool.and_true, Bool.and_eq_true, Bool.and_eq_true] at hp'
        obtain ⟨i, rfl, i1, i2⟩ := whole_int hp'.1
        obtain ⟨j, rfl, j1, j2⟩ := whole_int hp'.2.1
        obtain ⟨k, rfl, k1, k2⟩ := whole_int hp'.2.2
        have : j = 0 := by omega
        subst this
        exact ⟨8, i, [8, i, 0, k], rfl, .r8 ⟨i1, i2⟩ ⟨k1, by omega⟩⟩
def spIsAddress (K : PySem.W.Frag) : Sp := fun vs H Q _ => ∃ (su : Addr) (v : V), vs = [.ref su, v] ∧ ∃ p n t m d, SU K H su p n t m ∧ Im K H d v ∧ pl d = true ∧ ∀ H' b, Same H H' → (b = true ↔ isAddr n t m d) → Q (.bl b) H'
end K1
end
section
open PySem PySem.Spec PyProof.Rows L2 Z
local macro_rules | `(tactic| ktr_room) => `(tactic| first
  | assumption
  | (apply SqT.of; assumption)
  | (apply SqL.of; assumption)
  | (apply sqt_same; assumption; ktr_room)
  | (apply sql_same; assumption; ktr_room)
  | (apply sqt_but; assumption; assumption; ktr_room)
  | (apply sql_but; assumption; assumption; ktr_room)
  | (apply Same.of_; assumption; ktr_room)
  | (apply But.of_; assumption; assumption; ktr_room)
  | exact same_refl
  | exact but_refl
  | (apply same_tr; assumption; ktr_room)
  | (apply same_but; assumption; ktr_room; assumption)
  | (apply but_tr; assumption; ktr_room)
  | (apply but_trB; assumption; ktr_room))
local macro_rules | `(tactic| ktr_units) => `(tactic| first | with_reducible assumption | omega | rfl | exact ⟨by omega, by omega⟩ | exact .inl ⟨by omega, by omega⟩ | exact .inr ⟨by omega, by omega⟩ | exact ⟨by decide, by decide, by decide⟩ | exact Nat.le_of_ble_eq_true rfl | decide)
local macro_rules | `(tactic| kc_close) => `(tactic| repeat (with_reducible first
  | refine s_var (by with_unfolding_all rfl) ?_
  | refine s_c ?_
  | refine s_op ?_
  | refine s_rI0 ?_
  | refine s_asg ?_
  | refine s_gname ?_
  | refine s_seq ?_
  | refine s_cons ?_
  | refine s_nil ?_
  | refine s_call ?_
  | refine s_ret ?_
  | o_fieldsN
  | refine s_test ?_
  | refine s_bl ?_
  | refine s_rI (by with_unfolding_all (ktr_units)) ?_
  | refine s_rEq rfl ?_
  | refine s_rNe rfl ?_
  | refine s_cb ?_
  | refine s_int1 ?_
  | refine s_intB ?_
  | refine s_max2 ?_
  | refine s_min2 ?_
  | refine s_tup ?_
  | refine s_lst ?_
  | refine s_newT (by with_unfolding_all first | decide | exact Nat.le_of_ble_eq_true rfl) ?_
  | refine s_newL (by with_unfolding_all first | decide | exact Nat.le_of_ble_eq_true rfl) ?_
  | refine s_ixT (by ktr_room) (by with_unfolding_all rfl) ?_
  | refine s_ixL (by ktr_room) (by with_unfolding_all rfl) ?_
  | refine s_lenT (by ktr_room) ?_
  | refine s_lenL (by ktr_room) ?_
  | refine s_un ?_
  | refine s_rU ?_
  | refine s_and ?_
  | refine s_or ?_
  | refine s_not ?_
  | refine s_tB ?_
  | refine s_tru ?_
  | refine s_drop ?_
  | refine s_next ?_
  | refine s_for ?_
  | refine s_rng1 ?_
  | refine s_rng2 ?_
  | refine s_rng3 ?_
  | refine s_ilist ?_
  | refine s_itup ?_
  | refine s_iany ?_
  | refine s_ienum ?_
  | refine s_irev ?_
  | refine s_gcons ?_
  | refine s_gnil ?_
  | refine s_gtup (by ktr_room) (by with_unfolding_all rfl) ?_
  | refine s_gsub ?_
  | refine s_augS ?_
  | refine s_aug (by with_unfolding_all rfl) ?_
  | refine s_ipI ?_
  | refine s_bm ?_
  | refine s_bm0 ?_
  | refine s_tyL (by ktr_room) ?_
  | refine s_tyL0 (by ktr_room) ?_
  | refine s_sl ?_
  | refine s_part ?_
  | refine s_partv ?_
  | refine s_noPart ?_
  | refine s_lc ?_
  | refine s_yes ?_
  | refine s_wipe (by with_unfolding_all rfl) ?_
  | refine iteT ?_
  | refine s_retN ?_
  | refine s_isN ?_
  | refine s_truB ?_
  | refine s_isB2 ?_
  | refine s_notB2 ?_
  | refine s_revT ?_
  | refine s_andV ?_
  | refine s_orV ?_
  | refine s_ifE ?_
  | refine s_notK ?_
  | refine s_notN ?_
  | refine s_truL (by ktr_room) ?_
  | refine s_truT (by ktr_room) ?_))
open K1
local macro_rules | `(tactic| ktr_room) => `(tactic| first
  | (apply DR.same; assumption; ktr_room)
  | (apply sqt_butD; assumption; ktr_room; ktr_room))
namespace K1
section
variable {P : Program} {w : World} {K : PySem.W.Frag} {mg : Str → Option Value} {base : Heap}
def spIsPart (K : PySem.W.Frag) : Sp := fun vs H Q _ => ∃ (su : Addr) (wd : Str) (v : V), vs = [.ref su, .str wd, v] ∧ ∃ p n t m d, SU K H su p n t m ∧ (wd = "party" ∨ wd = "board" ∨ wd = "index" ∨ wd = "place") ∧ Im K H d v ∧ pl d = true ∧ Q (.bl (partB n t m wd d)) H
theorem ok__is_part (h : Has K mg "_is_part" (topS 9) ["setup", "word", "part"]) (G_is_between : Good P w K mg base 2 "is_between" ["value", "low", "high"] (spIsBetween K)) : Good P w K mg base 3 "_is_part" ["setup", "word", "part"] (spIsPart K) := by
  have sc : FnScope ["setup", "word", "part", "_", "n", "t", "m"] ["setup", "word", "part"] (defScope (topS 9)) := ⟨rfl, rfl, rfl, by decide +kernel, rfl, by decide +kernel, by decide +kernel⟩
  have nd := sc.nd
  refine h.good sc (fun vs H Q E h => by obtain ⟨su, wd, v, rfl, _⟩ := h; rfl) (fun f cdv A outer s H vs Q E hr h => ?_)
  obtain ⟨su, wd, v, rfl, hyp⟩ := h
  refine ⟨_, (pss_cons (ps_asg (pv 0) (pg_tupK K 4 (by rfl) (pgs_cons (pg_name (i := 3) nd rfl (by first | exact .inl rfl | exact .inr rfl)) (pgs_cons (pg_name (i := 4) nd rfl (by first | exact .inl rfl | exact .inr rfl)) (pgs_cons (pg_name (i := 5) nd rfl (by first | exact .inl rfl | exact .inr rfl)) (pgs_cons (pg_name (i := 6) nd rfl (by first | exact .inl rfl | exact .inr rfl)) pgs_nil))))))
  (pss_cons (ps_if (pt_cmpR op_eq (pv 1) pe_str (nomark _))
  (pss_one (ps_ret (pe_callG G_is_between (hr.mono (by first | decide | omega)) (by rfl) (pa_cons (pv 2) (pa_cons pe_int (pa_cons (pv 4) pa_nil)))))) pss_nil)
  (pss_cons (ps_if (pt_cmpR op_eq (pv 1) pe_str (nomark _))
  (pss_one (ps_ret (pe_callG G_is_between (hr.mono (by first | decide | omega)) (by rfl) (pa_cons (pv 2) (pa_cons pe_int (pa_cons pe_int pa_nil)))))) pss_nil)
  (pss_cons (ps_if (pt_cmpR op_eq (pv 1) pe_str (nomark _))
  (pss_one (ps_ret (pe_callG G_is_between (hr.mono (by first | decide | omega)) (by rfl) (pa_cons (pv 2) (pa_cons pe_int (pa_cons (pe_op op_sub (pv 6) pe_int) pa_nil)))))) pss_nil)
  (pss_one (ps_ret (pe_callG G_is_between (hr.mono (by first | decide | omega)) (by rfl) (pa_cons (pv 2) (pa_cons pe_int (pa_cons (pv 5) pa_nil)))))))))), ?_⟩
  try dsimp only [cxOf, Cx.wish]
  obtain ⟨p, n, t, m, d, hs, hw, hd, pd, q⟩ := hyp
  refine s_seq ?_
  refine s_cut (fun σ' H' => σ' = [some (.ref su), some (.str wd), some v, some (.int p), some (.int n), some (.int t), some (.int m)] ∧ H' = H) (fun N hN => ?_) ?_
  · kc_close
    exact hN _ _ ⟨rfl, rfl⟩
  rintro _ H ⟨rfl, rfl⟩
  rcases hw with rfl | rfl | rfl | rfl
  · kc_close
    refine s_if ?_
    kc_close
    refine ifTrue (by decide +kernel) ?_
    kc_close
    refine ⟨v, 1, n, rfl, d, hd, pd, ?_⟩
    rw [pt_party] at q
    exact q
  · kc_close
    refine s_if ?_
    kc_close
    refine ifFalse (by decide +kernel) ?_
    kc_close
    refine s_if ?_
    kc_close
    refine ifTrue (by decide +kernel) ?_
    kc_close
    refine ⟨v, 0, 0, rfl, d, hd, pd, ?_⟩
    rw [pt_board] at q
    exact q
  · kc_close
    refine s_if ?_
    kc_close
    refine ifFalse (by decide +kernel) ?_
    kc_close
    refine s_if ?_
    kc_close
    refine ifFalse (by decide +kernel) ?_
    kc_close
    refine s_if ?_
    kc_close
    refine ifTrue (by decide +kernel) ?_
    kc_close
    refine ⟨v, 0, m - 1, rfl, d, hd, pd, ?_⟩
    rw [pt_index] at q
    exact q
  · kc_close
    refine s_if ?_
    kc_close
    refine ifFalse (by decide +kernel) ?_
    kc_close
    refine s_if ?_
    kc_close
    refine ifFalse (by decide +kernel) ?_
    kc_close
    refine s_if ?_
    kc_close
    refine ifFalse (by decide +kernel) ?_
    kc_close
    refine ⟨v, 0, t, rfl, d, hd, pd, ?_⟩
    rw [pt_place] at q
    exact q
theorem forms_at {st : Int} (W : Gs K mg) (h1 : 1 ≤ st) (h8 : st ≤ 8) : ∃ rows b, WInt K (refAt mg "FORMS") rows ∧ rows.lookup st = some b ∧ WTup K b ((formS st).map V.str) ∧ 3 ≤ (formS st).length ∧ (formS st).length ≤ 5 ∧ ∀ x ∈ formS st, x = "party" ∨ x = "board" ∨ x = "index" ∨ x = "place" := by
  obtain ⟨b0, b1, b2, b3, b4, b5, b6, b7, hW, t0, t1, t2, t3, t4, t5, t6, t7⟩ := W.w_FORMS
  rcases (show st = 1 ∨ st = 2 ∨ st = 3 ∨ st = 4 ∨ st = 5 ∨ st = 6 ∨ st = 7 ∨ st = 8 by omega) with rfl | rfl | rfl | rfl | rfl | rfl | rfl | rfl
  · exact ⟨_, b0, hW, rfl, t0, by decide, by decide, by decide +kernel⟩
  · exact ⟨_, b1, hW, rfl, t1, by decide, by decide, by decide +kernel⟩
  · exact ⟨_, b2, hW, rfl, t2, by decide, by decide, by decide +kernel⟩
  · exact ⟨_, b3, hW, rfl, t3, by decide, by decide, by decide +kernel⟩
  · exact ⟨_, b4, hW, rfl, t4, by decide, by decide, by decide +kernel⟩
  · exact ⟨_, b5, hW, rfl, t5, by decide, by decide, by decide +kernel⟩
  · exact ⟨_, b6, hW, rfl, t6, by decide, by decide, by decide +kernel⟩
  · exact ⟨_, b7, hW, rfl, t7, by decide, by decide, by decide +kernel⟩
theorem diff_at {st : Int} (W : Gs K mg) (h1 : 1 ≤ st) (h8 : st ≤ 8) : ∃ rows, WInt K (refAt mg "DIFFERENT") rows ∧ ((rows.lookup st = none ∧ diffS st = none) ∨ ∃ b f s, rows.lookup st = some b ∧ diffS st = some (f, s) ∧ WTup K b [.int (f : Int), .int (s : Int)] ∧ f < (formS st).length + 1 ∧ s < (formS st).length + 1) := by
  obtain ⟨b0, b1, b2, b3, hW, t0, t1, t2, t3⟩ := W.w_DIFFERENT
  rcases (show st = 1 ∨ st = 2 ∨ st = 3 ∨ st = 4 ∨ st = 5 ∨ st = 6 ∨ st = 7 ∨ st = 8 by omega) with rfl | rfl | rfl | rfl | rfl | rfl | rfl | rfl
  · exact ⟨_, hW, .inr ⟨b0, 1, 2, rfl, rfl, t0, by decide, by decide⟩⟩
  · exact ⟨_, hW, .inr ⟨b1, 1, 2, rfl, rfl, t1, by decide, by decide⟩⟩
  · exact ⟨_, hW, .inr ⟨b2, 1, 4, rfl, rfl, t2, by decide, by decide⟩⟩
  · exact ⟨_, hW, .inr ⟨b3, 3, 4, rfl, rfl, t3, by decide, by decide⟩⟩
  · exact ⟨_, hW, .inl ⟨rfl, rfl⟩⟩
  · exact ⟨_, hW, .inl ⟨rfl, rfl⟩⟩
  · exact ⟨_, hW, .inl ⟨rfl, rfl⟩⟩
  · exact ⟨_, hW, .inl ⟨rfl, rfl⟩⟩
theorem parts_int {n t m : Int} : ∀ {ws : List Str} {ds : List PyData}, partsB n t m ws ds = true → ∀ d ∈ ds, ∃ i, d = .int i
  | [], [], _, d, hm => by cases hm
  | x :: xs, e :: ds, h, d, hm => by
    have h' : (partB n t m x e && partsB n t m xs ds) = true := h
    rw [Bool.and_eq_true] at h'
    rcases List.mem_cons.mp hm with hm | hm
    · subst hm
      have h1 := h'.1
      unfold partB at h1
      split at h1
      · obtain ⟨i, e, _⟩ := whole_int h1; exact ⟨i, e⟩
      · split at h1
        · obtain ⟨i, e, _⟩ := whole_int h1; exact ⟨i, e⟩
        · split at h1
          · obtain ⟨i, e, _⟩ := whole_int h1; exact ⟨i, e⟩
          · obtain ⟨i, e, _⟩ := whole_int h1; exact ⟨i, e⟩
    · exact parts_int h'.2 d hm
  | [], _ :: _, h, _, _ => by cases h
  | _ :: _, [], h, _, _ => by cases h
theorem addr_head {n t m : Int} {d : PyData} (h : isAddr n t m d) : ∃ st r, d = .tuple (.int st :: r) ∧ 1 ≤ st ∧ st ≤ 8 ∧ r.length = (formS st).length := by
  obtain ⟨st, sd, xs, rfl, h⟩ := h
  cases h <;> exact ⟨_, _, rfl, by decide, by decide, rfl⟩
theorem ok_is_address (T : NoB mg) (W : Gs K mg) (h : Has K mg "is_address" (topS 8) ["setup", "value"]) (G_is_between : Good P w K mg base 2 "is_between" ["value", "low", "high"] (spIsBetween K)) (G_is_tuple : Good P w K mg base 1 "is_tuple" ["value", "least", "most"] (spIsTuple K)) (G__is_part : Good P w K mg base 3 "_is_part" ["setup", "word", "part"] (spIsPart K)) : Good P w K mg base 4 "is_address" ["setup", "value"] (spIsAddress K) := by
  have sc : FnScope ["setup", "value", "form", "first", "second", "word", "part"] ["setup", "value"] (defScope (topS 8)) := ⟨rfl, rfl, rfl, by decide +kernel, rfl, by decide +kernel, by decide +kernel⟩
  have nd := sc.nd
  refine h.good sc (fun vs H Q E h => by obtain ⟨su, v, rfl, _⟩ := h; rfl) (fun f cdv A outer s H vs Q E hr h => ?_)
  obtain ⟨su, v, rfl, hyp⟩ := h
  refine ⟨_, (pss_cons (ps_if (PW.pt (pw_or (pt_not (pt_val (pe_callG G_is_tuple (hr.mono (by first | decide | omega)) (by rfl) (pa_cons (pv 1) (pa_cons pe_int (pa_cons pe_int pa_nil)))))) (pw_or1 (pt_not (pt_val (pe_callG G_is_between (hr.mono (by first | decide | omega)) (by rfl) (pa_cons (pe_ix (ix_tupK K) (pv 1) pe_int (fun _ _ => rfl)) (pa_cons pe_int (pa_cons pe_int pa_nil)))))))))
  (pss_one (ps_ret pe_bl)) pss_nil)
  (pss_cons (ps_set (i := 2) nd rfl (by first | exact .inl rfl | exact .inr rfl) (pe_ix (ix_wintK K) (pe_globE (by rfl) W.g_FORMS) (pe_ix (ix_tupK K) (pv 1) pe_int (fun _ _ => rfl)) (fun _ _ => rfl)))
  (pss_cons (ps_if (pt_cmpR op_ne (pe_callB (c_lenK K) (by rfl) T.n_len (by decide +kernel) (pa_cons (pv 1) pa_nil)) (pe_op op_add (pe_callB (c_lenK K) (by rfl) T.n_len (by decide +kernel) (pa_cons (pv 2) pa_nil)) pe_int) (nomark _))
  (pss_one (ps_ret pe_bl)) pss_nil)
  (pss_cons (ps_if (pt_not (pt_val (pe_callB (cr_allK K rfl) (by rfl) T.n_all (by decide +kernel) (pa_cons (pe_lc (own := [("word", 5), ("part", 6)]) rfl nd (pi_zipAK K (by rfl) T.n_zip (pa_cons (pv 2) (pa_cons (pe_slice (sl_tupK K) (pv 1) (po_some pe_int) po_none) pa_nil))) (blkOk_by (own := [("word", 5), ("part", 6)]) (N := ["setup", "value", "form", "first", "second", "word", "part"]) (by kernel_rfl)) (fun _ _ _ _ _ => (pg_tupK K 2 (by rfl) (pgs_cons (pg_name (i := 5) nd rfl (by first | exact .inl rfl | exact .inr rfl)) (pgs_cons (pg_name (i := 6) nd rfl (by first | exact .inl rfl | exact .inr rfl)) pgs_nil)))) (fun _ _ _ _ _ => pts_nil) (fun _ _ _ _ _ => (pe_callG G__is_part (hr.mono (by first | decide | omega)) (by rfl) (pa_cons (pv 0) (pa_cons (pv 5) (pa_cons (pv 6) pa_nil)))))) pa_nil))))
  (pss_one (ps_ret pe_bl)) pss_nil)
  (pss_cons (ps_if (pt_cmpR (op_ninWK K) (pe_ix (ix_tupK K) (pv 1) pe_int (fun _ _ => rfl)) (pe_globE (by rfl) W.g_DIFFERENT) (by rfl))
  (pss_one (ps_ret pe_bl)) pss_nil)
  (pss_cons (ps_asg (pe_ix (ix_wintK K) (pe_globE (by rfl) W.g_DIFFERENT) (pe_ix (ix_tupK K) (pv 1) pe_int (fun _ _ => rfl)) (fun _ _ => rfl)) (pg_tupK K 2 (by rfl) (pgs_cons (pg_name (i := 3) nd rfl (by first | exact .inl rfl | exact .inr rfl)) (pgs_cons (pg_name (i := 4) nd rfl (by first | exact .inl rfl | exact .inr rfl)) pgs_nil))))
  (pss_one (ps_ret (pe_cmpR op_ne (pe_ix (ix_tupK K) (pv 1) (pv 3) (fun _ _ => rfl)) (pe_ix (ix_tupK K) (pv 1) (pv 4) (fun _ _ => rfl)) (nomark _)))))))))), ?_⟩
  try dsimp only [cxOf, Cx.wish]
  obtain ⟨p, n, t, m, d, hs, hd, pd, q⟩ := hyp
  have no : ∀ H', Same H H' → ¬ isAddr n t m d → Q (.bl false) H' := fun H' s h => q H' false s ⟨fun z => (by cases z), fun z => absurd z h⟩
  refine s_seq ?_
  refine s_cut (fun σ' H' => σ' = [some (.ref su), some v, none, none, none, none, none] ∧ H' = H ∧ ∃ (st : Int) (r : List PyData), d = .tuple (.int st :: r) ∧ 1 ≤ st ∧ st ≤ 8 ∧ 3 ≤ r.length ∧ r.length ≤ 5) (fun N hN => ?_) ?_
  · refine s_if ?_
    kc_close
    refine ⟨v, 4, 6, rfl, d, hd, pd, ?_⟩
    kc_close
    cases ht : tupB d 4 6 with
    | false =>
      refine iteT ?_
      refine iteT ?_
      kc_close
      refine no H (Same.refl _) fun z => ?_
      obtain ⟨st, r, rfl, h1, h8, hl⟩ := addr_head z
      have : 3 ≤ (formS st).length ∧ (formS st).length ≤ 5 := by
        rcases (show st = 1 ∨ st = 2 ∨ st = 3 ∨ st = 4 ∨ st = 5 ∨ st = 6 ∨ st = 7 ∨ st = 8 by omega) with rfl | rfl | rfl | rfl | rfl | rfl | rfl | rfl <;> decide
      rw [tupB_of (by rw [List.length_cons]; omega) (by rw [List.length_cons]; omega)] at ht
      cases ht
    | true =>
      obtain ⟨ds, rfl, l0, l1⟩ := tup_of ht
      obtain ⟨a, vs, rfl, hv, his⟩ := hd
      have pds : pls ds = true := pd
      refine iteF ?_
      kc_close
      match ds, vs, his, pds, hv, no, hN, q, l0, l1 with
      | [], vs, his, pds, hv, no, hN, q, l0, l1 => exact absurd l0 (by decide)
      | d0 :: r, vs, his, pds, hv, no, hN, q, l0, l1 =>
        obtain ⟨v0, vs1, rfl, h0, hr⟩ := his
        have p0 : pl d0 = true := pls_mem.mp pds d0 (List.mem_cons_self ..)
        refine s_ixT hv (at_of (j := 0) rfl rfl) ?_
        kc_close
        refine ⟨v0, 1, 8, rfl, d0, h0, p0, ?_⟩
        kc_close
        cases w0 : wholeB d0 1 8 with
        | false =>
          refine iteT ?_
          kc_close
          refine no H (Same.refl _) fun z => ?_
          obtain ⟨st, r', e, h1, h8, hl⟩ := addr_head z
          injection e with e
          injection e with e1 e2
          rw [e1, whole_of h1 h8] at w0
          cases w0
        | true =>
          obtain ⟨st, rfl, st1, st8⟩ := whole_int w0
          refine iteF ?_
          kc_close
          rw [List.length_cons] at l0 l1
          exact hN _ _ ⟨rfl, rfl, st, r, rfl, st1, st8, by omega, by omega⟩
  rintro _ H ⟨rfl, rfl, st, r, rfl, st1, st8, r3, r5⟩
  obtain ⟨a, vs, rfl, hv, his⟩ := hd
  have lvs := Ims.length his
  have pds : pls (.int st :: r) = true := pd
  obtain ⟨_, vr, rfl, rfl, hir⟩ := his
  have lvr := Ims.length hir
  obtain ⟨rows, b, hW, hl, hT, f3, f5, fw⟩ := forms_at W st1 st8
  obtain ⟨rows2, hW2, hD⟩ := diff_at W st1 st8
  -- the form
  refine s_seq ?_
  refine s_cut (fun σ' H' => σ' = [some (.ref su), some (.ref a), some (.ref b), none, none, none, none] ∧ H' = H) (fun N hN => ?_) ?_
  · kc_close
    refine s_ixT hv (at_of (j := 0) rfl rfl) ?_
    kc_close
    refine s_ixW hW hl ?_
    kc_close
    exact hN _ _ ⟨rfl, rfl⟩
  rintro _ H ⟨rfl, rfl⟩
  have hf := hT.sq (H := H)
  refine s_seq ?_
  refine s_cut (fun σ' H' => σ' = [some (.ref su), some (.ref a), some (.ref b), none, none, none, none] ∧ H' = H ∧ r.length = (formS st).length) (fun N hN => ?_) ?_
  · refine s_if ?_
    kc_close
    rw [lvs, List.length_map]
    refine ifN (fun h => ?_) (fun h => ?_)
    · kc_close
      refine no H (Same.refl _) fun z => ?_
      obtain ⟨st', r', e, h1, h8, hl⟩ := addr_head z
      injection e with e
      injection e with e1 e2
      injection e1 with e1
      subst e1 e2
      rw [List.length_cons] at h
      exact h (by omega)
    · kc_close
      rw [List.length_cons] at h
      exact hN _ _ ⟨rfl, rfl, by omega⟩
  rintro _ H ⟨rfl, rfl, hlen⟩
  have key := addr_read (n := n) (t := t) (m := m) (r := r) st1 st8 hlen
  -- the parts
  refine s_seq ?_
  refine s_cut (fun σ' H' => σ' = [some (.ref su), some (.ref a), some (.ref b), none, none, none, none] ∧ Same H H' ∧ partsB n t m (formS st) r = true) (fun N hN => ?_) ?_
  · refine s_if ?_
    kc_close
    refine s_izip ?_
    kc_close
    refine s_slT hv fun q1 H1 s1 hq1 => ?_
    rw [show cutV (V.int st :: vr) (some 1) none = vr from cut_fromZ _ 1] at hq1
    kc_close
    have hs1 := sqt_same s1 hs
    have hir1 := ims_same s1 hir
    refine s_zipTT hT.sq hq1 ?_
    refine l_mapZT (fun i => V.bl (partB n t m ((formS st).getD i "") (r.getD i .none))) (by rw [List.length_map]; omega) hT.sq hq1 (by rw [List.length_map]; omega) ?_ ?_
    · intro D N' i x y T' H' ex ey s' eT k'
      obtain ⟨e1, ee, he⟩ := Ims.get hir1 ey
      have pe : pl e1 = true := pls_mem.mp pds e1 (List.mem_cons_of_mem _ (List.mem_of_getElem? ee))
      rw [List.getElem?_map] at ex
      cases hx : (formS st)[i]? with
      | none => rw [hx] at ex; cases ex
      | some wd =>
        rw [hx] at ex
        have : x = V.str wd := by injection ex with ex; exact ex.symm
        subst this
        kc_close
        refine ⟨su, wd, y, rfl, p, n, t, m, e1, sqt_same s' hs1, fw wd (List.mem_of_getElem? hx), Im.tk (TK.same s') _ _ he, pe, ?_⟩
        have := k' _ (Same.refl _)
        rw [List.getD_eq_getElem?_getD, List.getD_eq_getElem?_getD, ee, hx] at this
        exact this
    intro B H2 nB s2 eB
    rw [List.length_map] at eB
    have eB2 : H2 B = some (.lst (((List.range (formS st).length).map fun i => partB n t m ((formS st).getD i "") (r.getD i .none)).map V.bl)) := by
      rw [eB, List.map_map]
      rfl
    kc_close
    refine s_all (SqL.of eB2) ?_
    rw [← parts_list _ _ hlen.symm]
    kc_close
    cases hb : partsB n t m (formS st) r with
    | false =>
      refine iteT ?_
      kc_close
      refine no H2 (s1.trans s2) fun z => ?_
      have := (key.mp z).1
      rw [hb] at this
      cases this
    | true =>
      refine iteF ?_
      kc_close
      exact hN _ _ ⟨rfl, s1.trans s2, hb⟩
  rintro _ H1 ⟨rfl, s1, hparts⟩
  have hv1 := sqt_same s1 hv
  rw [hparts] at key
  rcases hD with ⟨hl2, hd2⟩ | ⟨b2, f, s, hl2, hd2, hT2, lf, ls⟩
  · refine s_seq ?_
    refine s_if ?_
    kc_close
    refine s_ixT hv1 (at_of (j := 0) rfl rfl) ?_
    kc_close
    refine s_ninW hW2 ?_
    rw [hl2]
    kc_close
    refine q H1 true s1 ⟨fun _ => key.mpr ⟨rfl, fun f s z => ?_⟩, fun _ => rfl⟩
    rw [hd2] at z
    cases z
  · refine s_seq ?_
    refine s_if ?_
    kc_close
    refine s_ixT hv1 (at_of (j := 0) rfl rfl) ?_
    kc_close
    refine s_ninW hW2 ?_
    rw [hl2]
    kc_close
    refine iteF ?_
    kc_close
    refine s_ixT hv1 (at_of (j := 0) rfl rfl) ?_
    kc_close
    refine s_ixW hW2 hl2 ?_
    have hf2 := hT2.sq (H := H1)
    kc_close
    rw [List.length_cons] at lvs
    have at_ : ∀ j, j < (formS st).length + 1 → ∃ i : Int, (V.int st :: vr)[j]? = some (V.int i) ∧ (PyData.int st :: r)[j]? = some (.int i) := by
      intro j hj
      cases j with
      | zero => exact ⟨st, rfl, rfl⟩
      | succ j =>
        have hj' : j < r.length := by omega
        have er : r[j]? = some r[j] := List.getElem?_eq_getElem hj'
        obtain ⟨i, ei⟩ := parts_int hparts _ (List.mem_of_getElem? er)
        rw [ei] at er
        obtain ⟨v, ev, hv⟩ := Ims.at hir er
        exact ⟨i, by rw [show v = V.int i from hv] at ev; exact ev, er⟩
    obtain ⟨x, ex, dx⟩ := at_ f lf
    obtain ⟨y, ey, dy⟩ := at_ s ls
    refine s_ixT hv1 (at_of (j := f) (by omega) ex) ?_
    kc_close
    refine s_ixT hv1 (at_of (j := s) (by omega) ey) ?_
    kc_close
    refine q H1 _ s1 (dec_ne_iff ⟨fun z => key.mpr ⟨rfl, fun f' s' z' => ?_⟩, fun z => ?_⟩)
    · rw [hd2] at z'
      injection z' with z'
      injection z' with z1 z2
      subst z1 z2
      rw [dx, dy]
      intro e
      injection e with e
      injection e with e
      exact z e
    · have := (key.mp z).2 f s hd2
      rw [dx, dy] at this
      exact fun e => this (by rw [e])
end
end K1
end
section
open PySem PySem.Spec PyProof.Rows L2 Z
local macro_rules | `(tactic| ktr_room) => `(tactic| first
  | assumption
  | (apply SqT.of; assumption)
  | (apply SqL.of; assumption)
  | (apply sqt_same; assumption; ktr_room)
  | (apply sql_same; assumption; ktr_room)
  | (apply sqt_but; assumption; assumption; ktr_room)
  | (apply sql_but; assumption; assumption; ktr_room)
  | (apply Same.of_; assumption; ktr_room)
  | (apply But.of_; assumption; assumption; ktr_room)
  | exact same_refl
  | exact but_refl
  | (apply same_tr; assumption; ktr_room)
  | (apply same_but; assumption; ktr_room; assumption)
  | (apply but_tr; assumption; ktr_room)
  | (apply but_trB; assumption; ktr_room))
local macro_rules | `(tactic| ktr_units) => `(tactic| first | with_reducible assumption | omega | rfl | exact ⟨by omega, by omega⟩ | exact .inl ⟨by omega, by omega⟩ | exact .inr ⟨by omega, by omega⟩ | exact ⟨by decide, by decide, by decide⟩ | exact Nat.le_of_ble_eq_true rfl | decide)
local macro_rules | `(tactic| kc_close) => `(tactic| repeat (with_reducible first
  | refine s_var (by with_unfolding_all rfl) ?_
  | refine s_c ?_
  | refine s_op ?_
  | refine s_rI0 ?_
  | refine s_asg ?_
  | refine s_gname ?_
  | refine s_seq ?_
  | refine s_cons ?_
  | refine s_nil ?_
  | refine s_call ?_
  | refine s_ret ?_
  | o_fieldsN
  | refine s_test ?_
  | refine s_bl ?_
  | refine s_rI (by with_unfolding_all (ktr_units)) ?_
  | refine s_rEq rfl ?_
  | refine s_rNe rfl ?_
  | refine s_cb ?_
  | refine s_int1 ?_
  | refine s_intB ?_
  | refine s_max2 ?_
  | refine s_min2 ?_
  | refine s_tup ?_
  | refine s_lst ?_
  | refine s_newT (by with_unfolding_all first | decide | exact Nat.le_of_ble_eq_true rfl) ?_
  | refine s_newL (by with_unfolding_all first | decide | exact Nat.le_of_ble_eq_true rfl) ?_
  | refine s_ixT (by ktr_room) (by with_unfolding_all rfl) ?_
  | refine s_ixL (by ktr_room) (by with_unfolding_all rfl) ?_
  | refine s_lenT (by ktr_room) ?_
  | refine s_lenL (by ktr_room) ?_
  | refine s_un ?_
  | refine s_rU ?_
  | refine s_and ?_
  | refine s_or ?_
  | refine s_not ?_
  | refine s_tB ?_
  | refine s_tru ?_
  | refine s_drop ?_
  | refine s_next ?_
  | refine s_for ?_
  | refine s_rng1 ?_
  | refine s_rng2 ?_
  | refine s_rng3 ?_
  | refine s_ilist ?_
  | refine s_itup ?_
  | refine s_iany ?_
  | refine s_ienum ?_
  | refine s_irev ?_
  | refine s_gcons ?_
  | refine s_gnil ?_
  | refine s_gtup (by ktr_room) (by with_unfolding_all rfl) ?_
  | refine s_gsub ?_
  | refine s_augS ?_
  | refine s_aug (by with_unfolding_all rfl) ?_
  | refine s_ipI ?_
  | refine s_bm ?_
  | refine s_bm0 ?_
  | refine s_tyL (by ktr_room) ?_
  | refine s_tyL0 (by ktr_room) ?_
  | refine s_sl ?_
  | refine s_part ?_
  | refine s_partv ?_
  | refine s_noPart ?_
  | refine s_lc ?_
  | refine s_yes ?_
  | refine s_wipe (by with_unfolding_all rfl) ?_
  | refine iteT ?_
  | refine s_retN ?_
  | refine s_isN ?_
  | refine s_truB ?_
  | refine s_isB2 ?_
  | refine s_notB2 ?_
  | refine s_revT ?_
  | refine s_andV ?_
  | refine s_orV ?_
  | refine s_ifE ?_
  | refine s_notK ?_
  | refine s_notN ?_
  | refine s_truL (by ktr_room) ?_
  | refine s_truT (by ktr_room) ?_))
open K1
local macro_rules | `(tactic| ktr_room) => `(tactic| first
  | (apply DR.same; assumption; ktr_room)
  | (apply sqt_butD; assumption; ktr_room; ktr_room))
namespace K1
section
variable {P : Program} {w : World} {K : PySem.W.Frag} {mg : Str → Option Value} {base : Heap}
/-! changes, rules, foes, scripts -/
def ChgQ (p n t m : Int) (d : PyData) : Prop := ChgP p n t m d
def spIsChange (K : PySem.W.Frag) : Sp := fun vs H Q _ => ∃ (su : Addr) (v : V), vs = [.ref su, v] ∧ ∃ p n t m d, SU K H su p n t m ∧ Im K H d v ∧ pl d = true ∧ ∀ H' b, Same H H' → (b = true ↔ ChgP p n t m d) → Q (.bl b) H'
theorem depth_str (x : Str) : (PyData.str x).depth = 0 := rfl
theorem eqv_str {d : PyData} {x : Str} (hp : pl d = true) (hx : strS x = true) : (PyData.eqv d (.str x) = true ↔ d = .str x) := eqv_iff d (.str x) (pl_noB d hp) rfl
theorem s_eqStr {K : PySem.W.Frag} {H : Hp} {Q : VK} {d : PyData} {v : V} {x : Str} (hd : Im K H d v) (pd : pl d = true) (hx : strS x = true) (h : Q (.bl (PyData.eqv d (.str x))) H) : rEqM K v (.str x) H Q :=
  ⟨d, .str x, Im.dp d v hd, .str x, pl_lay d pd, pl_lay (.str x) hx, by show min d.depth 0 ≤ 64; omega, h⟩
theorem chg_len {p n t m : Int} {d : PyData} (h : ChgP p n t m d) : ∃ x r, d = .tuple (.str x :: r) ∧ ((x = "drop" ∧ r = []) ∨ ∃ e, r = [e] ∧ (((x = "is" ∨ x = "add") ∧ wholeB e 0 (p - 1) = true) ∨ (x = "copy" ∧ isAddr n t m e))) := by
  obtain ⟨c, rfl, k⟩ := h
  cases c with
  | is v => exact ⟨_, _, rfl, .inr ⟨_, rfl, .inl ⟨.inl rfl, whole_of k.1 (by have := k.2; omega)⟩⟩⟩
  | add v => exact ⟨_, _, rfl, .inr ⟨_, rfl, .inl ⟨.inr rfl, whole_of k.1 (by have := k.2; omega)⟩⟩⟩
  | drop => exact ⟨_, _, rfl, .inl ⟨rfl, rfl⟩⟩
  | copy x =>
    obtain ⟨s, i, k⟩ := k
    exact ⟨_, _, rfl, .inr ⟨_, rfl, .inr ⟨rfl, s, i, x, rfl, k⟩⟩⟩
theorem im_one {K : PySem.W.Frag} {H : Hp} {a : Addr} {vs : List V} {d : PyData} (hv : SqT K H a vs) (h : Ims K H [d] vs) : ∃ v, vs = [v] ∧ Im K H d v := by
  obtain ⟨v, r, rfl, hd, rfl⟩ := h
  exact ⟨v, rfl, hd⟩
theorem ok__is_change (h : Has K mg "_is_change" (topS 15) ["setup", "value"]) (G_is_tuple : Good P w K mg base 1 "is_tuple" ["value", "least", "most"] (spIsTuple K)) (G_is_address : Good P w K mg base 4 "is_address" ["setup", "value"] (spIsAddress K)) (G_is_between : Good P w K mg base 2 "is_between" ["value", "low", "high"] (spIsBetween K)) : Good P w K mg base 5 "_is_change" ["setup", "value"] (spIsChange K) := by
  have sc : FnScope ["setup", "value", "word", "told"] ["setup", "value"] (defScope (topS 15)) := ⟨rfl, rfl, rfl, by decide +kernel, rfl, by decide +kernel, by decide +kernel⟩
  have nd := sc.nd
  refine h.good sc (fun vs H Q E h => by obtain ⟨su, v, rfl, _⟩ := h; rfl) (fun f cdv A outer s H vs Q E hr h => ?_)
  obtain ⟨su, v, rfl, hyp⟩ := h
  refine ⟨_, (pss_cons (ps_if (pt_val (pe_callG G_is_tuple (hr.mono (by first | decide | omega)) (by rfl) (pa_cons (pv 1) (pa_cons pe_int (pa_cons pe_int pa_nil)))))
  (pss_one (ps_ret (pe_cmpR (op_eqMK K hr.units) (pe_ix (ix_tupK K) (pv 1) pe_int (fun _ _ => rfl)) pe_str (nomark _)))) pss_nil)
  (pss_cons (ps_if (pt_not (pt_val (pe_callG G_is_tuple (hr.mono (by first | decide | omega)) (by rfl) (pa_cons (pv 1) (pa_cons pe_int (pa_cons pe_int pa_nil))))))
  (pss_one (ps_ret pe_bl)) pss_nil)
  (pss_cons (ps_asg (pv 1) (pg_tupK K 2 (by rfl) (pgs_cons (pg_name (i := 2) nd rfl (by first | exact .inl rfl | exact .inr rfl)) (pgs_cons (pg_name (i := 3) nd rfl (by first | exact .inl rfl | exact .inr rfl)) pgs_nil))))
  (pss_cons (ps_if (pt_cmpR (op_eqMK K hr.units) (pv 2) pe_str (nomark _))
  (pss_one (ps_ret (pe_callG G_is_address (hr.mono (by first | decide | omega)) (by rfl) (pa_cons (pv 0) (pa_cons (pv 3) pa_nil))))) pss_nil)
  (pss_one (ps_ret (pe_and (pe_or (pe_cmpR (op_eqMK K hr.units) (pv 2) pe_str (nomark _)) (pe_one (pe_cmpR (op_eqMK K hr.units) (pv 2) pe_str (nomark _)))) (pe_one (pe_callG G_is_between (hr.mono (by first | decide | omega)) (by rfl) (pa_cons (pv 3) (pa_cons pe_int (pa_cons (pe_op op_sub (pe_ix (ix_tupK K) (pv 0) pe_int (fun _ _ => rfl)) pe_int) pa_nil)))))))))))), ?_⟩
  try dsimp only [cxOf, Cx.wish]
  obtain ⟨p, n, t, m, d, hs, hd, pd, q⟩ := hyp
  have no : ∀ H', Same H H' → ¬ ChgP p n t m d → Q (.bl false) H' := fun H' s h => q H' false s ⟨fun z => (by cases z), fun z => absurd z h⟩
  refine s_seq ?_
  refine s_cut (fun σ' H' => σ' = [some (.ref su), some v, none, none] ∧ H' = H ∧ tupB d 1 1 = false) (fun N hN => ?_) ?_
  · refine s_if ?_
    kc_close
    refine ⟨v, 1, 1, rfl, d, hd, pd, ?_⟩
    kc_close
    cases ht : tupB d 1 1 with
    | false =>
      refine iteF ?_
      kc_close
      exact hN _ _ ⟨rfl, rfl, ht⟩
    | true =>
      obtain ⟨ds, rfl, l0, l1⟩ := tup_of ht
      obtain ⟨a, vs, rfl, hv, his⟩ := hd
      match ds, l0, l1, his, pd, q, no with
      | [e], _, _, his, pd, q, no =>
        obtain ⟨v, rfl, he⟩ := im_one hv his
        have pe : pl e = true := pls_mem.mp pd e (List.mem_cons_self ..)
        refine iteT ?_
        kc_close
        refine s_eqStr he pe (by decide +kernel) ?_
        refine q H _ (Same.refl _) ((eqv_str pe (by decide +kernel)).trans ⟨fun z => ?_, fun z => ?_⟩)
        · rw [z]
          exact ⟨.drop, rfl, trivial⟩
        · obtain ⟨x, r, e1, h⟩ := chg_len z
          injection e1 with e1
          injection e1 with e1 e2
          rcases h with ⟨rfl, _⟩ | ⟨e', rfl, _⟩
          · exact e1
          · cases e2
      | [], l0, _, _, _, _, _ => exact absurd l0 (by decide)
      | _ :: _ :: _, _, l1, _, _, _, _ => rw [List.length_cons, List.length_cons] at l1; omega
  rintro _ H ⟨rfl, rfl, ht1⟩
  refine s_seq ?_
  refine s_cut (fun σ' H' => σ' = [some (.ref su), some v, none, none] ∧ H' = H ∧ ∃ e1 e2, d = .tuple [e1, e2]) (fun N hN => ?_) ?_
  · refine s_if ?_
    kc_close
    refine ⟨v, 2, 2, rfl, d, hd, pd, ?_⟩
    kc_close
    cases ht : tupB d 2 2 with
    | false =>
      refine iteT ?_
      kc_close
      refine no H (Same.refl _) fun z => ?_
      obtain ⟨x, r, rfl, h⟩ := chg_len z
      rcases h with ⟨rfl, rfl⟩ | ⟨e', rfl, _⟩
      · cases ht1
      · cases ht
    | true =>
      obtain ⟨ds, rfl, l0, l1⟩ := tup_of ht
      refine iteF ?_
      kc_close
      match ds, l0, l1 with
      | [e1, e2], _, _ => exact hN _ _ ⟨rfl, rfl, e1, e2, rfl⟩
      | [], l0, _ => exact absurd l0 (by decide)
      | [_], l0, _ => rw [List.length_cons, List.length_nil] at l0; omega
      | _ :: _ :: _ :: _, _, l1 => rw [List.length_cons, List.length_cons, List.length_cons] at l1; omega
  rintro _ H ⟨rfl, rfl, e1, e2, rfl⟩
  obtain ⟨a, vs, rfl, hv, v1, _, rfl, h1, v2, _, rfl, h2, rfl⟩ := hd
  have p1 : pl e1 = true := pls_mem.mp pd e1 (List.mem_cons_self ..)
  have p2 : pl e2 = true := pls_mem.mp pd e2 (List.mem_cons_of_mem _ (List.mem_cons_self ..))
  have key : ∀ x, e1 = .str x → (ChgP p n t m (.tuple [e1, e2]) ↔ ((x = "is" ∨ x = "add") ∧ wholeB e2 0 (p - 1) = true) ∨ (x = "copy" ∧ isAddr n t m e2)) := fun x hx => by rw [hx]; exact chg_two
  kc_close
  refine s_if ?_
  kc_close
  refine s_eqStr h1 p1 (by decide +kernel) ?_
  kc_close
  cases hc : PyData.eqv e1 (.str "copy") with
  | true =>
    have ec := (eqv_str p1 (by decide +kernel)).mp hc
    refine iteT ?_
    kc_close
    refine ⟨su, v2, rfl, p, n, t, m, e2, hs, h2, p2, fun H1 b s1 hb => ?_⟩
    refine q H1 b s1 (hb.trans ?_)
    rw [key _ ec]
    exact ⟨fun z => .inr ⟨rfl, z⟩, fun z => z.elim (fun z => (by rcases z.1 with z | z <;> exact absurd z (by decide +kernel))) (fun z => z.2)⟩
  | false =>
    have nc : e1 ≠ .str "copy" := fun z => by rw [(eqv_str p1 (by decide +kernel)).mpr z] at hc; cases hc
    refine iteF ?_
    kc_close
    refine s_eqStr h1 p1 (by decide +kernel) ?_
    kc_close
    have fin : (∃ x, e1 = .str x ∧ (x = "is" ∨ x = "add")) → Q (.bl (wholeB e2 0 (p - 1))) H := fun ⟨x, ex, hx⟩ => q H _ (Same.refl _) (by
      rw [key x ex]
      exact ⟨fun z => .inl ⟨hx, z⟩, fun z => z.elim (fun z => z.2) (fun z => (by rcases hx with rfl | rfl <;> exact absurd z.1 (by decide +kernel)))⟩)
    cases hi : PyData.eqv e1 (.str "is") with
    | true =>
      have ec := (eqv_str p1 (by decide +kernel)).mp hi
      refine iteT ?_
      kc_close
      refine ⟨v2, 0, p - 1, rfl, e2, h2, p2, ?_⟩
      exact fin ⟨_, ec, .inl rfl⟩
    | false =>
      have ni : e1 ≠ .str "is" := fun z => by rw [(eqv_str p1 (by decide +kernel)).mpr z] at hi; cases hi
      refine iteF ?_
      kc_close
      refine s_eqStr h1 p1 (by decide +kernel) ?_
      kc_close
      cases ha : PyData.eqv e1 (.str "add") with
      | true =>
        have ec := (eqv_str p1 (by decide +kernel)).mp ha
        refine iteT ?_
        kc_close
        refine ⟨v2, 0, p - 1, rfl, e2, h2, p2, ?_⟩
        exact fin ⟨_, ec, .inr rfl⟩
      | false =>
        have na : e1 ≠ .str "add" := fun z => by rw [(eqv_str p1 (by decide +kernel)).mpr z] at ha; cases ha
        refine iteF ?_
        refine no H (Same.refl _) fun z => ?_
        obtain ⟨x, r, e, h⟩ := chg_len z
        injection e with e
        injection e with e3 e4
        rcases h with ⟨_, rfl⟩ | ⟨e', rfl, h⟩
        · cases e4
        · rcases h with ⟨rfl | rfl, _⟩ | ⟨rfl, _⟩
          · exact ni e3
          · exact na e3
          · exact nc e3
def RuleQ (p n t m : Int) (fs : List Int) (ad cd : PyData) : Prop := ∃ st i xs, ad = .tuple (xs.map .int) ∧ M.AddrAt n t m st i xs ∧ i ∈ fs ∧ ChgP p n t m cd
def spIsRule (K : PySem.W.Frag) : Sp := fun vs H Q _ => ∃ (su f : Addr) (v u : V), vs = [.ref su, .ref f, v, u] ∧ ∃ p n t m fs ad cd, SU K H su p n t m ∧ IsT K H f fs ∧ Im K H ad v ∧ pl ad = true ∧ Im K H cd u ∧ pl cd = true ∧ ∀ H' b, Same H H' → (b = true ↔ RuleQ p n t m fs ad cd) → Q (.bl b) H'
theorem ok__is_rule (h : Has K mg "_is_rule" (topS 14) ["setup", "foes", "address", "change"]) (G__is_change : Good P w K mg base 5 "_is_change" ["setup", "value"] (spIsChange K)) (G_is_address : Good P w K mg base 4 "is_address" ["setup", "value"] (spIsAddress K)) : Good P w K mg base 6 "_is_rule" ["setup", "foes", "address", "change"] (spIsRule K) := by
  have sc : FnScope ["setup", "foes", "address", "change"] ["setup", "foes", "address", "change"] (defScope (topS 14)) := ⟨rfl, rfl, rfl, by decide +kernel, rfl, by decide +kernel, by decide +kernel⟩
  have nd := sc.nd
  refine h.good sc (fun vs H Q E h => by obtain ⟨su, f, v, u, rfl, _⟩ := h; rfl) (fun f cdv A outer s H vs Q E hr h => ?_)
  obtain ⟨su, f, v, u, rfl, hyp⟩ := h
  refine ⟨_, (pss_one (ps_ret (pe_and (pe_callG G_is_address (hr.mono (by first | decide | omega)) (by rfl) (pa_cons (pv 0) (pa_cons (pv 2) pa_nil))) (pe_and (pe_cmpR (op_inK K) (pe_ix (ix_tupK K) (pv 2) pe_int (fun _ _ => rfl)) (pv 1) (by rfl)) (pe_one (pe_callG G__is_change (hr.mono (by first | decide | omega)) (by rfl) (pa_cons (pv 0) (pa_cons (pv 3) pa_nil)))))))), ?_⟩
  try dsimp only [cxOf, Cx.wish]
  obtain ⟨p, n, t, m, fs, ad, cd, hs, hf, ha, pa, hc, pc, q⟩ := hyp
  kc_close
  refine ⟨su, v, rfl, p, n, t, m, ad, hs, ha, pa, fun H1 b s1 hb => ?_⟩
  kc_close
  cases b with
  | false =>
    refine iteF ?_
    refine q H1 false s1 ⟨fun z => (by cases z), fun z => ?_⟩
    obtain ⟨st, i, xs, e, h, _⟩ := z
    exact hb.mpr ⟨st, i, xs, e, h⟩
  | true =>
    obtain ⟨st, i, xs, rfl, h⟩ := hb.mp rfl
    obtain ⟨a, vs, rfl, hv, his⟩ := ha
    have evs := Ims.ints his
    subst evs
    have hv1 := sqt_same s1 hv
    have hf1 := sqt_same s1 hf
    have hs1 := sqt_same s1 hs
    have e1 : (xs.map V.int)[1]? = some (.int i) := by cases h <;> rfl
    refine iteT ?_
    kc_close
    refine s_ixT hv1 (at_of (j := 1) rfl e1) ?_
    kc_close
    refine s_inI (.inr hf1) ?_
    kc_close
    refine ifP (fun hi => ?_) (fun hi => ?_)
    · kc_close
      refine ⟨su, u, rfl, p, n, t, m, cd, hs1, Im.tk (TK.same s1) _ _ hc, pc, fun H2 b2 s2 hb2 => ?_⟩
      refine q H2 b2 (s1.trans s2) (hb2.trans ⟨fun z => ⟨st, i, xs, rfl, h, hi, z⟩, fun z => ?_⟩)
      obtain ⟨_, _, _, _, _, _, z⟩ := z
      exact z
    · refine q H1 false s1 ⟨fun z => (by cases z), fun z => ?_⟩
      obtain ⟨st', i', xs', e, h', hi', _⟩ := z
      injection e with e
      have e := map_int_inj e
      subst e
      have e1' : (xs.map V.int)[1]? = some (.int i') := by cases h' <;> rfl
      rw [e1] at e1'
      injection e1' with e1'
      injection e1' with e1'
      exact absurd (e1' ▸ hi') hi
def FoesP (n t : Int) (d : PyData) : Prop := ∃ fs : List Int, d = .tuple (fs.map .int) ∧ fs.Pairwise (· < ·) ∧ (∀ i ∈ fs, M.Pty n i) ∧ (fs.length : Int) ≤ t
theorem asc_all : ∀ {fs : List Int}, (((List.range ((fs.length : Int) - 1).toNat).map fun k => decide (fs.getD k 0 < fs.getD (k + 1) 0)).all id = true ↔ fs.Pairwise (· < ·))
  | [] => ⟨fun _ => .nil, fun _ => rfl⟩
  | [x] => ⟨fun _ => List.pairwise_singleton _ _, fun _ => rfl⟩
  | x :: y :: r => by
    have ih := asc_all (fs := y :: r)
    have e : (((x :: y :: r : List Int).length : Int) - 1).toNat = (((y :: r : List Int).length : Int) - 1).toNat + 1 := by
      simp only [List.length_cons]
      omega
    rw [e, List.range_succ_eq_map, List.map_cons, List.all_cons, List.map_map, Bool.and_eq_true]
    have : (((List.range (((y :: r : List Int).length : Int) - 1).toNat).map ((fun k => decide ((x :: y :: r : List Int).getD k 0 < (x :: y :: r : List Int).getD (k + 1) 0)) ∘ Nat.succ)).all id = true ↔ (y :: r : List Int).Pairwise (· < ·)) := ih
    rw [this]
    constructor
    · rintro ⟨h1, h2⟩
      have h1' : x < y := of_decide_eq_true h1
      refine List.pairwise_cons.mpr ⟨fun z hz => ?_, h2⟩
      rcases List.mem_cons.mp hz with hz | hz
      · exact hz ▸ h1'
      · exact Int.lt_trans h1' ((List.pairwise_cons.mp h2).1 z hz)
    · intro h
      exact ⟨decide_eq_true ((List.pairwise_cons.mp h).1 y (List.mem_cons_self ..)), (List.pairwise_cons.mp h).2⟩
def spAreFoes (K : PySem.W.Frag) : Sp := fun vs H Q _ => ∃ (su : Addr) (v : V), vs = [.ref su, v] ∧ ∃ p n t m d, SU K H su p n t m ∧ t ≤ 10 ∧ Im K H d v ∧ pl d = true ∧ ∀ H' b, Same H H' → (b = true ↔ FoesP n t d) → Q (.bl b) H'
theorem ok__are_foes (T : NoB mg) (h : Has K mg "_are_foes" (topS 13) ["setup", "value"]) (G_is_between : Good P w K mg base 2 "is_between" ["value", "low", "high"] (spIsBetween K)) (G_is_tuple : Good P w K mg base 1 "is_tuple" ["value", "least", "most"] (spIsTuple K)) : Good P w K mg base 3 "_are_foes" ["setup", "value"] (spAreFoes K) := by
  have sc : FnScope ["setup", "value", "_", "n", "t", "party", "at"] ["setup", "value"] (defScope (topS 13)) := ⟨rfl, rfl, rfl, by decide +kernel, rfl, by decide +kernel, by decide +kernel⟩
  have nd := sc.nd
  refine h.good sc (fun vs H Q E h => by obtain ⟨su, v, rfl, _⟩ := h; rfl) (fun f cdv A outer s H vs Q E hr h => ?_)
  obtain ⟨su, v, rfl, hyp⟩ := h
  refine ⟨_, (pss_cons (ps_asg (pv 0) (pg_tupK K 4 (by rfl) (pgs_cons (pg_name (i := 2) nd rfl (by first | exact .inl rfl | exact .inr rfl)) (pgs_cons (pg_name (i := 3) nd rfl (by first | exact .inl rfl | exact .inr rfl)) (pgs_cons (pg_name (i := 4) nd rfl (by first | exact .inl rfl | exact .inr rfl)) (pgs_cons (pg_name (i := 2) nd rfl (by first | exact .inl rfl | exact .inr rfl)) pgs_nil))))))
  (pss_cons (ps_if (PW.pt (pw_or (pt_not (pt_val (pe_callG G_is_tuple (hr.mono (by first | decide | omega)) (by rfl) (pa_cons (pv 1) (pa_cons pe_int (pa_cons (pv 4) pa_nil)))))) (pw_or1 (pt_not (pt_val (pe_callB (cr_allK K rfl) (by rfl) T.n_all (by decide +kernel) (pa_cons (pe_lc (own := [("party", 5)]) rfl nd (pi_tupK K (pv 1)) (blkOk_by (own := [("party", 5)]) (N := ["setup", "value", "_", "n", "t", "party", "at"]) (by kernel_rfl)) (fun _ _ _ _ _ => (pg_name (i := 5) nd rfl (by first | exact .inl rfl | exact .inr rfl))) (fun _ _ _ _ _ => pts_nil) (fun _ _ _ _ _ => (pe_callG G_is_between (hr.mono (by first | decide | omega)) (by rfl) (pa_cons (pv 5) (pa_cons pe_int (pa_cons (pv 3) pa_nil)))))) pa_nil)))))))
  (pss_one (ps_ret pe_bl)) pss_nil)
  (pss_one (ps_ret (pe_callB (cr_allK K rfl) (by rfl) T.n_all (by decide +kernel) (pa_cons (pe_lc (own := [("at", 6)]) rfl nd (pi_range1 rfl T.n_range (pa_cons (pe_op op_sub (pe_callB (c_lenK K) (by rfl) T.n_len (by decide +kernel) (pa_cons (pv 1) pa_nil)) pe_int) pa_nil)) (blkOk_by (own := [("at", 6)]) (N := ["setup", "value", "_", "n", "t", "party", "at"]) (by kernel_rfl)) (fun _ _ _ _ _ => (pg_name (i := 6) nd rfl (by first | exact .inl rfl | exact .inr rfl))) (fun _ _ _ _ _ => pts_nil) (fun _ _ _ _ _ => (pe_cmpR op_lt (pe_ix (ix_tupK K) (pv 1) (pv 6) (fun _ _ => rfl)) (pe_ix (ix_tupK K) (pv 1) (pe_op op_add (pv 6) pe_int) (fun _ _ => rfl)) (nomark _)))) pa_nil)))))), ?_⟩
  try dsimp only [cxOf, Cx.wish]
  obtain ⟨p, n, t, m, d, hs, t10, hd, pd, q⟩ := hyp
  have no : ∀ H', Same H H' → ¬ FoesP n t d → Q (.bl false) H' := fun H' s h => q H' false s ⟨fun z => (by cases z), fun z => absurd z h⟩
  refine s_seq ?_
  refine s_cut (fun σ' H' => σ' = [some (.ref su), some v, some (.int m), some (.int n), some (.int t), none, none] ∧ H' = H) (fun N hN => ?_) ?_
  · kc_close
    exact hN _ _ ⟨rfl, rfl⟩
  rintro _ H ⟨rfl, rfl⟩
  refine s_seq ?_
  refine s_cut (fun σ' H' => ∃ (a : Addr) (fs : List Int), v = .ref a ∧ σ' = [some (.ref su), some v, some (.int m), some (.int n), some (.int t), none, none] ∧ Same H H' ∧ IsT K H' a fs ∧ d = .tuple (fs.map .int) ∧ (fs.length : Int) ≤ t ∧ ∀ i ∈ fs, M.Pty n i) (fun N hN => ?_) ?_
  · refine s_if ?_
    kc_close
    refine ⟨v, 0, t, rfl, d, hd, pd, ?_⟩
    kc_close
    cases ht : tupB d 0 t with
    | false =>
      refine iteT ?_
      refine iteT ?_
      kc_close
      refine no H (Same.refl _) fun z => ?_
      obtain ⟨fs, rfl, _, _, hl⟩ := z
      rw [tupB_of (by omega) (by rw [List.length_map]; exact hl)] at ht
      cases ht
    | true =>
      obtain ⟨ds, rfl, l0, l1⟩ := tup_of ht
      obtain ⟨a, vs, rfl, hv, his⟩ := hd
      have lvs := Ims.length his
      have pds : pls ds = true := pd
      refine iteF ?_
      kc_close
      refine s_itupv hv ?_
      refine l_mapT (fun i => V.bl (wholeB (ds.getD i .none) 1 n)) hv (by omega) ?_ ?_
      · intro D N' i y H' e s' k'
        obtain ⟨e1, ee, he⟩ := Ims.get his e
        have pe := pls_mem.mp pds e1 (List.mem_of_getElem? ee)
        kc_close
        refine ⟨y, 1, n, rfl, e1, Im.tk (TK.same s') _ _ he, pe, ?_⟩
        have := k' _ (Same.refl _)
        rw [List.getD_eq_getElem?_getD, ee] at this
        exact this
      intro B H2 nB s2 eB
      have eB2 := ims_map (fun e => wholeB e 1 n) (ims_same s2 his) eB
      kc_close
      refine s_all (SqL.of eB2) ?_
      kc_close
      cases hb : ((ds.map fun d => wholeB d 1 n).all id) with
      | false =>
        refine iteT ?_
        kc_close
        refine no H2 s2 fun z => ?_
        obtain ⟨fs, e, _, hp, _⟩ := z
        injection e with e
        have : ((ds.map fun d => wholeB d 1 n).all id) = true := by
          rw [e, List.all_map, List.all_map, List.all_eq_true]
          intro x hx
          exact whole_of (hp x hx).1 (hp x hx).2
        rw [this] at hb
        cases hb
      | true =>
        refine iteF ?_
        kc_close
        rw [List.all_map, List.all_eq_true] at hb
        obtain ⟨xs, ex, hx⟩ := all_whole hb
        subst ex
        have evs := Ims.ints his
        subst evs
        rw [List.length_map] at l1
        exact hN _ _ ⟨a, xs, rfl, rfl, s2, sqt_same s2 hv, rfl, l1, hx⟩
  rintro _ H1 ⟨a, fs, rfl, rfl, s1, hf1, rfl, few, pty⟩
  kc_close
  rw [List.length_map]
  refine s_rng1v (by omega) (by omega) ?_
  refine l_mapR (fun k => V.bl (decide (fs.getD k 0 < fs.getD (k + 1) 0))) (by omega) ?_ ?_
  · intro D N' k H' hk s' k'
    have hf' : IsT K H' a fs := sqt_same s' hf1
    kc_close
    refine s_ixT hf' (at_intI (k := k) (by omega) (by omega)) ?_
    kc_close
    refine s_ixT hf' (at_intI (k := k + 1) (by omega) (by omega)) ?_
    kc_close
    exact k' _ (Same.refl _)
  intro B H2 nB s2 eB
  have eB2 : H2 B = some (.lst (((List.range ((fs.length : Int) - 1).toNat).map fun k => decide (fs.getD k 0 < fs.getD (k + 1) 0)).map V.bl)) := by
    rw [eB, List.map_map]
    rfl
  kc_close
  refine s_all (SqL.of eB2) ?_
  refine q H2 _ (s1.trans s2) (asc_all.trans ⟨fun z => ⟨fs, rfl, z, pty, few⟩, fun z => ?_⟩)
  obtain ⟨fs', e, z, _⟩ := z
  injection e with e
  rw [map_int_inj e]
  exact z
end
end K1
end
section
open PySem PySem.Spec PyProof.Rows L2 Z
local macro_rules | `(tactic| ktr_room) => `(tactic| first
  | assumption
  | (apply SqT.of; assumption)
  | (apply SqL.of; assumption)
  | (apply sqt_same; assumption; ktr_room)
  | (apply sql_same; assumption; ktr_room)
  | (apply sqt_but; assumption; assumption; ktr_room)
  | (apply sql_but; assumption; assumption; ktr_room)
  | (apply Same.of_; assumption; ktr_room)
  | (apply But.of_; assumption; assumption; ktr_room)
  | exact same_refl
  | exact but_refl
  | (apply same_tr; assumption; ktr_room)
  | (apply same_but; assumption; ktr_room; assumption)
  | (apply but_tr; assumption; ktr_room)
  | (apply but_trB; assumption; ktr_room))
local macro_rules | `(tactic| ktr_units) => `(tactic| first | with_reducible assumption | omega | rfl | exact ⟨by omega, by omega⟩ | exact .inl ⟨by omega, by omega⟩ | exact .inr ⟨by omega, by omega⟩ | exact ⟨by decide, by decide, by decide⟩ | exact Nat.le_of_ble_eq_true rfl | decide)
local macro_rules | `(tactic| kc_close) => `(tactic| repeat (with_reducible first
  | refine s_var (by with_unfolding_all rfl) ?_
  | refine s_c ?_
  | refine s_op ?_
  | refine s_rI0 ?_
  | refine s_asg ?_
  | refine s_gname ?_
  | refine s_seq ?_
  | refine s_cons ?_
  | refine s_nil ?_
  | refine s_call ?_
  | refine s_ret ?_
  | o_fieldsN
  | refine s_test ?_
  | refine s_bl ?_
  | refine s_rI (by with_unfolding_all (ktr_units)) ?_
  | refine s_rEq rfl ?_
  | refine s_rNe rfl ?_
  | refine s_cb ?_
  | refine s_int1 ?_
  | refine s_intB ?_
  | refine s_max2 ?_
  | refine s_min2 ?_
  | refine s_tup ?_
  | refine s_lst ?_
  | refine s_newT (by with_unfolding_all first | decide | exact Nat.le_of_ble_eq_true rfl) ?_
  | refine s_newL (by with_unfolding_all first | decide | exact Nat.le_of_ble_eq_true rfl) ?_
  | refine s_ixT (by ktr_room) (by with_unfolding_all rfl) ?_
  | refine s_ixL (by ktr_room) (by with_unfolding_all rfl) ?_
  | refine s_lenT (by ktr_room) ?_
  | refine s_lenL (by ktr_room) ?_
  | refine s_un ?_
  | refine s_rU ?_
  | refine s_and ?_
  | refine s_or ?_
  | refine s_not ?_
  | refine s_tB ?_
  | refine s_tru ?_
  | refine s_drop ?_
  | refine s_next ?_
  | refine s_for ?_
  | refine s_rng1 ?_
  | refine s_rng2 ?_
  | refine s_rng3 ?_
  | refine s_ilist ?_
  | refine s_itup ?_
  | refine s_iany ?_
  | refine s_ienum ?_
  | refine s_irev ?_
  | refine s_gcons ?_
  | refine s_gnil ?_
  | refine s_gtup (by ktr_room) (by with_unfolding_all rfl) ?_
  | refine s_gsub ?_
  | refine s_augS ?_
  | refine s_aug (by with_unfolding_all rfl) ?_
  | refine s_ipI ?_
  | refine s_bm ?_
  | refine s_bm0 ?_
  | refine s_tyL (by ktr_room) ?_
  | refine s_tyL0 (by ktr_room) ?_
  | refine s_sl ?_
  | refine s_part ?_
  | refine s_partv ?_
  | refine s_noPart ?_
  | refine s_lc ?_
  | refine s_yes ?_
  | refine s_wipe (by with_unfolding_all rfl) ?_
  | refine iteT ?_
  | refine s_retN ?_
  | refine s_isN ?_
  | refine s_truB ?_
  | refine s_isB2 ?_
  | refine s_notB2 ?_
  | refine s_revT ?_
  | refine s_andV ?_
  | refine s_orV ?_
  | refine s_ifE ?_
  | refine s_notK ?_
  | refine s_notN ?_
  | refine s_truL (by ktr_room) ?_
  | refine s_truT (by ktr_room) ?_))
open K1
local macro_rules | `(tactic| ktr_room) => `(tactic| first
  | (apply DR.same; assumption; ktr_room)
  | (apply sqt_butD; assumption; ktr_room; ktr_room))
namespace K1
section
variable {P : Program} {w : World} {K : PySem.W.Frag} {mg : Str → Option Value} {base : Heap}
theorem rule_pair {p n t m : Int} {fs : List Int} {ad cd : PyData} : RuleP p n t m fs (.tuple [ad, cd]) ↔ RuleQ p n t m fs ad cd := by
  constructor
  · rintro ⟨ad', cd', st, i, xs, e, ea, h, hi, hc⟩
    injection e with e
    injection e with e1 e
    injection e with e2 e
    subst e1 e2
    exact ⟨st, i, xs, ea, h, hi, hc⟩
  · rintro ⟨st, i, xs, ea, h, hi, hc⟩
    exact ⟨ad, cd, st, i, xs, rfl, ea, h, hi, hc⟩
noncomputable def ruleB (p n t m : Int) (fs : List Int) (d : PyData) : Bool := @decide (RuleP p n t m fs d) (Classical.propDecidable _)
theorem ruleB_iff {p n t m : Int} {fs : List Int} {d : PyData} : ruleB p n t m fs d = true ↔ RuleP p n t m fs d := @decide_eq_true_iff _ (Classical.propDecidable _)
theorem ok_is_script (T : NoB mg) (W : Gs K mg) (h : Has K mg "is_script" (topS 12) ["setup", "value"]) (G_is_tuple : Good P w K mg base 1 "is_tuple" ["value", "least", "most"] (spIsTuple K)) (G_are_pairs : Good P w K mg base 2 "are_pairs" ["value", "least", "most"] (spArePairs K)) (G__are_foes : Good P w K mg base 3 "_are_foes" ["setup", "value"] (spAreFoes K)) (G__is_rule : Good P w K mg base 6 "_is_rule" ["setup", "foes", "address", "change"] (spIsRule K)) : Good P w K mg base 140 "is_script" ["setup", "value"] (spIsScript K) := by
  have sc : FnScope ["setup", "value", "foes", "rules", "address", "change"] ["setup", "value"] (defScope (topS 12)) := ⟨rfl, rfl, rfl, by decide +kernel, rfl, by decide +kernel, by decide +kernel⟩
  have nd := sc.nd
  refine h.good sc (fun vs H Q E h => by obtain ⟨su, v, rfl, _⟩ := h; rfl) (fun f cdv A outer s H vs Q E hr h => ?_)
  obtain ⟨su, v, rfl, hyp⟩ := h
  refine ⟨_, (pss_cons (ps_if (pt_not (pt_val (pe_callG G_is_tuple (hr.mono (by first | decide | omega)) (by rfl) (pa_cons (pv 1) (pa_cons pe_int (pa_cons pe_int pa_nil))))))
  (pss_one (ps_ret pe_bl)) pss_nil)
  (pss_cons (ps_asg (pv 1) (pg_tupK K 2 (by rfl) (pgs_cons (pg_name (i := 2) nd rfl (by first | exact .inl rfl | exact .inr rfl)) (pgs_cons (pg_name (i := 3) nd rfl (by first | exact .inl rfl | exact .inr rfl)) pgs_nil))))
  (pss_cons (ps_if (PW.pt (pw_or (pt_not (pt_val (pe_callG G__are_foes (hr.mono (by first | decide | omega)) (by rfl) (pa_cons (pv 0) (pa_cons (pv 2) pa_nil))))) (pw_or1 (pt_not (pt_val (pe_callG G_are_pairs (hr.mono (by first | decide | omega)) (by rfl) (pa_cons (pv 3) (pa_cons pe_int (pa_cons (pe_globE (by rfl) W.g_MOST_RULES) pa_nil)))))))))
  (pss_one (ps_ret pe_bl)) pss_nil)
  (pss_one (ps_ret (pe_callB (cr_allK K rfl) (by rfl) T.n_all (by decide +kernel) (pa_cons (pe_lc (own := [("address", 4), ("change", 5)]) rfl nd (pi_tupK K (pv 3)) (blkOk_by (own := [("address", 4), ("change", 5)]) (N := ["setup", "value", "foes", "rules", "address", "change"]) (by kernel_rfl)) (fun _ _ _ _ _ => (pg_tupK K 2 (by rfl) (pgs_cons (pg_name (i := 4) nd rfl (by first | exact .inl rfl | exact .inr rfl)) (pgs_cons (pg_name (i := 5) nd rfl (by first | exact .inl rfl | exact .inr rfl)) pgs_nil)))) (fun _ _ _ _ _ => pts_nil) (fun _ _ _ _ _ => (pe_callG G__is_rule (hr.mono (by first | decide | omega)) (by rfl) (pa_cons (pv 0) (pa_cons (pv 2) (pa_cons (pv 4) (pa_cons (pv 5) pa_nil))))))) pa_nil))))))), ?_⟩
  try dsimp only [cxOf, Cx.wish]
  obtain ⟨p, n, t, m, d, hs, ok, hd, pd, _, _, q⟩ := hyp
  have ot2 := ok.t2
  have no : ∀ H', Same H H' → ¬ isScr p n t m d → Q (.bl false) H' := fun H' s h => q H' false s ⟨fun z => (by cases z), fun z => absurd z h⟩
  refine s_seq ?_
  refine s_cut (fun σ' H' => σ' = [some (.ref su), some v, none, none, none, none] ∧ H' = H ∧ ∃ e1 e2, d = .tuple [e1, e2]) (fun N hN => ?_) ?_
  · refine s_if ?_
    kc_close
    refine ⟨v, 2, 2, rfl, d, hd, pd, ?_⟩
    kc_close
    cases ht : tupB d 2 2 with
    | false =>
      refine iteT ?_
      kc_close
      refine no H (Same.refl _) fun z => ?_
      obtain ⟨foes, rs, rfl, _⟩ := scr_form z
      cases ht
    | true =>
      obtain ⟨ds, rfl, l0, l1⟩ := tup_of ht
      refine iteF ?_
      kc_close
      match ds, l0, l1 with
      | [e1, e2], _, _ => exact hN _ _ ⟨rfl, rfl, e1, e2, rfl⟩
      | [], l0, _ => exact absurd l0 (by decide)
      | [_], l0, _ => rw [List.length_cons, List.length_nil] at l0; omega
      | _ :: _ :: _ :: _, _, l1 => rw [List.length_cons, List.length_cons, List.length_cons] at l1; omega
  rintro _ H ⟨rfl, rfl, e1, e2, rfl⟩
  obtain ⟨a, vs, rfl, hv, v1, _, rfl, h1, v2, _, rfl, h2, rfl⟩ := hd
  have p1 : pl e1 = true := pls_mem.mp pd e1 (List.mem_cons_self ..)
  have p2 : pl e2 = true := pls_mem.mp pd e2 (List.mem_cons_of_mem _ (List.mem_cons_self ..))
  refine s_seq ?_
  refine s_cut (fun σ' H' => σ' = [some (.ref su), some (.ref a), some v1, some v2, none, none] ∧ H' = H) (fun N hN => ?_) ?_
  · kc_close
    exact hN _ _ ⟨rfl, rfl⟩
  rintro _ H ⟨rfl, rfl⟩
  refine s_seq ?_
  refine s_cut (fun σ' H' => ∃ (f r : Addr) (fs : List Int) (rs : List PyData) (rv : List V), v1 = .ref f ∧ v2 = .ref r ∧ σ' = [some (.ref su), some (.ref a), some (.ref f), some (.ref r), none, none] ∧ Same H H' ∧ e1 = .tuple (fs.map .int) ∧ e2 = .tuple rs ∧ IsT K H' f fs ∧ SqT K H' r rv ∧ Ims K H' rs rv ∧ fs.Pairwise (· < ·) ∧ (∀ i ∈ fs, M.Pty n i) ∧ (fs.length : Int) ≤ t ∧ rs.length ≤ 40 ∧ ∀ x ∈ rs, ∃ y z, x = .tuple [y, z]) (fun N hN => ?_) ?_
  · refine s_if ?_
    kc_close
    refine ⟨su, v1, rfl, p, n, t, m, e1, hs, by omega, h1, p1, fun H1 b s1 hb => ?_⟩
    kc_close
    cases b with
    | false =>
      refine iteT ?_
      refine iteT ?_
      kc_close
      refine no H1 s1 fun z => ?_
      obtain ⟨foes, rs, e, k⟩ := scr_form z
      injection e with e
      injection e with e3 e
      subst e3
      cases hb.mpr ⟨foes, rfl, k.asc, k.pty, k.few⟩
    | true =>
      obtain ⟨fs, rfl, asc, pty, few⟩ := hb.mp rfl
      obtain ⟨f, fv, rfl, hf, hfi⟩ := h1
      have efv := Ims.ints hfi
      subst efv
      have hf1 : IsT K H1 f fs := sqt_same s1 hf
      refine iteF ?_
      kc_close
      refine ⟨v2, 0, 40, rfl, e2, Im.tk (TK.same s1) _ _ h2, p2, by decide, fun H2 s2 => ?_⟩
      kc_close
      cases hp : pairsB e2 0 40 with
      | false =>
        refine iteT ?_
        kc_close
        refine no H2 (s1.trans s2) fun z => ?_
        obtain ⟨foes, rs, e, k⟩ := scr_form z
        injection e with e
        injection e with e3 e
        injection e with e4 e
        subst e4
        have l40 := k.len
        have : pairsB (.tuple rs) 0 40 = true := by
          show (tupB (.tuple rs) 0 40 && rs.all fun e => tupB e 2 2) = true
          rw [tupB_of (by omega) (by omega), Bool.true_and, List.all_eq_true]
          intro x hx
          obtain ⟨ad, cd, _, _, _, rfl, _⟩ := k.rule x hx
          rfl
        rw [hp] at this
        cases this
      | true =>
        refine iteF ?_
        kc_close
        obtain ⟨rs, rfl⟩ : ∃ rs, e2 = .tuple rs := by
          cases e2 with
          | tuple rs => exact ⟨rs, rfl⟩
          | _ => cases hp
        have hp' : (tupB (.tuple rs) 0 40 && rs.all fun e => tupB e 2 2) = true := hp
        rw [Bool.and_eq_true, List.all_eq_true] at hp'
        obtain ⟨_, e, _, l40⟩ := tup_of hp'.1
        injection e with e
        subst e
        obtain ⟨r, rv, rfl, hr, hri⟩ := h2
        refine hN _ _ ⟨f, r, fs, rs, rv, rfl, rfl, rfl, s1.trans s2, rfl, rfl, sqt_same s2 hf1, sqt_same (s1.trans s2) hr, ims_same (s1.trans s2) hri, asc, pty, few, by omega, fun x hx => ?_⟩
        obtain ⟨ds, rfl, l0, l1⟩ := tup_of (hp'.2 x hx)
        match ds, l0, l1 with
        | [e1, e2], _, _ => exact ⟨e1, e2, rfl⟩
        | [], l0, _ => exact absurd l0 (by decide)
        | [_], l0, _ => rw [List.length_cons, List.length_nil] at l0; omega
        | _ :: _ :: _ :: _, _, l1 => rw [List.length_cons, List.length_cons, List.length_cons] at l1; omega
  rintro _ H1 ⟨f, r, fs, rs, rv, rfl, rfl, rfl, s1, rfl, rfl, hf1, hr1, hri1, asc, pty, few, l40, prs⟩
  have hs1 : SU K H1 su p n t m := sqt_same s1 hs
  have lrv := Ims.length hri1
  have prl : pls rs = true := p2
  kc_close
  refine s_itupv hr1 ?_
  refine l_mapT (fun i => V.bl (ruleB p n t m fs (rs.getD i .none))) hr1 (by omega) ?_ ?_
  · intro D N' i y H' e s' k'
    obtain ⟨e1, ee, he⟩ := Ims.get hri1 e
    have pe := pls_mem.mp prl e1 (List.mem_of_getElem? ee)
    obtain ⟨ad, cd, rfl⟩ := prs e1 (List.mem_of_getElem? ee)
    obtain ⟨ra, _, rfl, hra, av, _, rfl, ha, cv, _, rfl, hc, rfl⟩ := he
    have hra' := sqt_same s' hra
    kc_close
    refine ⟨su, f, av, cv, rfl, p, n, t, m, fs, ad, cd, sqt_same s' hs1, sqt_same s' hf1, Im.tk (TK.same s') _ _ ha, pls_mem.mp pe ad (List.mem_cons_self ..), Im.tk (TK.same s') _ _ hc, pls_mem.mp pe cd (List.mem_cons_of_mem _ (List.mem_cons_self ..)), fun H4 b s4 hb => ?_⟩
    have := k' _ s4
    rw [List.getD_eq_getElem?_getD, ee] at this
    have eb : ruleB p n t m fs ((some (PyData.tuple [ad, cd])).getD .none) = b := by
      have h2 : ruleB p n t m fs (.tuple [ad, cd]) = true ↔ b = true := ruleB_iff.trans (rule_pair.trans hb.symm)
      show ruleB p n t m fs (.tuple [ad, cd]) = b
      cases b with
      | true => exact h2.mpr rfl
      | false =>
        cases hx : ruleB p n t m fs (.tuple [ad, cd]) with
        | false => rfl
        | true => cases h2.mp hx
    rw [eb] at this
    exact this
  intro B H2 nB s2 eB
  have eB2 := ims_map (fun e => ruleB p n t m fs e) (ims_same s2 hri1) eB
  kc_close
  refine s_all (SqL.of eB2) ?_
  refine q H2 _ (s1.trans s2) ?_
  rw [isScr_iff, List.all_map, List.all_eq_true]
  constructor
  · intro h
    exact ⟨asc, pty, few, l40, fun x hx => ruleB_iff.mp (h x hx)⟩
  · intro k x hx
    exact ruleB_iff.mpr (k.rule x hx)
end
end K1
end
section
open PySem PySem.Spec PyProof.Rows L2 Z
local macro_rules | `(tactic| ktr_room) => `(tactic| first
  | assumption
  | (apply SqT.of; assumption)
  | (apply SqL.of; assumption)
  | (apply sqt_same; assumption; ktr_room)
  | (apply sql_same; assumption; ktr_room)
  | (apply sqt_but; assumption; assumption; ktr_room)
  | (apply sql_but; assumption; assumption; ktr_room)
  | (apply Same.of_; assumption; ktr_room)
  | (apply But.of_; assumption; assumption; ktr_room)
  | exact same_refl
  | exact but_refl
  | (apply same_tr; assumption; ktr_room)
  | (apply same_but; assumption; ktr_room; assumption)
  | (apply but_tr; assumption; ktr_room)
  | (apply but_trB; assumption; ktr_room))
local macro_rules | `(tactic| ktr_units) => `(tactic| first | with_reducible assumption | omega | rfl | exact ⟨by omega, by omega⟩ | exact .inl ⟨by omega, by omega⟩ | exact .inr ⟨by omega, by omega⟩ | exact ⟨by decide, by decide, by decide⟩ | exact Nat.le_of_ble_eq_true rfl | decide)
local macro_rules | `(tactic| kc_close) => `(tactic| repeat (with_reducible first
  | refine s_var (by with_unfolding_all rfl) ?_
  | refine s_c ?_
  | refine s_op ?_
  | refine s_rI0 ?_
  | refine s_asg ?_
  | refine s_gname ?_
  | refine s_seq ?_
  | refine s_cons ?_
  | refine s_nil ?_
  | refine s_call ?_
  | refine s_ret ?_
  | o_fieldsN
  | refine s_test ?_
  | refine s_bl ?_
  | refine s_rI (by with_unfolding_all (ktr_units)) ?_
  | refine s_rEq rfl ?_
  | refine s_rNe rfl ?_
  | refine s_cb ?_
  | refine s_int1 ?_
  | refine s_intB ?_
  | refine s_max2 ?_
  | refine s_min2 ?_
  | refine s_tup ?_
  | refine s_lst ?_
  | refine s_newT (by with_unfolding_all first | decide | exact Nat.le_of_ble_eq_true rfl) ?_
  | refine s_newL (by with_unfolding_all first | decide | exact Nat.le_of_ble_eq_true rfl) ?_
  | refine s_ixT (by ktr_room) (by with_unfolding_all rfl) ?_
  | refine s_ixL (by ktr_room) (by with_unfolding_all rfl) ?_
  | refine s_lenT (by ktr_room) ?_
  | refine s_lenL (by ktr_room) ?_
  | refine s_un ?_
  | refine s_rU ?_
  | refine s_and ?_
  | refine s_or ?_
  | refine s_not ?_
  | refine s_tB ?_
  | refine s_tru ?_
  | refine s_drop ?_
  | refine s_next ?_
  | refine s_for ?_
  | refine s_rng1 ?_
  | refine s_rng2 ?_
  | refine s_rng3 ?_
  | refine s_ilist ?_
  | refine s_itup ?_
  | refine s_iany ?_
  | refine s_ienum ?_
  | refine s_irev ?_
  | refine s_gcons ?_
  | refine s_gnil ?_
  | refine s_gtup (by ktr_room) (by with_unfolding_all rfl) ?_
  | refine s_gsub ?_
  | refine s_augS ?_
  | refine s_aug (by with_unfolding_all rfl) ?_
  | refine s_ipI ?_
  | refine s_bm ?_
  | refine s_bm0 ?_
  | refine s_tyL (by ktr_room) ?_
  | refine s_tyL0 (by ktr_room) ?_
  | refine s_sl ?_
  | refine s_part ?_
  | refine s_partv ?_
  | refine s_noPart ?_
  | refine s_lc ?_
  | refine s_yes ?_
  | refine s_wipe (by with_unfolding_all rfl) ?_
  | refine iteT ?_
  | refine s_retN ?_
  | refine s_isN ?_
  | refine s_truB ?_
  | refine s_isB2 ?_
  | refine s_notB2 ?_
  | refine s_revT ?_
  | refine s_andV ?_
  | refine s_orV ?_
  | refine s_ifE ?_
  | refine s_notK ?_
  | refine s_notN ?_
  | refine s_truL (by ktr_room) ?_
  | refine s_truT (by ktr_room) ?_))
open K1
local macro_rules | `(tactic| ktr_room) => `(tactic| first
  | (apply DR.same; assumption; ktr_room)
  | (apply sqt_butD; assumption; ktr_room; ktr_room))
namespace K1
section
variable {P : Program} {w : World} {K : PySem.W.Frag} {mg : Str → Option Value} {base : Heap}
theorem ok_law (T : NoB mg) {f : Addr} {fd : FuncData} (F : Fun K "law" "law" (topS 32) f fd) (G__law_start : Good P w K mg base 1 "_law_start" ["script"] (spStart K)) (G__law_setup : Good P w K mg base 3 "_law_setup" ["c", "most"] (spSetup K)) (G__law_script : Good P w K mg base 4 "_law_script" ["c", "setup"] (spScript K)) (G_is_script : Good P w K mg base 140 "is_script" ["setup", "value"] (spIsScript K)) (G__law_take : Good P w K mg base 2 "_law_take" ["c", "many"] (spTake)) (G__law_spoilt : Good P w K mg base 131 "_law_spoilt" ["c", "value"] (spSpoilt K)) (G__law_good : Good P w K mg base 3 "_law_good" ["setup", "plan"] (spGood K)) : FnOk P w K mg base CX0 141 f fd ["script"] (spLaw K) := by
  have sc : FnScope ["script", "c", "setup", "plan", "k", "other", "kind", "rule", "more", "change", "j", "moved", "told"] ["script"] (defScope (topS 32)) := ⟨rfl, rfl, rfl, by decide +kernel, rfl, by decide +kernel, by decide +kernel⟩
  have nd := sc.nd
  refine F.ok sc (fun vs H Q E h => by obtain ⟨s0, rfl, _⟩ := h; rfl) (fun cdv A outer s H vs Q E hr h => ?_)
  obtain ⟨s0, rfl, hyp⟩ := h
  refine ⟨_, (pss_cons (ps_set (i := 1) nd rfl (by first | exact .inl rfl | exact .inr rfl) (pe_callG G__law_start (hr.mono (by first | decide | omega)) (by rfl) (pa_cons (pv 0) pa_nil)))
  (pss_cons (ps_set (i := 2) nd rfl (by first | exact .inl rfl | exact .inr rfl) (pe_callG G__law_setup (hr.mono (by first | decide | omega)) (by rfl) (pa_cons (pv 1) (pa_cons pe_int pa_nil))))
  (pss_cons (ps_set (i := 3) nd rfl (by first | exact .inl rfl | exact .inr rfl) (pe_callG G__law_script (hr.mono (by first | decide | omega)) (by rfl) (pa_cons (pv 1) (pa_cons (pv 2) pa_nil))))
  (pss_cons (ps_if (pt_cmpR op_notBn (pe_callG G_is_script (hr.mono (by first | decide | omega)) (by rfl) (pa_cons (pv 2) (pa_cons (pv 3) pa_nil))) pe_bl (nomark _))
  (pss_one (ps_ret pe_bl)) pss_nil)
  (pss_cons (ps_for PassesOwn.never rfl (pi_range1 rfl T.n_range (pa_cons pe_int pa_nil)) (pg_name (i := 4) nd rfl (by first | exact .inl rfl | exact .inr rfl))
  (pss_cons (ps_set (i := 5) nd rfl (by first | exact .inl rfl | exact .inr rfl) (pv 3))
  (pss_cons (ps_set (i := 6) nd rfl (by first | exact .inl rfl | exact .inr rfl) (pe_callG G__law_take (hr.mono (by first | decide | omega)) (by rfl) (pa_cons (pv 1) (pa_cons pe_int pa_nil))))
  (pss_cons (ps_if (pt_cmpR op_eq (pv 6) pe_int (nomark _))
  (pss_one (ps_set (i := 5) nd rfl (by first | exact .inl rfl | exact .inr rfl) (pe_tup (pa_cons (pe_op (op_catK K) (pe_ix (ix_tupK K) (pv 3) pe_int (fun _ _ => rfl)) (pe_tup (pa_cons (pe_callG G__law_take (hr.mono (by first | decide | omega)) (by rfl) (pa_cons (pv 1) (pa_cons (pe_op op_add (pe_ix (ix_tupK K) (pv 2) pe_int (fun _ _ => rfl)) pe_int) pa_nil))) pa_nil))) (pa_cons (pe_ix (ix_tupK K) (pv 3) pe_int (fun _ _ => rfl)) pa_nil))))) (pss_one (ps_if (PW.pt (pw_and (pt_cmpR op_eq (pv 6) pe_int (nomark _)) (pw_and1 (pt_truK K (pe_ix (ix_tupK K) (pv 3) pe_int (fun _ _ => rfl)) (by intro _; rfl)))))
  (pss_one (ps_set (i := 5) nd rfl (by first | exact .inl rfl | exact .inr rfl) (pe_tup (pa_cons (pe_ix (ix_tupK K) (pv 3) pe_int (fun _ _ => rfl)) (pa_cons (pe_slice (sl_tupK K) (pe_op (op_repTK K) (pe_ix (ix_tupK K) (pv 3) pe_int (fun _ _ => rfl)) pe_int) po_none (po_some (pe_ix (ix_listK K) (pe_lst (pa_cons pe_int (pa_cons pe_int (pa_cons pe_int (pa_cons pe_int (pa_cons pe_int (pa_cons pe_int pa_nil))))))) (pe_callG G__law_take (hr.mono (by first | decide | omega)) (by rfl) (pa_cons (pv 1) (pa_cons pe_int pa_nil))) (fun _ _ => rfl)))) pa_nil))))) (pss_one (ps_if (PW.pt (pw_and (pt_cmpR op_eq (pv 6) pe_int (nomark _)) (pw_and1 (pt_truK K (pe_ix (ix_tupK K) (pv 3) pe_int (fun _ _ => rfl)) (by intro _; rfl)))))
  (pss_cons (ps_set (i := 7) nd rfl (by first | exact .inl rfl | exact .inr rfl) (pe_ix (ix_tupK K) (pe_ix (ix_tupK K) (pv 3) pe_int (fun _ _ => rfl)) (pe_callG G__law_take (hr.mono (by first | decide | omega)) (by rfl) (pa_cons (pv 1) (pa_cons (pe_callB (c_lenK K) (by rfl) T.n_len (by decide +kernel) (pa_cons (pe_ix (ix_tupK K) (pv 3) pe_int (fun _ _ => rfl)) pa_nil)) pa_nil))) (fun _ _ => rfl)))
  (pss_cons (ps_set (i := 8) nd rfl (by first | exact .inl rfl | exact .inr rfl) (pe_lst (pa_cons (pe_tup (pa_cons pe_str (pa_cons (pe_ix (ix_tupK K) (pv 2) pe_int (fun _ _ => rfl)) pa_nil))) (pa_cons (pe_tup (pa_cons pe_str (pa_cons (pe_op op_sub (pe_ix (ix_tupK K) (pv 2) pe_int (fun _ _ => rfl)) pe_int) pa_nil))) (pa_cons (pe_tup (pa_cons pe_str (pa_cons (pe_op op_sub (pe_ix (ix_tupK K) (pv 2) pe_int (fun _ _ => rfl)) pe_int) pa_nil))) (pa_cons (pe_tup (pa_cons pe_str (pa_cons (pe_tup (pa_cons pe_int (pa_cons pe_int (pa_cons pe_int (pa_cons (pe_ix (ix_tupK K) (pv 2) pe_int (fun _ _ => rfl)) pa_nil))))) pa_nil))) (pa_cons (pe_tup (pa_cons pe_str (pa_cons (pe_tup (pa_cons pe_int (pa_cons pe_int (pa_cons pe_int (pa_cons pe_int (pa_cons pe_int pa_nil)))))) pa_nil))) pa_nil)))))))
  (pss_cons (ps_set (i := 9) nd rfl (by first | exact .inl rfl | exact .inr rfl) (pe_op op_cat (pv 8) (pe_lst (pa_cons (pe_tup (pa_cons pe_str (pa_cons (pe_ix (ix_tupK K) (pv 2) pe_int (fun _ _ => rfl)) pa_nil))) (pa_cons (pe_tup (pa_cons pe_str (pa_cons (pe_op op_sub pe_int pe_int) pa_nil))) (pa_cons (pe_tup (pa_cons pe_str (pa_cons pe_int pa_nil))) (pa_cons (pe_tup (pa_cons pe_str pa_nil)) (pa_cons (pe_tup (pa_cons pe_str (pa_cons (pe_ix (ix_tupK K) (pv 7) pe_int (fun _ _ => rfl)) pa_nil))) (pa_cons (pe_tup (pa_cons pe_str (pa_cons (pe_tup (pa_cons pe_int (pa_cons pe_int (pa_cons pe_int (pa_cons pe_int pa_nil))))) pa_nil))) pa_nil)))))))))
  (pss_cons (ps_set (i := 9) nd rfl (by first | exact .inl rfl | exact .inr rfl) (pe_ix (ix_listK K) (pv 9) (pe_callG G__law_take (hr.mono (by first | decide | omega)) (by rfl) (pa_cons (pv 1) (pa_cons pe_int pa_nil))) (fun _ _ => rfl)))
  (pss_one (ps_set (i := 5) nd rfl (by first | exact .inl rfl | exact .inr rfl) (pe_tup (pa_cons (pe_ix (ix_tupK K) (pv 3) pe_int (fun _ _ => rfl)) (pa_cons (pe_op (op_catK K) (pe_ix (ix_tupK K) (pv 3) pe_int (fun _ _ => rfl)) (pe_tup (pa_cons (pe_tup (pa_cons (pe_ix (ix_tupK K) (pv 7) pe_int (fun _ _ => rfl)) (pa_cons (pv 9) pa_nil))) pa_nil))) pa_nil))))))))) (pss_one (ps_if (PW.pt (pw_and (pt_cmpR op_eq (pv 6) pe_int (nomark _)) (pw_and1 (pt_truK K (pe_ix (ix_tupK K) (pv 3) pe_int (fun _ _ => rfl)) (by intro _; rfl)))))
  (pss_cons (ps_set (i := 7) nd rfl (by first | exact .inl rfl | exact .inr rfl) (pe_ix (ix_tupK K) (pe_ix (ix_tupK K) (pv 3) pe_int (fun _ _ => rfl)) (pe_callG G__law_take (hr.mono (by first | decide | omega)) (by rfl) (pa_cons (pv 1) (pa_cons (pe_callB (c_lenK K) (by rfl) T.n_len (by decide +kernel) (pa_cons (pe_ix (ix_tupK K) (pv 3) pe_int (fun _ _ => rfl)) pa_nil)) pa_nil))) (fun _ _ => rfl)))
  (pss_cons (ps_set (i := 10) nd rfl (by first | exact .inl rfl | exact .inr rfl) (pe_callG G__law_take (hr.mono (by first | decide | omega)) (by rfl) (pa_cons (pv 1) (pa_cons (pe_callB (c_lenK K) (by rfl) T.n_len (by decide +kernel) (pa_cons (pe_ix (ix_tupK K) (pv 7) pe_int (fun _ _ => rfl)) pa_nil)) pa_nil))))
  (pss_cons (ps_set (i := 11) nd rfl (by first | exact .inl rfl | exact .inr rfl) (pe_op (op_catK K) (pe_op (op_catK K) (pe_slice (sl_tupK K) (pe_ix (ix_tupK K) (pv 7) pe_int (fun _ _ => rfl)) po_none (po_some (pv 10))) (pe_tup (pa_cons (pe_op op_sub (pe_op op_add (pe_ix (ix_tupK K) (pe_ix (ix_tupK K) (pv 7) pe_int (fun _ _ => rfl)) (pv 10) (fun _ _ => rfl)) (pe_callG G__law_take (hr.mono (by first | decide | omega)) (by rfl) (pa_cons (pv 1) (pa_cons pe_int pa_nil)))) pe_int) pa_nil))) (pe_slice (sl_tupK K) (pe_ix (ix_tupK K) (pv 7) pe_int (fun _ _ => rfl)) (po_some (pe_op op_add (pv 10) pe_int)) po_none)))
  (pss_one (ps_set (i := 5) nd rfl (by first | exact .inl rfl | exact .inr rfl) (pe_tup (pa_cons (pe_ix (ix_tupK K) (pv 3) pe_int (fun _ _ => rfl)) (pa_cons (pe_op (op_catK K) (pe_ix (ix_tupK K) (pv 3) pe_int (fun _ _ => rfl)) (pe_tup (pa_cons (pe_tup (pa_cons (pv 11) (pa_cons (pe_ix (ix_tupK K) (pv 7) pe_int (fun _ _ => rfl)) pa_nil))) pa_nil))) pa_nil)))))))) (pss_one (ps_for PassesOwn.never rfl (pi_range1 rfl T.n_range (pa_cons (pe_op op_add pe_int (pe_callG G__law_take (hr.mono (by first | decide | omega)) (by rfl) (pa_cons (pv 1) (pa_cons pe_int pa_nil)))) pa_nil)) (pg_name (i := 10) nd rfl (by first | exact .inl rfl | exact .inr rfl))
  (pss_one (ps_set (i := 5) nd rfl (by first | exact .inl rfl | exact .inr rfl) (pe_callG G__law_spoilt (hr.mono (by first | decide | omega)) (by rfl) (pa_cons (pv 1) (pa_cons (pv 5) pa_nil))))))))))))))
  (pss_cons (ps_set (i := 12) nd rfl (by first | exact .inl rfl | exact .inr rfl) (pe_callG G_is_script (hr.mono (by first | decide | omega)) (by rfl) (pa_cons (pv 2) (pa_cons (pv 5) pa_nil))))
  (pss_one (ps_if (PW.pt (pw_or (pt_not (pt_val (pe_callB (c_isiK K) (by rfl) T.n_isinstance (by decide +kernel) (pa_cons (pv 12) (pa_cons (pe_bltn (v := .ty "bool") (by rfl) T.n_bool (by decide +kernel) rfl) pa_nil))))) (pw_or1 (pt_cmpR op_ne (pv 12) (pe_callG G__law_good (hr.mono (by first | decide | omega)) (by rfl) (pa_cons (pv 2) (pa_cons (pv 5) pa_nil))) (nomark _)))))
  (pss_one (ps_ret pe_bl)) pss_nil)))))))
  (pss_one (ps_ret pe_bl))))))), ?_⟩
  try dsimp only [cxOf, Cx.wish]
  obtain ⟨⟨ns, hs, hz⟩, q⟩ := hyp
  have line : (100000 : Nat) < sizeLine := by decide
  -- c
  refine s_seq ?_
  refine s_cut (fun σ' H' => ∃ C L : Addr, σ' = stP (some (.ref s0)) (some (.ref C)) ∧ DR H' C L) (fun N hN => ?_) ?_
  · kc_close
    exact u_start hs hz fun H1 C L s1 d1 => by
      kc_close
      exact hN _ _ ⟨C, L, rfl, d1⟩
  rintro _ H1 ⟨C, L, rfl, d1⟩
  -- setup
  refine s_seq ?_
  refine s_cut (fun σ' H' => ∃ (su : Addr) (p n t m : Int), σ' = stP (some (.ref s0)) (some (.ref C)) (some (.ref su)) ∧ DR H' C L ∧ SU K H' su p n t m ∧ M.SetOk p n t m) (fun N hN => ?_) ?_
  · kc_close
    refine ⟨C, 6, rfl, L, d1, by omega, by omega, fun H2 su p n t m b2 d2 hs2 ok => ?_⟩
    kc_close
    exact hN _ _ ⟨su, p, n, t, m, rfl, d2, hs2, ok⟩
  rintro _ H2 ⟨su, p, n, t, m, rfl, d2, hs2, ok⟩
  have opr := ok.pr.lt
  have ot0 := ok.t0
  have ot2 := ok.t2
  have ont := ok.nt
  have on7 := ok.n7
  have om1 := ok.m1
  have om6 := ok.m6
  -- plan
  refine s_seq ?_
  refine s_cut (fun σ' H' => ∃ (PL f r : Addr) (as : List Addr) (s : M.Scr), σ' = stP (some (.ref s0)) (some (.ref C)) (some (.ref su)) (some (.ref PL)) ∧ Cx12 K H' C L su PL f r as p n t m s ∧ M.ScrOk p n t m s ∧ s.rules.length ≤ 13) (fun N hN => ?_) ?_
  · kc_close
    refine ⟨C, su, rfl, L, p, n, t, m, d2, hs2, ok, fun H3 PL s b3 d3 hsc sok l13 => ?_⟩
    obtain ⟨f, r, as, h1, h2, h3, h4⟩ := hsc
    kc_close
    exact hN _ _ ⟨PL, f, r, as, s, rfl, ⟨d3, sqt_butD b3 d2 hs2, h1, h2, h3, h4⟩, sok, l13⟩
  rintro _ H3 ⟨PL, f, r, as, s, rfl, cx, sok, l13⟩
  have las := Paired.length cx.rs
  have hfoes := sok.few
  have rbd : ∀ x ∈ s.rules.map ruleD, Bd 4 17 x := fun x hx => by
    obtain ⟨y, hy, rfl⟩ := List.mem_map.mp hx
    obtain ⟨⟨st, i, ha, _⟩, hc⟩ := sok.rule y hy
    exact rule_bd (addr_len ha) hc
  have rsz := rules_bd rbd
  rw [List.length_map] at rsz
  have fsz := szs_ints s.foes
  have bF : Bd 5 3 (.tuple (s.foes.map .int)) := (bd_ints s.foes).mono (by decide) (by omega)
  have bR : Bd 5 250 (.tuple (s.rules.map ruleD)) := bd_seq (h := 4) (s := 249) rsz.2.1 (by omega) rsz.2.2
  -- the script itself
  refine s_seq ?_
  refine s_cut (fun σ' H' => σ' = stP (some (.ref s0)) (some (.ref C)) (some (.ref su)) (some (.ref PL)) ∧ Cx12 K H' C L su PL f r as p n t m s) (fun N hN => ?_) ?_
  · refine s_if ?_
    kc_close
    have bS := bd_two bF bR
    refine ⟨su, _, rfl, p, n, t, m, scrD s, cx.su, ok, im_pair cx.pl (im_ints cx.fo) (im_seq cx.ru (ims_rules cx.rs)), bS.pl, Nat.le_trans bS.sz (by decide), Nat.le_trans bS.ht (by decide), fun H4 b s4 hb => ?_⟩
    have : b = true := hb.mpr ⟨s, rfl, sok⟩
    subst this
    kc_close
    refine iteF ?_
    kc_close
    exact hN _ _ ⟨rfl, cx.same s4⟩
  clear cx
  rintro _ H4 ⟨rfl, cx⟩
  kc_close
  refine s_rng1v (by omega) (by omega) ?_
  refine w_range (fun i σ' H' => ∃ y4 y5 y6 y7 y8 y9 y10 y11 y12, σ' = stP (some (.ref s0)) (some (.ref C)) (some (.ref su)) (some (.ref PL)) y4 y5 y6 y7 y8 y9 y10 y11 y12 ∧ Cx12 K H' C L su PL f r as p n t m s) ⟨none, none, none, none, none, none, none, none, none, rfl, cx⟩ ?_ ?_
  · clear cx
    rintro i _ H5 hi ⟨y4, y5, y6, y7, y8, y9, y10, y11, y12, rfl, cx⟩
    refine s_gname ?_
    refine s_seq ?_
    refine s_cut (fun σ' H' => σ' = stP (some (.ref s0)) (some (.ref C)) (some (.ref su)) (some (.ref PL)) (some (.int (0 + (i : Nat)))) (some (.ref PL)) y6 y7 y8 y9 y10 y11 y12 ∧ H' = H5) (fun N hN => ?_) ?_
    · kc_close
      exact hN _ _ ⟨rfl, rfl⟩
    rintro _ H5 ⟨rfl, rfl⟩
    refine s_seq ?_
    refine s_cut (fun σ' H' => ∃ kd : Int, σ' = stP (some (.ref s0)) (some (.ref C)) (some (.ref su)) (some (.ref PL)) (some (.int (0 + (i : Nat)))) (some (.ref PL)) (some (.int kd)) y7 y8 y9 y10 y11 y12 ∧ Cx12 K H' C L su PL f r as p n t m s) (fun N hN => ?_) ?_
    · kc_close
      refine u_take cx.dr (by omega) (by omega) fun H6 x b6 d6 g0 g1 => ?_
      kc_close
      exact hN _ _ ⟨x, rfl, cx.but b6 d6⟩
    clear cx
    rintro _ H6 ⟨kd, rfl, cx⟩
    refine s_seq ?_
    refine s_cut (fun σ' H' => ∃ (ov : V) (od : PyData) (y7 y8 y9 y10 y11 : Option V), σ' = stP (some (.ref s0)) (some (.ref C)) (some (.ref su)) (some (.ref PL)) (some (.int (0 + (i : Nat)))) (some ov) (some (.int kd)) y7 y8 y9 y10 y11 y12 ∧ Cx12 K H' C L su PL f r as p n t m s ∧ Im K H' od ov ∧ Bd 121 50000 od) (fun N hN => ?_) ?_
    · have hPL := cx.pl
      have hSU := cx.su
      have hR := cx.ru
      refine s_if ?_
      kc_close
      refine ifI (fun h0 => ?_) (fun h0 => ?_)
      · -- one foe more
        kc_close
        refine u_take cx.dr (by omega) (by omega) fun H7 x b7 d7 g0 g1 => ?_
        have cx7 := cx.but b7 d7
        kc_close
        intro o1 H8 n1 s8 e1
        have cx8 := cx7.same s8
        have hPL8 := cx8.pl
        refine s_catA cx8.fo (ys := [V.int x]) (SqT.of e1) (by rw [List.length_map]; show s.foes.length + 1 ≤ sizeLine; omega) fun q1 H9 s9 hq1 => ?_
        have cx9 := cx8.same s9
        have hPL9 := cx9.pl
        kc_close
        intro o2 H10 n2 s10 e2
        have cx10 := cx9.same s10
        have hq : IsT K H10 q1 (s.foes ++ [x]) := by
          have := sqt_same s10 hq1
          show SqT K H10 q1 ((s.foes ++ [x]).map V.int)
          rw [List.map_append]
          exact this
        kc_close
        refine hN _ _ ⟨_, _, y7, y8, y9, y10, y11, rfl, cx10, im_pair (SqT.of e2) (im_ints hq) (im_seq cx10.ru (ims_rules cx10.rs)), (bd_two ((bd_ints (s.foes ++ [x])).mono (show 2 ≤ 5 by decide) (show _ ≤ 10 by rw [List.length_append, List.length_singleton]; omega)) bR).mono (by decide) (by decide)⟩
      refine s_if ?_
      kc_close
      have tru : IsTru K (.ref r) H6 = IsTru K (.ref r) H6 := rfl
      have lasv : (as.map V.ref).isEmpty = as.isEmpty := by cases as <;> rfl
      have ruleAt : ∀ {H' : Hp} {d : Int}, Cx12 K H' C L su PL f r as p n t m s → 0 ≤ d → d < (as.length : Int) → ∃ ra rl, as[d.toNat]? = some ra ∧ IsRule K H' ra rl ∧ rl ∈ s.rules := fun {H' d} c d0 d1 => by
        have ea : as[d.toNat]? = some as[d.toNat] := List.getElem?_eq_getElem (by omega)
        obtain ⟨rl, er, hr⟩ := paired_get c.rs ea
        exact ⟨_, rl, ea, hr, List.mem_of_getElem? er⟩
      refine ifI (fun h1 => ?_) (fun h1 => ?_)
      · -- many times the rules
        kc_close
        rw [lasv]
        cases as with
        | nil =>
          refine iteF ?_
          subst h1
          refine s_if ?_
          kc_close
          refine ifFalse (by decide) ?_
          refine iteF ?_
          refine s_if ?_
          kc_close
          refine ifFalse (by decide) ?_
          refine iteF ?_
          kc_close
          refine u_take cx.dr (by omega) (by omega) fun H7 x b7 d7 g0 g1 => ?_
          have cx7 := cx.but b7 d7
          kc_close
          refine s_rng1v (by omega) (by omega) ?_
          exact spoil_loop (by omega) ok sok l13 cx7 hN
        | cons a0 ar =>
          refine iteT ?_
          kc_close
          have ne : (List.map V.ref (a0 :: ar)) ≠ [] := by simp
          refine s_repT hR ne (by omega) (by omega) (by rw [List.length_map]; omega) fun q1 H7 n7 s7 e7 => ?_
          have cx7 := cx.same s7
          kc_close
          intro l H8 nl s8 el
          have cx8 := cx7.same s8
          have ncl : l ≠ C := cx7.dr.ne nl
          kc_close
          refine u_take cx8.dr (by omega) (by omega) fun H9 x b9 d9 g0 g1 => ?_
          have cx9 := cx8.but b9 d9
          obtain ⟨k, ek⟩ := at6 g0 g1
          have tk9 : TK K H7 H9 := (TK.same s8).trans (tk_butD b9 cx8.dr)
          refine s_ixL (SqL.of (b9 _ _ ncl el)) ek ?_
          kc_close
          refine s_slT (tk9 _ _ (SqT.of e7)) fun q2 H10 s10 hq2 => ?_
          have cx10 := cx9.same s10
          kc_close
          intro o2 H11 n2 s11 e2
          have cx11 := cx10.same s11
          kc_close
          have rp := rep_bd (ds := s.rules.map ruleD) rsz.2.2 41
          obtain ⟨es, ies, sub⟩ := Ims.cut (Ims.rep (ims_rules cx11.rs) 41) none (some k)
          have ss := sub_szs sub
          refine hN _ _ ⟨_, _, y7, y8, y9, y10, y11, rfl, cx11, im_pair (SqT.of e2) (im_ints cx11.fo) (im_seq (sqt_same s11 hq2) ies), (bd_two bF (bd_seq (h := 4) (s := 40000) (ds := es) (by omega) (by omega) (ss.2.2 rp.2.2))).mono (by decide) (by decide)⟩
      refine iteF ?_
      refine s_if ?_
      kc_close
      refine ifI (fun h2 => ?_) (fun h2 => ?_)
      · -- a rule with another change
        kc_close
        rw [lasv]
        cases has : as with
        | nil =>
          subst has
          refine iteF ?_
          subst h2
          refine s_if ?_
          kc_close
          refine ifFalse (by decide) ?_
          refine iteF ?_
          kc_close
          refine u_take cx.dr (by omega) (by omega) fun H7 x b7 d7 g0 g1 => ?_
          have cx7 := cx.but b7 d7
          kc_close
          refine s_rng1v (by omega) (by omega) ?_
          exact spoil_loop (by omega) ok sok l13 cx7 hN
        | cons a0 ar =>
          have lpos : 0 < as.length := by rw [has]; exact Nat.succ_pos _
          refine iteT ?_
          rw [← has] at *
          clear has
          refine s_seq ?_
          refine s_cut (fun σ' H' => ∃ (ra : Addr) (rl : List Int × M.Chg), σ' = stP (some (.ref s0)) (some (.ref C)) (some (.ref su)) (some (.ref PL)) (some (.int (0 + (i : Nat)))) (some (.ref PL)) (some (.int kd)) (some (.ref ra)) y8 y9 y10 y11 y12 ∧ Cx12 K H' C L su PL f r as p n t m s ∧ IsRule K H' ra rl ∧ rl ∈ s.rules) (fun N' hN' => ?_) ?_
          · kc_close
            rw [List.length_map]
            refine u_take cx.dr (by omega) (by omega) fun H7 x b7 d7 g0 g1 => ?_
            have cx7 := cx.but b7 d7
            obtain ⟨ra, rl, ia, hr, hm⟩ := ruleAt cx7 g0 g1
            kc_close
            refine s_ixT cx7.ru (at_ref ia (by omega)) ?_
            kc_close
            exact hN' _ _ ⟨ra, rl, rfl, cx7, hr, hm⟩
          clear hPL hSU hR cx
          rintro _ H7 ⟨ra, rl, rfl, cx, ⟨A, B, hra, hA, hB⟩, hrl⟩
          have hPL := cx.pl
          have hSU := cx.su
          have hR := cx.ru
          obtain ⟨⟨st, sd, hadr, _⟩, hchg⟩ := sok.rule rl hrl
          have lA := addr_len hadr
          -- more
          refine s_seq ?_
          refine s_cut (fun σ' H' => ∃ (l1 t1 t2 t3 t4 t5 : Addr), σ' = stP (some (.ref s0)) (some (.ref C)) (some (.ref su)) (some (.ref PL)) (some (.int (0 + (i : Nat)))) (some (.ref PL)) (some (.int kd)) (some (.ref ra)) (some (.ref l1)) y9 y10 y11 y12 ∧ Same H7 H' ∧ H' l1 = some (.lst [.ref t1, .ref t2, .ref t3, .ref t4, .ref t5]) ∧ (∀ x, x = t1 ∨ x = t2 ∨ x = t3 ∨ x = t4 ∨ x = t5 → ∃ cd, Im K H' cd (.ref x) ∧ Bd 4 20 cd)) (fun N' hN' => ?_) ?_
          · kc_close
            intro t1 G1 m1 z1 e1
            have u1 : SU K G1 su p n t m := sqt_same z1 hSU
            kc_close
            intro t2 G2 m2 z2 e2
            have u2 : SU K G2 su p n t m := sqt_same z2 u1
            kc_close
            intro t3 G3 m3 z3 e3
            have u3 : SU K G3 su p n t m := sqt_same z3 u2
            kc_close
            intro a4 G4 m4 z4 e4
            kc_close
            intro t4 G5 m5 z5 e5
            kc_close
            intro a5 G6 m6 z6 e6
            kc_close
            intro t5 G7 m7 z7 e7
            kc_close
            intro l1 G8 m8 z8 e8
            kc_close
            have w7 := z8
            have w6 := z7.trans w7
            have w5 := z6.trans w6
            have w4 := z5.trans w5
            have w3 := z4.trans w4
            have w2 := z3.trans w3
            have w1 := z2.trans w2
            have w0 := z1.trans w1
            refine hN' _ _ ⟨l1, t1, t2, t3, t4, t5, rfl, w0, e8, fun x hx => ?_⟩
            rcases hx with rfl | rfl | rfl | rfl | rfl
            · exact ⟨_, im_pair (d := .str "add") (e := .int p) (sqt_same w1 (SqT.of e1)) rfl rfl, (bd_two (h := 1) (bd_str _ (by decide +kernel)) (bd_int _)).mono (by decide) (by decide)⟩
            · exact ⟨_, im_pair (d := .str "is") (e := .int (p - 1)) (sqt_same w2 (SqT.of e2)) rfl rfl, (bd_two (h := 1) (bd_str _ (by decide +kernel)) (bd_int _)).mono (by decide) (by decide)⟩
            · exact ⟨_, im_pair (d := .str "add") (e := .int (p - 1)) (sqt_same w3 (SqT.of e3)) rfl rfl, (bd_two (h := 1) (bd_str _ (by decide +kernel)) (bd_int _)).mono (by decide) (by decide)⟩
            · exact ⟨_, im_pair (d := .str "copy") (sqt_same w5 (SqT.of e5)) rfl (im_ints (xs := [8, 1, 0, m]) (sqt_same w4 (SqT.of e4))), (bd_two (h := 2) ((bd_str "copy" (by decide +kernel)).mono (by decide) (Nat.le_refl _)) (bd_ints _)).mono (by decide) (by show 1 + 1 + (1 + 4) ≤ 20; decide)⟩
            · exact ⟨_, im_pair (d := .str "copy") (sqt_same w7 (SqT.of e7)) rfl (im_ints (xs := [2, 1, 1, 1, 0]) (sqt_same w6 (SqT.of e6))), (bd_two (h := 2) ((bd_str "copy" (by decide +kernel)).mono (by decide) (Nat.le_refl _)) (bd_ints _)).mono (by decide) (by show 1 + 1 + (1 + 5) ≤ 20; decide)⟩
          rintro _ H8 ⟨l1, t1, t2, t3, t4, t5, rfl, s8, el1, him1⟩
          have cx8 := cx.same s8
          have hSU8 := cx8.su
          have hra8 := sqt_same s8 hra
          -- change
          refine s_seq ?_
          refine s_cut (fun σ' H' => ∃ (l3 t6 t7 t8 t9 t10 t11 : Addr), σ' = stP (some (.ref s0)) (some (.ref C)) (some (.ref su)) (some (.ref PL)) (some (.int (0 + (i : Nat)))) (some (.ref PL)) (some (.int kd)) (some (.ref ra)) (some (.ref l1)) (some (.ref l3)) y10 y11 y12 ∧ Same H8 H' ∧ l3 ≠ C ∧ H' l3 = some (.lst [.ref t1, .ref t2, .ref t3, .ref t4, .ref t5, .ref t6, .ref t7, .ref t8, .ref t9, .ref t10, .ref t11]) ∧ (∀ x, x = t6 ∨ x = t7 ∨ x = t8 ∨ x = t9 ∨ x = t10 ∨ x = t11 → ∃ cd, Im K H' cd (.ref x) ∧ Bd 4 20 cd)) (fun N' hN' => ?_) ?_
          · kc_close
            intro t6 G1 m1 z1 e1
            kc_close
            intro t7 G2 m2 z2 e2
            kc_close
            intro t8 G3 m3 z3 e3
            kc_close
            intro t9 G4 m4 z4 e4
            have hra4 := sqt_same (((z1.trans z2).trans z3).trans z4) hra8
            kc_close
            intro t10 G5 m5 z5 e5
            kc_close
            intro a11 G6 m6 z6 e6
            kc_close
            intro t11 G7 m7 z7 e7
            kc_close
            intro l2 G8 m8 z8 e8
            have zz := ((z1.trans z2).trans (z3.trans z4)).trans ((z5.trans z6).trans (z7.trans z8))
            refine s_catL (zz _ _ el1) e8 (by show 5 + 6 ≤ sizeLine; omega) fun l3 G9 m9 z9 e9 => ?_
            kc_close
            have w8 := z9
            have w7 := z8.trans w8
            have w6 := z7.trans w7
            have w5 := z6.trans w6
            have w4 := z5.trans w5
            have w3 := z4.trans w4
            have w2 := z3.trans w3
            have w1 := z2.trans w2
            have w0 := z1.trans w1
            refine hN' _ _ ⟨l3, t6, t7, t8, t9, t10, t11, rfl, w0, (cx8.dr.same zz).ne m9, e9, fun x hx => ?_⟩
            rcases hx with rfl | rfl | rfl | rfl | rfl | rfl
            · exact ⟨_, im_pair (d := .str "is") (e := .int p) (sqt_same w1 (SqT.of e1)) rfl rfl, (bd_two (h := 1) (bd_str _ (by decide +kernel)) (bd_int _)).mono (by decide) (by decide)⟩
            · exact ⟨_, im_pair (d := .str "add") (e := .int (0 - 1)) (sqt_same w2 (SqT.of e2)) rfl rfl, (bd_two (h := 1) (bd_str _ (by decide +kernel)) (bd_int _)).mono (by decide) (by decide)⟩
            · exact ⟨_, im_pair (d := .str "drop") (e := .int 1) (sqt_same w3 (SqT.of e3)) rfl rfl, (bd_two (h := 1) (bd_str _ (by decide +kernel)) (bd_int _)).mono (by decide) (by decide)⟩
            · exact ⟨_, im_seq (ds := [.str "is"]) (sqt_same w4 (SqT.of e4)) (Ims.one rfl), (bd_one (bd_str _ (by decide +kernel))).mono (by decide) (by decide)⟩
            · exact ⟨_, im_pair (d := .str "copy") (sqt_same w5 (SqT.of e5)) rfl (im_ints (xs := rl.1) (sqt_same (s8.trans w0) hA)), (bd_two (h := 2) ((bd_str "copy" (by decide +kernel)).mono (by decide) (Nat.le_refl _)) (bd_ints _)).mono (by decide) (by omega)⟩
            · exact ⟨_, im_pair (d := .str "copy") (sqt_same w7 (SqT.of e7)) rfl (im_ints (xs := [8, 1, 0, 6]) (sqt_same w6 (SqT.of e6))), (bd_two (h := 2) ((bd_str "copy" (by decide +kernel)).mono (by decide) (Nat.le_refl _)) (bd_ints _)).mono (by decide) (by show 1 + 1 + (1 + 4) ≤ 20; decide)⟩
          rintro _ H9 ⟨l3, t6, t7, t8, t9, t10, t11, rfl, s9, nl3, el3, him2⟩
          have cx9 := cx8.same s9
          -- one of them
          refine s_seq ?_
          refine s_cut (fun σ' H' => ∃ (x : Addr) (cd : PyData), σ' = stP (some (.ref s0)) (some (.ref C)) (some (.ref su)) (some (.ref PL)) (some (.int (0 + (i : Nat)))) (some (.ref PL)) (some (.int kd)) (some (.ref ra)) (some (.ref l1)) (some (.ref x)) y10 y11 y12 ∧ Cx12 K H' C L su PL f r as p n t m s ∧ TK K H9 H' ∧ Im K H' cd (.ref x) ∧ Bd 4 20 cd) (fun N' hN' => ?_) ?_
          · kc_close
            refine u_take cx9.dr (by omega) (by omega) fun H10 y b10 d10 g0 g1 => ?_
            obtain ⟨x, hx, ex⟩ := at11 (a0 := V.ref t1) (a1 := V.ref t2) (a2 := V.ref t3) (a3 := V.ref t4) (a4 := V.ref t5) (a5 := V.ref t6) (a6 := V.ref t7) (a7 := V.ref t8) (a8 := V.ref t9) (a9 := V.ref t10) (a10 := V.ref t11) g0 g1
            have tk := tk_butD (K := K) b10 cx9.dr
            have g : ∃ xa cd, x = .ref xa ∧ Im K H9 cd (.ref xa) ∧ Bd 4 20 cd := by
              have f1 : ∀ z, z = t1 ∨ z = t2 ∨ z = t3 ∨ z = t4 ∨ z = t5 → ∃ xa cd, V.ref z = .ref xa ∧ Im K H9 cd (.ref xa) ∧ Bd 4 20 cd := fun z hz => by
                obtain ⟨cd, i1, b1⟩ := him1 z hz
                exact ⟨z, cd, rfl, Im.tk (TK.same s9) _ _ i1, b1⟩
              have f2 : ∀ z, z = t6 ∨ z = t7 ∨ z = t8 ∨ z = t9 ∨ z = t10 ∨ z = t11 → ∃ xa cd, V.ref z = .ref xa ∧ Im K H9 cd (.ref xa) ∧ Bd 4 20 cd := fun z hz => by
                obtain ⟨cd, i1, b1⟩ := him2 z hz
                exact ⟨z, cd, rfl, i1, b1⟩
              rcases hx with rfl | rfl | rfl | rfl | rfl | rfl | rfl | rfl | rfl | rfl | rfl
              · exact f1 _ (by simp)
              · exact f1 _ (by simp)
              · exact f1 _ (by simp)
              · exact f1 _ (by simp)
              · exact f1 _ (by simp)
              · exact f2 _ (by simp)
              · exact f2 _ (by simp)
              · exact f2 _ (by simp)
              · exact f2 _ (by simp)
              · exact f2 _ (by simp)
              · exact f2 _ (by simp)
            obtain ⟨xa, cd, rfl, icd, bcd⟩ := g
            refine s_ixL (SqL.of (b10 _ _ nl3 el3)) ex ?_
            kc_close
            exact hN' _ _ ⟨xa, cd, rfl, cx9.but b10 d10, tk, Im.tk tk _ _ icd, bcd⟩
          rintro _ H10 ⟨x, cd, rfl, cx10, tk10, icd, bcd⟩
          have tk7 : TK K H7 H10 := (TK.same (s8.trans s9)).trans tk10
          have hra10 := tk7 _ _ hra
          have hA10 := tk7 _ _ hA
          have hPL10 := cx10.pl
          kc_close
          intro o1 G1 m1 z1 e1
          kc_close
          intro o2 G2 m2 z2 e2
          have cg2 := (cx10.same z1).same z2
          refine s_catA cg2.ru (ys := [V.ref o1]) (SqT.of e2) (by rw [List.length_map]; show as.length + 1 ≤ sizeLine; omega) fun q1 G3 z3 hq1 => ?_
          have cg3 := cg2.same z3
          kc_close
          intro o3 G4 m4 z4 e4
          have cg4 := cg3.same z4
          kc_close
          have zz := ((z1.trans z2).trans z3).trans z4
          have bRu : Bd 5 28 (.tuple [.tuple (rl.1.map .int), cd]) := (bd_two (h := 4) (s1 := 7) ((bd_ints rl.1).mono (by decide) (by omega)) bcd).mono (by decide) (by decide)
          have irl : Ims K G4 (s.rules.map ruleD ++ [.tuple [.tuple (rl.1.map .int), cd]]) (as.map V.ref ++ [V.ref o1]) := (ims_rules cg4.rs).app (Ims.one (im_pair (sqt_same ((z2.trans z3).trans z4) (SqT.of e1)) (im_ints (sqt_same zz hA10)) (Im.tk (TK.same zz) _ _ icd)))
          have bs1 := bRu.sz
          have bs2 := bRu.ht
          refine hN _ _ ⟨_, _, some (.ref ra), some (.ref l1), some (.ref x), y10, y11, rfl, cg4, im_pair (SqT.of e4) (im_ints cg4.fo) (im_seq (sqt_same z4 hq1) irl), (bd_two (h := 6) (bF.mono (by decide) (Nat.le_refl _)) (bd_seq (h := 5) (s := 1000) (by rw [hts_app]; show max _ (max _ 0) ≤ 5; omega) (by rw [szs_app]; show _ + (_ + 0) ≤ 1000; omega) (pls_mem.mpr fun z hz => ?_))).mono (by decide) (by decide)⟩
          rcases List.mem_append.mp hz with hz | hz
          · exact pls_mem.mp rsz.2.2 z hz
          · rw [List.mem_singleton.mp hz]
            exact bRu.pl
      refine iteF ?_
      refine s_if ?_
      kc_close
      refine ifI (fun h3 => ?_) (fun h3 => ?_)
      · -- a rule with another address
        kc_close
        rw [lasv]
        cases has : as with
        | nil =>
          subst has
          refine iteF ?_
          kc_close
          refine u_take cx.dr (by omega) (by omega) fun H7 x b7 d7 g0 g1 => ?_
          have cx7 := cx.but b7 d7
          kc_close
          refine s_rng1v (by omega) (by omega) ?_
          exact spoil_loop (by omega) ok sok l13 cx7 hN
        | cons a0 ar =>
          have lpos : 0 < as.length := by rw [has]; exact Nat.succ_pos _
          refine iteT ?_
          rw [← has] at *
          clear has
          refine s_seq ?_
          refine s_cut (fun σ' H' => ∃ (ra : Addr) (rl : List Int × M.Chg), σ' = stP (some (.ref s0)) (some (.ref C)) (some (.ref su)) (some (.ref PL)) (some (.int (0 + (i : Nat)))) (some (.ref PL)) (some (.int kd)) (some (.ref ra)) y8 y9 y10 y11 y12 ∧ Cx12 K H' C L su PL f r as p n t m s ∧ IsRule K H' ra rl ∧ rl ∈ s.rules) (fun N' hN' => ?_) ?_
          · kc_close
            rw [List.length_map]
            refine u_take cx.dr (by omega) (by omega) fun H7 x b7 d7 g0 g1 => ?_
            have cx7 := cx.but b7 d7
            obtain ⟨ra, rl, ia, hr, hm⟩ := ruleAt cx7 g0 g1
            kc_close
            refine s_ixT cx7.ru (at_ref ia (by omega)) ?_
            kc_close
            exact hN' _ _ ⟨ra, rl, rfl, cx7, hr, hm⟩
          clear hPL hSU hR cx
          rintro _ H7 ⟨ra, rl, rfl, cx, ⟨A, B, hra, hA, hB⟩, hrl⟩
          obtain ⟨⟨st, sd, hadr, _⟩, hchg⟩ := sok.rule rl hrl
          have lA := addr_len hadr
          have lA0 := (addr_all on7 ot2 om6 hadr).1
          -- j
          refine s_seq ?_
          refine s_cut (fun σ' H' => ∃ (j : Nat), σ' = stP (some (.ref s0)) (some (.ref C)) (some (.ref su)) (some (.ref PL)) (some (.int (0 + (i : Nat)))) (some (.ref PL)) (some (.int kd)) (some (.ref ra)) y8 y9 (some (.int j)) y11 y12 ∧ Cx12 K H' C L su PL f r as p n t m s ∧ TK K H7 H' ∧ j < rl.1.length) (fun N' hN' => ?_) ?_
          · kc_close
            rw [List.length_map]
            refine u_take cx.dr (by omega) (by omega) fun H8 x b8 d8 g0 g1 => ?_
            kc_close
            refine hN' _ _ ⟨x.toNat, ?_, cx.but b8 d8, tk_butD b8 cx.dr, by omega⟩
            rw [show ((x.toNat : Nat) : Int) = x by omega]
            rfl
          rintro _ H8 ⟨j, rfl, cx8, tk8, hj⟩
          have hra8 := tk8 _ _ hra
          have hA8 : IsT K H8 A rl.1 := tk8 _ _ hA
          have hB8 := hB.tk tk8
          -- moved
          refine s_seq ?_
          refine s_cut (fun σ' H' => ∃ (q4 : Addr) (es : List PyData) (us : List V), σ' = stP (some (.ref s0)) (some (.ref C)) (some (.ref su)) (some (.ref PL)) (some (.int (0 + (i : Nat)))) (some (.ref PL)) (some (.int kd)) (some (.ref ra)) y8 y9 (some (.int j)) (some (.ref q4)) y12 ∧ Cx12 K H' C L su PL f r as p n t m s ∧ TK K H8 H' ∧ SqT K H' q4 us ∧ Ims K H' es us ∧ szs es ≤ 13 ∧ hts es ≤ 1 ∧ pls es = true) (fun N' hN' => ?_) ?_
          · obtain ⟨es1, ies1, sub1⟩ := Ims.cut (ims_ints (K := K) (H := H8) rl.1) none (some (j : Int))
            obtain ⟨es3, ies3, sub3⟩ := Ims.cut (ims_ints (K := K) (H := H8) rl.1) (some ((j : Int) + 1)) none
            have ss1 := sub_szs sub1
            have ss3 := sub_szs sub3
            have sA := szs_ints rl.1
            have c1 := cutV_length (rl.1.map V.int) none (some (j : Int))
            have c3 := cutV_length (rl.1.map V.int) (some ((j : Int) + 1)) none
            rw [List.length_map] at c1 c3
            kc_close
            refine s_slT hA8 fun q1 G1 z1 h1 => ?_
            have hra1 := sqt_same z1 hra8
            have hA1 : IsT K G1 A rl.1 := sqt_same z1 hA8
            have cg1 := cx8.same z1
            kc_close
            refine s_ixT hA1 (at_intI (k := j) hj rfl) ?_
            kc_close
            refine u_take cg1.dr (by omega) (by omega) fun G2 y b2 d2 g0 g1 => ?_
            have cg2 := cg1.but b2 d2
            have tk12 := tk_butD (K := K) b2 cg1.dr
            have hra2 := tk12 _ _ hra1
            have hA2 : IsT K G2 A rl.1 := tk12 _ _ hA1
            kc_close
            intro o1 G3 m3 z3 e3
            have hra3 := sqt_same z3 hra2
            refine s_catA (sqt_same z3 (tk12 _ _ h1)) (ys := [_]) (SqT.of e3) (by show _ + 1 ≤ sizeLine; omega) fun q2 G4 z4 h2 => ?_
            have hra4 := sqt_same z4 hra3
            have hA4 : IsT K G4 A rl.1 := sqt_same z4 (sqt_same z3 hA2)
            kc_close
            refine s_slT hA4 fun q3 G5 z5 h3 => ?_
            refine s_catA (sqt_same z5 h2) h3 (by rw [List.length_append]; show _ + 1 + _ ≤ sizeLine; omega) fun q4 G6 z6 h4 => ?_
            kc_close
            have tk86 : TK K H8 G6 := (TK.same z1).trans (tk12.trans (TK.same (((z3.trans z4).trans z5).trans z6)))
            refine hN' _ _ ⟨q4, _, _, rfl, (((cg2.same z3).same z4).same z5).same z6, tk86, h4, ((Ims.tk tk86 _ _ ies1).app (Ims.one (show Im K G6 (.int (rl.1.getD j 0 + y - 2)) _ from rfl))).app (Ims.tk tk86 _ _ ies3), ?_, ?_, pls_mem.mpr fun z hz => ?_⟩
            · rw [szs_app, szs_app]
              show _ + (1 + 0) + _ ≤ 13
              omega
            · rw [hts_app, hts_app]
              show max (max _ (max 1 0)) _ ≤ 1
              omega
            · rcases List.mem_append.mp hz with hz | hz
              · rcases List.mem_append.mp hz with hz | hz
                · exact pls_mem.mp (ss1.2.2 sA.2.2) z hz
                · rw [List.mem_singleton.mp hz]
                  rfl
              · exact pls_mem.mp (ss3.2.2 sA.2.2) z hz
          rintro _ H9 ⟨q4, es, us, rfl, cx9, tk9, hq4, ies, szes, htes, ples⟩
          have hra9 := tk9 _ _ hra8
          have hB9 := hB8.tk tk9
          have hPL9 := cx9.pl
          kc_close
          intro o1 G1 m1 z1 e1
          kc_close
          intro o2 G2 m2 z2 e2
          have cg2 := (cx9.same z1).same z2
          refine s_catA cg2.ru (ys := [V.ref o1]) (SqT.of e2) (by rw [List.length_map]; show as.length + 1 ≤ sizeLine; omega) fun q5 G3 z3 hq5 => ?_
          have cg3 := cg2.same z3
          kc_close
          intro o3 G4 m4 z4 e4
          have cg4 := cg3.same z4
          kc_close
          have zz := ((z1.trans z2).trans z3).trans z4
          have bRu : Bd 5 28 (.tuple [.tuple es, chgD rl.2]) := (bd_two (h := 4) (s1 := 14) (bd_seq (h := 3) (s := 13) (by omega) szes ples) ((chg_bd hchg).mono (by decide) (Nat.le_refl _))).mono (by decide) (by decide)
          have irl : Ims K G4 (s.rules.map ruleD ++ [.tuple [.tuple es, chgD rl.2]]) (as.map V.ref ++ [V.ref o1]) := (ims_rules cg4.rs).app (Ims.one (im_pair (sqt_same ((z2.trans z3).trans z4) (SqT.of e1)) (im_seq (sqt_same zz hq4) (Ims.tk (TK.same zz) _ _ ies)) (im_chg (hB9.tk (TK.same zz)))))
          have bs1 := bRu.sz
          have bs2 := bRu.ht
          refine hN _ _ ⟨_, _, some (.ref ra), y8, y9, some (.int j), some (.ref q4), rfl, cg4, im_pair (SqT.of e4) (im_ints cg4.fo) (im_seq (sqt_same z4 hq5) irl), (bd_two (h := 6) (bF.mono (by decide) (Nat.le_refl _)) (bd_seq (h := 5) (s := 1000) (by rw [hts_app]; show max _ (max _ 0) ≤ 5; omega) (by rw [szs_app]; show _ + (_ + 0) ≤ 1000; omega) (pls_mem.mpr fun z hz => ?_))).mono (by decide) (by decide)⟩
          rcases List.mem_append.mp hz with hz | hz
          · exact pls_mem.mp rsz.2.2 z hz
          · rw [List.mem_singleton.mp hz]
            exact bRu.pl
      refine iteF ?_
      kc_close
      refine u_take cx.dr (by omega) (by omega) fun H7 x b7 d7 g0 g1 => ?_
      have cx7 := cx.but b7 d7
      kc_close
      refine s_rng1v (by omega) (by omega) ?_
      exact spoil_loop (by omega) ok sok l13 cx7 hN
    clear cx
    rintro _ H7 ⟨ov, od, y7, y8, y9, y10, y11, rfl, cx, hov, bod⟩
    have bh := bod.ht
    have bs := bod.sz
    refine s_seq ?_
    refine s_cut (fun σ' H' => ∃ (b : Bool), σ' = stP (some (.ref s0)) (some (.ref C)) (some (.ref su)) (some (.ref PL)) (some (.int (0 + (i : Nat)))) (some ov) (some (.int kd)) y7 y8 y9 y10 y11 (some (.bl b)) ∧ Same H7 H' ∧ (b = true ↔ isScr p n t m od)) (fun N hN => ?_) ?_
    · kc_close
      refine ⟨su, ov, rfl, p, n, t, m, od, cx.su, ok, hov, bod.pl, by omega, by omega, fun H8 b s8 hb => ?_⟩
      kc_close
      exact hN _ _ ⟨b, rfl, s8, hb⟩
    rintro _ H8 ⟨b, rfl, s8, hb⟩
    have cx8 := cx.same s8
    refine s_if ?_
    kc_close
    refine s_isiBB ?_
    kc_close
    refine iteF ?_
    kc_close
    refine ⟨su, ov, rfl, p, n, t, m, od, cx8.su, ok, Im.tk (TK.same s8) _ _ hov, bod.pl, by omega, fun H9 b2 s9 hb2 => ?_⟩
    have e : b = b2 := by
      cases b with
      | true => exact ((hb2.mpr (hb.mp rfl))).symm
      | false =>
        cases b2 with
        | false => rfl
        | true => exact hb.mpr (hb2.mp rfl)
    subst e
    kc_close
    refine ifFalse (by simp) ?_
    kc_close
    exact ⟨_, _, _, _, _, _, _, _, _, rfl, cx8.same s9⟩
  · rintro _ H5 ⟨_, _, _, _, _, _, _, _, _, rfl, cx⟩
    kc_close
    exact q _
end
end K1
end
section
open PySem PySem.Spec PyProof.Rows L2 Z
namespace K1
theorem has_mk {K : PySem.W.Frag} {h : Heap} {mg : Str → Option Value} {x : Str} {st : Stmt} {ps : List Str} {f : Addr} {oc : Value} {od an : Option Addr} {osl : Array (Option Value)} {kV doc pm cdv ct : Value} (X : K.In h) (G : h.Ns mainGlobals mg) (a : PySem.W.nsIn K mainGlobals x = some (some (.ref f)))
    (l : K.lookup f = some ⟨oc, od, .func (PySem.W.fnOf x x (defArgs st) (defBody st) (defScope st) .none kV doc pm an cdv ct), osl⟩) (c : PySem.W.codeIn K cdv x = true) (k : PySem.W.keepIn K (.ref f) = true)
    (hb : ∀ (kV doc pm : Value) (an : Option Addr) (cdv ct : Value) (us : List Value), us.length = ps.length → bindArgs (PySem.W.fnOf x x (defArgs st) (defBody st) (defScope st) .none kV doc pm an cdv ct) ⟨us, []⟩ = pure (ps.zip us)) : Z.Has K mg x st ps :=
  ⟨f, _, fun_mk l c k, PySem.W.mg_of X G a, (fun_mk l c k).binds hb⟩
theorem all_mk {l : PySem.W.OpenLaw} {w : World} {K : PySem.W.Frag} {h : Heap} {mg : Str → Option Value} {fa f1 f2 f3 f4 f5 f6 f7 f8 f9 f10 f11 f12 f13 f14 f15 f16 f17 f18 f19 f20 f21 f22 f23 f24 : Addr} (X : K.In h) (G : h.Ns mainGlobals mg) (hfa : mg "law" = some (.ref fa))
    {od1 an1 od2 an2 od3 an3 od4 an4 od5 an5 od6 an6 od7 an7 od8 an8 od9 an9 od10 an10 od11 an11 od12 an12 od13 an13 od14 an14 od15 an15 od16 an16 od17 an17 od18 an18 od19 an19 od20 an20 od21 an21 od22 an22 od23 an23 od24 an24 : Option Addr} {sl1 sl2 sl3 sl4 sl5 sl6 sl7 sl8 sl9 sl10 sl11 sl12 sl13 sl14 sl15 sl16 sl17 sl18 sl19 sl20 sl21 sl22 sl23 sl24 : Array (Option Value)} {oc1 kV1 dc1 pm1 cd1 ct1 oc2 kV2 dc2 pm2 cd2 ct2 oc3 kV3 dc3 pm3 cd3 ct3 oc4 kV4 dc4 pm4 cd4 ct4 oc5 kV5 dc5 pm5 cd5 ct5 oc6 kV6 dc6 pm6 cd6 ct6 oc7 kV7 dc7 pm7 cd7 ct7 oc8 kV8 dc8 pm8 cd8 ct8 oc9 kV9 dc9 pm9 cd9 ct9 oc10 kV10 dc10 pm10 cd10 ct10 oc11 kV11 dc11 pm11 cd11 ct11 oc12 kV12 dc12 pm12 cd12 ct12 oc13 kV13 dc13 pm13 cd13 ct13 oc14 kV14 dc14 pm14 cd14 ct14 oc15 kV15 dc15 pm15 cd15 ct15 oc16 kV16 dc16 pm16 cd16 ct16 oc17 kV17 dc17 pm17 cd17 ct17 oc18 kV18 dc18 pm18 cd18 ct18 oc19 kV19 dc19 pm19 cd19 ct19 oc20 kV20 dc20 pm20 cd20 ct20 oc21 kV21 dc21 pm21 cd21 ct21 oc22 kV22 dc22 pm22 cd22 ct22 oc23 kV23 dc23 pm23 cd23 ct23 oc24 kV24 dc24 pm24 cd24 ct24 : Value}
    (a1 : PySem.W.nsIn K mainGlobals "_law_start" = some (some (.ref f1))) (l1 : K.lookup f1 = some ⟨oc1, od1, .func (PySem.W.fnOf "_law_start" "_law_start" (defArgs (topS 17)) (defBody (topS 17)) (defScope (topS 17)) .none kV1 dc1 pm1 an1 cd1 ct1), sl1⟩) (c1 : PySem.W.codeIn K cd1 "_law_start" = true) (k1 : PySem.W.keepIn K (.ref f1) = true)
    (a2 : PySem.W.nsIn K mainGlobals "_law_fill" = some (some (.ref f2))) (l2 : K.lookup f2 = some ⟨oc2, od2, .func (PySem.W.fnOf "_law_fill" "_law_fill" (defArgs (topS 18)) (defBody (topS 18)) (defScope (topS 18)) .none kV2 dc2 pm2 an2 cd2 ct2), sl2⟩) (c2 : PySem.W.codeIn K cd2 "_law_fill" = true) (k2 : PySem.W.keepIn K (.ref f2) = true)
    (a3 : PySem.W.nsIn K mainGlobals "_law_take" = some (some (.ref f3))) (l3 : K.lookup f3 = some ⟨oc3, od3, .func (PySem.W.fnOf "_law_take" "_law_take" (defArgs (topS 19)) (defBody (topS 19)) (defScope (topS 19)) .none kV3 dc3 pm3 an3 cd3 ct3), sl3⟩) (c3 : PySem.W.codeIn K cd3 "_law_take" = true) (k3 : PySem.W.keepIn K (.ref f3) = true)
    (a4 : PySem.W.nsIn K mainGlobals "_law_setup" = some (some (.ref f4))) (l4 : K.lookup f4 = some ⟨oc4, od4, .func (PySem.W.fnOf "_law_setup" "_law_setup" (defArgs (topS 20)) (defBody (topS 20)) (defScope (topS 20)) .none kV4 dc4 pm4 an4 cd4 ct4), sl4⟩) (c4 : PySem.W.codeIn K cd4 "_law_setup" = true) (k4 : PySem.W.keepIn K (.ref f4) = true)
    (a5 : PySem.W.nsIn K mainGlobals "_law_address" = some (some (.ref f5))) (l5 : K.lookup f5 = some ⟨oc5, od5, .func (PySem.W.fnOf "_law_address" "_law_address" (defArgs (topS 23)) (defBody (topS 23)) (defScope (topS 23)) .none kV5 dc5 pm5 an5 cd5 ct5), sl5⟩) (c5 : PySem.W.codeIn K cd5 "_law_address" = true) (k5 : PySem.W.keepIn K (.ref f5) = true)
    (a6 : PySem.W.nsIn K mainGlobals "_law_script" = some (some (.ref f6))) (l6 : K.lookup f6 = some ⟨oc6, od6, .func (PySem.W.fnOf "_law_script" "_law_script" (defArgs (topS 24)) (defBody (topS 24)) (defScope (topS 24)) .none kV6 dc6 pm6 an6 cd6 ct6), sl6⟩) (c6 : PySem.W.codeIn K cd6 "_law_script" = true) (k6 : PySem.W.keepIn K (.ref f6) = true)
    (a7 : PySem.W.nsIn K mainGlobals "is_tuple" = some (some (.ref f7))) (l7 : K.lookup f7 = some ⟨oc7, od7, .func (PySem.W.fnOf "is_tuple" "is_tuple" (defArgs (topS 3)) (defBody (topS 3)) (defScope (topS 3)) .none kV7 dc7 pm7 an7 cd7 ct7), sl7⟩) (c7 : PySem.W.codeIn K cd7 "is_tuple" = true) (k7 : PySem.W.keepIn K (.ref f7) = true)
    (a8 : PySem.W.nsIn K mainGlobals "are_pairs" = some (some (.ref f8))) (l8 : K.lookup f8 = some ⟨oc8, od8, .func (PySem.W.fnOf "are_pairs" "are_pairs" (defArgs (topS 4)) (defBody (topS 4)) (defScope (topS 4)) .none kV8 dc8 pm8 an8 cd8 ct8), sl8⟩) (c8 : PySem.W.codeIn K cd8 "are_pairs" = true) (k8 : PySem.W.keepIn K (.ref f8) = true)
    (a9 : PySem.W.nsIn K mainGlobals "is_integer" = some (some (.ref f9))) (l9 : K.lookup f9 = some ⟨oc9, od9, .func (PySem.W.fnOf "is_integer" "is_integer" (defArgs (topS 1)) (defBody (topS 1)) (defScope (topS 1)) .none kV9 dc9 pm9 an9 cd9 ct9), sl9⟩) (c9 : PySem.W.codeIn K cd9 "is_integer" = true) (k9 : PySem.W.keepIn K (.ref f9) = true)
    (a10 : PySem.W.nsIn K mainGlobals "is_between" = some (some (.ref f10))) (l10 : K.lookup f10 = some ⟨oc10, od10, .func (PySem.W.fnOf "is_between" "is_between" (defArgs (topS 2)) (defBody (topS 2)) (defScope (topS 2)) .none kV10 dc10 pm10 an10 cd10 ct10), sl10⟩) (c10 : PySem.W.codeIn K cd10 "is_between" = true) (k10 : PySem.W.keepIn K (.ref f10) = true)
    (a11 : PySem.W.nsIn K mainGlobals "_are_foes" = some (some (.ref f11))) (l11 : K.lookup f11 = some ⟨oc11, od11, .func (PySem.W.fnOf "_are_foes" "_are_foes" (defArgs (topS 13)) (defBody (topS 13)) (defScope (topS 13)) .none kV11 dc11 pm11 an11 cd11 ct11), sl11⟩) (c11 : PySem.W.codeIn K cd11 "_are_foes" = true) (k11 : PySem.W.keepIn K (.ref f11) = true)
    (a12 : PySem.W.nsIn K mainGlobals "_is_part" = some (some (.ref f12))) (l12 : K.lookup f12 = some ⟨oc12, od12, .func (PySem.W.fnOf "_is_part" "_is_part" (defArgs (topS 9)) (defBody (topS 9)) (defScope (topS 9)) .none kV12 dc12 pm12 an12 cd12 ct12), sl12⟩) (c12 : PySem.W.codeIn K cd12 "_is_part" = true) (k12 : PySem.W.keepIn K (.ref f12) = true)
    (a13 : PySem.W.nsIn K mainGlobals "is_address" = some (some (.ref f13))) (l13 : K.lookup f13 = some ⟨oc13, od13, .func (PySem.W.fnOf "is_address" "is_address" (defArgs (topS 8)) (defBody (topS 8)) (defScope (topS 8)) .none kV13 dc13 pm13 an13 cd13 ct13), sl13⟩) (c13 : PySem.W.codeIn K cd13 "is_address" = true) (k13 : PySem.W.keepIn K (.ref f13) = true)
    (a14 : PySem.W.nsIn K mainGlobals "_is_change" = some (some (.ref f14))) (l14 : K.lookup f14 = some ⟨oc14, od14, .func (PySem.W.fnOf "_is_change" "_is_change" (defArgs (topS 15)) (defBody (topS 15)) (defScope (topS 15)) .none kV14 dc14 pm14 an14 cd14 ct14), sl14⟩) (c14 : PySem.W.codeIn K cd14 "_is_change" = true) (k14 : PySem.W.keepIn K (.ref f14) = true)
    (a15 : PySem.W.nsIn K mainGlobals "_is_rule" = some (some (.ref f15))) (l15 : K.lookup f15 = some ⟨oc15, od15, .func (PySem.W.fnOf "_is_rule" "_is_rule" (defArgs (topS 14)) (defBody (topS 14)) (defScope (topS 14)) .none kV15 dc15 pm15 an15 cd15 ct15), sl15⟩) (c15 : PySem.W.codeIn K cd15 "_is_rule" = true) (k15 : PySem.W.keepIn K (.ref f15) = true)
    (a16 : PySem.W.nsIn K mainGlobals "is_script" = some (some (.ref f16))) (l16 : K.lookup f16 = some ⟨oc16, od16, .func (PySem.W.fnOf "is_script" "is_script" (defArgs (topS 12)) (defBody (topS 12)) (defScope (topS 12)) .none kV16 dc16 pm16 an16 cd16 ct16), sl16⟩) (c16 : PySem.W.codeIn K cd16 "is_script" = true) (k16 : PySem.W.keepIn K (.ref f16) = true)
    (a17 : PySem.W.nsIn K mainGlobals "_law_nodes_of" = some (some (.ref f17))) (l17 : K.lookup f17 = some ⟨oc17, od17, .func (PySem.W.fnOf "_law_nodes_of" "_law_nodes_of" (defArgs (topS 25)) (defBody (topS 25)) (defScope (topS 25)) .none kV17 dc17 pm17 an17 cd17 ct17), sl17⟩) (c17 : PySem.W.codeIn K cd17 "_law_nodes_of" = true) (k17 : PySem.W.keepIn K (.ref f17) = true)
    (a18 : PySem.W.nsIn K mainGlobals "_law_changed" = some (some (.ref f18))) (l18 : K.lookup f18 = some ⟨oc18, od18, .func (PySem.W.fnOf "_law_changed" "_law_changed" (defArgs (topS 26)) (defBody (topS 26)) (defScope (topS 26)) .none kV18 dc18 pm18 an18 cd18 ct18), sl18⟩) (c18 : PySem.W.codeIn K cd18 "_law_changed" = true) (k18 : PySem.W.keepIn K (.ref f18) = true)
    (a19 : PySem.W.nsIn K mainGlobals "_law_high" = some (some (.ref f19))) (l19 : K.lookup f19 = some ⟨oc19, od19, .func (PySem.W.fnOf "_law_high" "_law_high" (defArgs (topS 27)) (defBody (topS 27)) (defScope (topS 27)) .none kV19 dc19 pm19 an19 cd19 ct19), sl19⟩) (c19 : PySem.W.codeIn K cd19 "_law_high" = true) (k19 : PySem.W.keepIn K (.ref f19) = true)
    (a20 : PySem.W.nsIn K mainGlobals "_law_spoilt" = some (some (.ref f20))) (l20 : K.lookup f20 = some ⟨oc20, od20, .func (PySem.W.fnOf "_law_spoilt" "_law_spoilt" (defArgs (topS 28)) (defBody (topS 28)) (defScope (topS 28)) .none kV20 dc20 pm20 an20 cd20 ct20), sl20⟩) (c20 : PySem.W.codeIn K cd20 "_law_spoilt" = true) (k20 : PySem.W.keepIn K (.ref f20) = true)
    (a21 : PySem.W.nsIn K mainGlobals "_law_whole" = some (some (.ref f21))) (l21 : K.lookup f21 = some ⟨oc21, od21, .func (PySem.W.fnOf "_law_whole" "_law_whole" (defArgs (topS 29)) (defBody (topS 29)) (defScope (topS 29)) .none kV21 dc21 pm21 an21 cd21 ct21), sl21⟩) (c21 : PySem.W.codeIn K cd21 "_law_whole" = true) (k21 : PySem.W.keepIn K (.ref f21) = true)
    (a22 : PySem.W.nsIn K mainGlobals "_law_is_address" = some (some (.ref f22))) (l22 : K.lookup f22 = some ⟨oc22, od22, .func (PySem.W.fnOf "_law_is_address" "_law_is_address" (defArgs (topS 30)) (defBody (topS 30)) (defScope (topS 30)) .none kV22 dc22 pm22 an22 cd22 ct22), sl22⟩) (c22 : PySem.W.codeIn K cd22 "_law_is_address" = true) (k22 : PySem.W.keepIn K (.ref f22) = true)
    (a23 : PySem.W.nsIn K mainGlobals "_law_good" = some (some (.ref f23))) (l23 : K.lookup f23 = some ⟨oc23, od23, .func (PySem.W.fnOf "_law_good" "_law_good" (defArgs (topS 31)) (defBody (topS 31)) (defScope (topS 31)) .none kV23 dc23 pm23 an23 cd23 ct23), sl23⟩) (c23 : PySem.W.codeIn K cd23 "_law_good" = true) (k23 : PySem.W.keepIn K (.ref f23) = true)
    (a24 : PySem.W.nsIn K mainGlobals "law" = some (some (.ref f24))) (l24 : K.lookup f24 = some ⟨oc24, od24, .func (PySem.W.fnOf "law" "law" (defArgs (topS 32)) (defBody (topS 32)) (defScope (topS 32)) .none kV24 dc24 pm24 an24 cd24 ct24), sl24⟩) (c24 : PySem.W.codeIn K cd24 "law" = true) (k24 : PySem.W.keepIn K (.ref f24) = true)
    (z0 : PySem.W.nsIn K mainGlobals "all" = some none)
    (z1 : PySem.W.nsIn K mainGlobals "any" = some none)
    (z2 : PySem.W.nsIn K mainGlobals "bool" = some none)
    (z3 : PySem.W.nsIn K mainGlobals "int" = some none)
    (z4 : PySem.W.nsIn K mainGlobals "isinstance" = some none)
    (z5 : PySem.W.nsIn K mainGlobals "len" = some none)
    (z6 : PySem.W.nsIn K mainGlobals "max" = some none)
    (z7 : PySem.W.nsIn K mainGlobals "min" = some none)
    (z8 : PySem.W.nsIn K mainGlobals "range" = some none)
    (z9 : PySem.W.nsIn K mainGlobals "sorted" = some none)
    (z10 : PySem.W.nsIn K mainGlobals "str" = some none)
    (z11 : PySem.W.nsIn K mainGlobals "tuple" = some none)
    (z12 : PySem.W.nsIn K mainGlobals "zip" = some none)
    {tv0 : Tok} (v0 : PySem.W.nsIn K mainGlobals "MOST_RULES" = some (some (.int 40 tv0)))
    {aD0 : Addr} {eD0 : Array DictEntry} {nD0 : Nat} {bD0_0 bD0_1 bD0_2 bD0_3 : Addr} {dD0_0 dD0_1 dD0_2 dD0_3 : Option Addr} {iD0_0 iD0_1 iD0_2 iD0_3 : Array Value} {mD0_0 mD0_1 mD0_2 mD0_3 : Nat} {sD0_0 sD0_1 sD0_2 sD0_3 : Array (Option Value)}
    (ga0 : PySem.W.nsIn K mainGlobals "DIFFERENT" = some (some (.ref aD0))) (gl0 : K.lookup aD0 = some ⟨.type "dict", none, .dict eD0 nD0, #[]⟩) (ge0 : rowsOf eD0.toList = some [(1, bD0_0), (2, bD0_1), (3, bD0_2), (4, bD0_3)]) (gs0 : (aD0 == sysModules) = false)
    (gq0_0 : K.lookup bD0_0 = some ⟨.type "tuple", dD0_0, .seq iD0_0 mD0_0, sD0_0⟩) (gr0_0 : iD0_0.toList.map absV = ([.int 1, .int 2] : List V).map some)
    (gq0_1 : K.lookup bD0_1 = some ⟨.type "tuple", dD0_1, .seq iD0_1 mD0_1, sD0_1⟩) (gr0_1 : iD0_1.toList.map absV = ([.int 1, .int 2] : List V).map some)
    (gq0_2 : K.lookup bD0_2 = some ⟨.type "tuple", dD0_2, .seq iD0_2 mD0_2, sD0_2⟩) (gr0_2 : iD0_2.toList.map absV = ([.int 1, .int 4] : List V).map some)
    (gq0_3 : K.lookup bD0_3 = some ⟨.type "tuple", dD0_3, .seq iD0_3 mD0_3, sD0_3⟩) (gr0_3 : iD0_3.toList.map absV = ([.int 3, .int 4] : List V).map some)
    {aD1 : Addr} {eD1 : Array DictEntry} {nD1 : Nat} {bD1_0 bD1_1 bD1_2 bD1_3 bD1_4 bD1_5 bD1_6 bD1_7 : Addr} {dD1_0 dD1_1 dD1_2 dD1_3 dD1_4 dD1_5 dD1_6 dD1_7 : Option Addr} {iD1_0 iD1_1 iD1_2 iD1_3 iD1_4 iD1_5 iD1_6 iD1_7 : Array Value} {mD1_0 mD1_1 mD1_2 mD1_3 mD1_4 mD1_5 mD1_6 mD1_7 : Nat} {sD1_0 sD1_1 sD1_2 sD1_3 sD1_4 sD1_5 sD1_6 sD1_7 : Array (Option Value)}
    (ga1 : PySem.W.nsIn K mainGlobals "FORMS" = some (some (.ref aD1))) (gl1 : K.lookup aD1 = some ⟨.type "dict", none, .dict eD1 nD1, #[]⟩) (ge1 : rowsOf eD1.toList = some [(1, bD1_0), (2, bD1_1), (3, bD1_2), (4, bD1_3), (5, bD1_4), (6, bD1_5), (7, bD1_6), (8, bD1_7)]) (gs1 : (aD1 == sysModules) = false)
    (gq1_0 : K.lookup bD1_0 = some ⟨.type "tuple", dD1_0, .seq iD1_0 mD1_0, sD1_0⟩) (gr1_0 : iD1_0.toList.map absV = ([.str "party", .str "party", .str "index", .str "place"] : List V).map some)
    (gq1_1 : K.lookup bD1_1 = some ⟨.type "tuple", dD1_1, .seq iD1_1 mD1_1, sD1_1⟩) (gr1_1 : iD1_1.toList.map absV = ([.str "party", .str "party", .str "party", .str "index"] : List V).map some)
    (gq1_2 : K.lookup bD1_2 = some ⟨.type "tuple", dD1_2, .seq iD1_2 mD1_2, sD1_2⟩) (gr1_2 : iD1_2.toList.map absV = ([.str "party", .str "board", .str "party", .str "party"] : List V).map some)
    (gq1_3 : K.lookup bD1_3 = some ⟨.type "tuple", dD1_3, .seq iD1_3 mD1_3, sD1_3⟩) (gr1_3 : iD1_3.toList.map absV = ([.str "party", .str "board", .str "party", .str "party", .str "index"] : List V).map some)
    (gq1_4 : K.lookup bD1_4 = some ⟨.type "tuple", dD1_4, .seq iD1_4 mD1_4, sD1_4⟩) (gr1_4 : iD1_4.toList.map absV = ([.str "party", .str "board", .str "party"] : List V).map some)
    (gq1_5 : K.lookup bD1_5 = some ⟨.type "tuple", dD1_5, .seq iD1_5 mD1_5, sD1_5⟩) (gr1_5 : iD1_5.toList.map absV = ([.str "party", .str "board", .str "party", .str "index", .str "place"] : List V).map some)
    (gq1_6 : K.lookup bD1_6 = some ⟨.type "tuple", dD1_6, .seq iD1_6 mD1_6, sD1_6⟩) (gr1_6 : iD1_6.toList.map absV = ([.str "party", .str "board", .str "party"] : List V).map some)
    (gq1_7 : K.lookup bD1_7 = some ⟨.type "tuple", dD1_7, .seq iD1_7 mD1_7, sD1_7⟩) (gr1_7 : iD1_7.toList.map absV = ([.str "party", .str "board", .str "index"] : List V).map some)
    : ∃ fd : FuncData, (∀ (s : Shared) (v : Value), BindsTo s fd ⟨[v], []⟩ [("script", v)]) ∧ ∀ base : Heap, K.In base → base.Ns mainGlobals mg → FnOk l.prog w K mg base CX0 141 fa fd ["script"] (spLaw K) := by
  have e := hfa.symm.trans (PySem.W.mg_of X G a24)
  cases e
  have T : NoB mg := ⟨PySem.W.mg_none_of X G z0, PySem.W.mg_none_of X G z1, PySem.W.mg_none_of X G z2, PySem.W.mg_none_of X G z3, PySem.W.mg_none_of X G z4, PySem.W.mg_none_of X G z5, PySem.W.mg_none_of X G z6, PySem.W.mg_none_of X G z7, PySem.W.mg_none_of X G z8, PySem.W.mg_none_of X G z9, PySem.W.mg_none_of X G z10, PySem.W.mg_none_of X G z11, PySem.W.mg_none_of X G z12⟩
  have hR0 : refAt mg "DIFFERENT" = aD0 := by unfold refAt; rw [PySem.W.mg_of X G ga0]
  have hR1 : refAt mg "FORMS" = aD1 := by unfold refAt; rw [PySem.W.mg_of X G ga1]
  have W : Gs K mg := ⟨⟨_, PySem.W.mg_of X G ga0, by rw [hR0]; rfl⟩, ⟨_, _, _, _, by rw [hR0]; exact wint_mk gl0 ge0 gs0, wtup_mk gq0_0 (by decide) gr0_0, wtup_mk gq0_1 (by decide) gr0_1, wtup_mk gq0_2 (by decide) gr0_2, wtup_mk gq0_3 (by decide) gr0_3⟩, ⟨_, PySem.W.mg_of X G ga1, by rw [hR1]; rfl⟩, ⟨_, _, _, _, _, _, _, _, by rw [hR1]; exact wint_mk gl1 ge1 gs1, wtup_mk gq1_0 (by decide) gr1_0, wtup_mk gq1_1 (by decide) gr1_1, wtup_mk gq1_2 (by decide) gr1_2, wtup_mk gq1_3 (by decide) gr1_3, wtup_mk gq1_4 (by decide) gr1_4, wtup_mk gq1_5 (by decide) gr1_5, wtup_mk gq1_6 (by decide) gr1_6, wtup_mk gq1_7 (by decide) gr1_7⟩, ⟨_, PySem.W.mg_of X G v0, ⟨_, rfl⟩⟩⟩
  have h__law_start := has_mk (st := topS 17) (ps := ["script"]) X G a1 l1 c1 k1 (fun _ _ _ _ _ _ us hl => match us, hl with | [_], _ => rfl)
  have h__law_fill := has_mk (st := topS 18) (ps := ["c"]) X G a2 l2 c2 k2 (fun _ _ _ _ _ _ us hl => match us, hl with | [_], _ => rfl)
  have h__law_take := has_mk (st := topS 19) (ps := ["c", "many"]) X G a3 l3 c3 k3 (fun _ _ _ _ _ _ us hl => match us, hl with | [_, _], _ => rfl)
  have h__law_setup := has_mk (st := topS 20) (ps := ["c", "most"]) X G a4 l4 c4 k4 (fun _ _ _ _ _ _ us hl => match us, hl with | [_, _], _ => rfl)
  have h__law_address := has_mk (st := topS 23) (ps := ["c", "setup", "step", "sender"]) X G a5 l5 c5 k5 (fun _ _ _ _ _ _ us hl => match us, hl with | [_, _, _, _], _ => rfl)
  have h__law_script := has_mk (st := topS 24) (ps := ["c", "setup"]) X G a6 l6 c6 k6 (fun _ _ _ _ _ _ us hl => match us, hl with | [_, _], _ => rfl)
  have h_is_tuple := has_mk (st := topS 3) (ps := ["value", "least", "most"]) X G a7 l7 c7 k7 (fun _ _ _ _ _ _ us hl => match us, hl with | [_, _, _], _ => rfl)
  have h_are_pairs := has_mk (st := topS 4) (ps := ["value", "least", "most"]) X G a8 l8 c8 k8 (fun _ _ _ _ _ _ us hl => match us, hl with | [_, _, _], _ => rfl)
  have h_is_integer := has_mk (st := topS 1) (ps := ["value"]) X G a9 l9 c9 k9 (fun _ _ _ _ _ _ us hl => match us, hl with | [_], _ => rfl)
  have h_is_between := has_mk (st := topS 2) (ps := ["value", "low", "high"]) X G a10 l10 c10 k10 (fun _ _ _ _ _ _ us hl => match us, hl with | [_, _, _], _ => rfl)
  have h__are_foes := has_mk (st := topS 13) (ps := ["setup", "value"]) X G a11 l11 c11 k11 (fun _ _ _ _ _ _ us hl => match us, hl with | [_, _], _ => rfl)
  have h__is_part := has_mk (st := topS 9) (ps := ["setup", "word", "part"]) X G a12 l12 c12 k12 (fun _ _ _ _ _ _ us hl => match us, hl with | [_, _, _], _ => rfl)
  have h_is_address := has_mk (st := topS 8) (ps := ["setup", "value"]) X G a13 l13 c13 k13 (fun _ _ _ _ _ _ us hl => match us, hl with | [_, _], _ => rfl)
  have h__is_change := has_mk (st := topS 15) (ps := ["setup", "value"]) X G a14 l14 c14 k14 (fun _ _ _ _ _ _ us hl => match us, hl with | [_, _], _ => rfl)
  have h__is_rule := has_mk (st := topS 14) (ps := ["setup", "foes", "address", "change"]) X G a15 l15 c15 k15 (fun _ _ _ _ _ _ us hl => match us, hl with | [_, _, _, _], _ => rfl)
  have h_is_script := has_mk (st := topS 12) (ps := ["setup", "value"]) X G a16 l16 c16 k16 (fun _ _ _ _ _ _ us hl => match us, hl with | [_, _], _ => rfl)
  have h__law_nodes_of := has_mk (st := topS 25) (ps := ["value", "found"]) X G a17 l17 c17 k17 (fun _ _ _ _ _ _ us hl => match us, hl with | [_, _], _ => rfl)
  have h__law_changed := has_mk (st := topS 26) (ps := ["value", "box", "other"]) X G a18 l18 c18 k18 (fun _ _ _ _ _ _ us hl => match us, hl with | [_, _, _], _ => rfl)
  have h__law_high := has_mk (st := topS 27) (ps := ["value"]) X G a19 l19 c19 k19 (fun _ _ _ _ _ _ us hl => match us, hl with | [_], _ => rfl)
  have h__law_spoilt := has_mk (st := topS 28) (ps := ["c", "value"]) X G a20 l20 c20 k20 (fun _ _ _ _ _ _ us hl => match us, hl with | [_, _], _ => rfl)
  have h__law_whole := has_mk (st := topS 29) (ps := ["n", "least", "most"]) X G a21 l21 c21 k21 (fun _ _ _ _ _ _ us hl => match us, hl with | [_, _, _], _ => rfl)
  have h__law_is_address := has_mk (st := topS 30) (ps := ["setup", "one"]) X G a22 l22 c22 k22 (fun _ _ _ _ _ _ us hl => match us, hl with | [_, _], _ => rfl)
  have h__law_good := has_mk (st := topS 31) (ps := ["setup", "plan"]) X G a23 l23 c23 k23 (fun _ _ _ _ _ _ us hl => match us, hl with | [_, _], _ => rfl)
  refine ⟨PySem.W.fnOf "law" "law" (defArgs (topS 32)) (defBody (topS 32)) (defScope (topS 32)) .none kV24 dc24 pm24 an24 cd24 ct24, fun s v => .of_eq rfl, fun base _ _ => ?_⟩
  have G__law_start := ok__law_start (P := l.prog) (w := w) (base := base) T h__law_start
  have G__law_fill := ok__law_fill (P := l.prog) (w := w) (base := base) T h__law_fill
  have G__law_take := ok__law_take (P := l.prog) (w := w) (base := base) T h__law_take G__law_fill
  have G__law_setup := ok__law_setup (P := l.prog) (w := w) (base := base) h__law_setup G__law_take
  have G__law_address := ok__law_address (P := l.prog) (w := w) (base := base) T h__law_address G__law_take
  have G__law_script := ok__law_script (P := l.prog) (w := w) (base := base) T h__law_script G__law_take G__law_address
  have G_is_tuple := ok_is_tuple (P := l.prog) (w := w) (base := base) T h_is_tuple
  have G_are_pairs := ok_are_pairs (P := l.prog) (w := w) (base := base) T h_are_pairs G_is_tuple
  have G_is_integer := ok_is_integer (P := l.prog) (w := w) (base := base) T h_is_integer
  have G_is_between := ok_is_between (P := l.prog) (w := w) (base := base) h_is_between G_is_integer
  have G__are_foes := ok__are_foes (P := l.prog) (w := w) (base := base) T h__are_foes G_is_between G_is_tuple
  have G__is_part := ok__is_part (P := l.prog) (w := w) (base := base) h__is_part G_is_between
  have G_is_address := ok_is_address (P := l.prog) (w := w) (base := base) T W h_is_address G_is_between G_is_tuple G__is_part
  have G__is_change := ok__is_change (P := l.prog) (w := w) (base := base) h__is_change G_is_tuple G_is_address G_is_between
  have G__is_rule := ok__is_rule (P := l.prog) (w := w) (base := base) h__is_rule G__is_change G_is_address
  have G_is_script := ok_is_script (P := l.prog) (w := w) (base := base) T W h_is_script G_is_tuple G_are_pairs G__are_foes G__is_rule
  have G__law_nodes_of := ok__law_nodes_of (P := l.prog) (w := w) (base := base) T h__law_nodes_of
  have G__law_changed := ok__law_changed (P := l.prog) (w := w) (base := base) T h__law_changed
  have G__law_high := ok__law_high (P := l.prog) (w := w) (base := base) T h__law_high
  have G__law_spoilt := ok__law_spoilt (P := l.prog) (w := w) (base := base) T h__law_spoilt G__law_nodes_of G__law_take G__law_changed G__law_high
  have G__law_whole := ok__law_whole (P := l.prog) (w := w) (base := base) T h__law_whole
  have G__law_is_address := ok__law_is_address (P := l.prog) (w := w) (base := base) T h__law_is_address G__law_whole
  have G__law_good := ok__law_good (P := l.prog) (w := w) (base := base) T h__law_good G__law_whole G__law_is_address
  exact ok_law T (fun_mk (st := topS 32) l24 c24 k24) G__law_start G__law_setup G__law_script G_is_script G__law_take G__law_spoilt G__law_good
end K1
end
open PySem PySem.W PyProof.Rows
set_option maxHeartbeats 0 in
theorem PySem.Challenge.cw_sortes_k12_scripts_holds : PySem.Challenge.rw_sortes_k12_scripts.Holds := by
  w_on; o_law; k_head; (case hw => w_witness2)
  k_fill
  refine L2.walk_of (l := PySem.Challenge.rw_sortes_k12_scripts) (n := 63) (k := 141) (x := "script") (CX := fun _ => L2.CX0) (sp := fun w => K1.spLaw _) rfl (by decide) rfl ⟨rfl, by decide, by decide⟩ (fun w h Y => PySem.W.kIn_of Y) ?F (fun _ _ a ns hl _ hS => ⟨a, rfl, ⟨ns, hS, hl⟩, fun _ => rfl⟩) (fun _ _ _ _ _ h => h)
  case F =>
    intro w mg fa h KX G hmg
    refine' K1.all_mk KX G hmg ?a1 ?l1 ?c1 ?k1 ?a2 ?l2 ?c2 ?k2 ?a3 ?l3 ?c3 ?k3 ?a4 ?l4 ?c4 ?k4 ?a5 ?l5 ?c5 ?k5 ?a6 ?l6 ?c6 ?k6 ?a7 ?l7 ?c7 ?k7 ?a8 ?l8 ?c8 ?k8 ?a9 ?l9 ?c9 ?k9 ?a10 ?l10 ?c10 ?k10 ?a11 ?l11 ?c11 ?k11 ?a12 ?l12 ?c12 ?k12 ?a13 ?l13 ?c13 ?k13 ?a14 ?l14 ?c14 ?k14 ?a15 ?l15 ?c15 ?k15 ?a16 ?l16 ?c16 ?k16 ?a17 ?l17 ?c17 ?k17 ?a18 ?l18 ?c18 ?k18 ?a19 ?l19 ?c19 ?k19 ?a20 ?l20 ?c20 ?k20 ?a21 ?l21 ?c21 ?k21 ?a22 ?l22 ?c22 ?k22 ?a23 ?l23 ?c23 ?k23 ?a24 ?l24 ?c24 ?k24 ?z0 ?z1 ?z2 ?z3 ?z4 ?z5 ?z6 ?z7 ?z8 ?z9 ?z10 ?z11 ?z12 ?v0 ?ga0 ?gl0 ?ge0 ?gs0 ?gq0_0 ?gr0_0 ?gq0_1 ?gr0_1 ?gq0_2 ?gr0_2 ?gq0_3 ?gr0_3 ?ga1 ?gl1 ?ge1 ?gs1 ?gq1_0 ?gr1_0 ?gq1_1 ?gr1_1 ?gq1_2 ?gr1_2 ?gq1_3 ?gr1_3 ?gq1_4 ?gr1_4 ?gq1_5 ?gr1_5 ?gq1_6 ?gr1_6 ?gq1_7 ?gr1_7
    (case a1 => k_is); (case l1 => k_is); (case c1 => k_is); (case k1 => k_is); (case a2 => k_is); (case l2 => k_is); (case c2 => k_is); (case k2 => k_is); (case a3 => k_is); (case l3 => k_is); (case c3 => k_is); (case k3 => k_is); (case a4 => k_is); (case l4 => k_is); (case c4 => k_is); (case k4 => k_is); (case a5 => k_is); (case l5 => k_is); (case c5 => k_is); (case k5 => k_is); (case a6 => k_is); (case l6 => k_is); (case c6 => k_is); (case k6 => k_is); (case a7 => k_is); (case l7 => k_is); (case c7 => k_is); (case k7 => k_is); (case a8 => k_is); (case l8 => k_is); (case c8 => k_is); (case k8 => k_is); (case a9 => k_is); (case l9 => k_is); (case c9 => k_is); (case k9 => k_is); (case a10 => k_is); (case l10 => k_is); (case c10 => k_is); (case k10 => k_is); (case a11 => k_is); (case l11 => k_is); (case c11 => k_is); (case k11 => k_is); (case a12 => k_is); (case l12 => k_is); (case c12 => k_is); (case k12 => k_is); (case a13 => k_is); (case l13 => k_is); (case c13 => k_is); (case k13 => k_is); (case a14 => k_is); (case l14 => k_is); (case c14 => k_is); (case k14 => k_is); (case a15 => k_is); (case l15 => k_is); (case c15 => k_is); (case k15 => k_is); (case a16 => k_is); (case l16 => k_is); (case c16 => k_is); (case k16 => k_is); (case a17 => k_is); (case l17 => k_is); (case c17 => k_is); (case k17 => k_is); (case a18 => k_is); (case l18 => k_is); (case c18 => k_is); (case k18 => k_is); (case a19 => k_is); (case l19 => k_is); (case c19 => k_is); (case k19 => k_is); (case a20 => k_is); (case l20 => k_is); (case c20 => k_is); (case k20 => k_is); (case a21 => k_is); (case l21 => k_is); (case c21 => k_is); (case k21 => k_is); (case a22 => k_is); (case l22 => k_is); (case c22 => k_is); (case k22 => k_is); (case a23 => k_is); (case l23 => k_is); (case c23 => k_is); (case k23 => k_is); (case a24 => k_is); (case l24 => k_is); (case c24 => k_is); (case k24 => k_is); (case z0 => k_is); (case z1 => k_is); (case z2 => k_is); (case z3 => k_is); (case z4 => k_is); (case z5 => k_is); (case z6 => k_is); (case z7 => k_is); (case z8 => k_is); (case z9 => k_is); (case z10 => k_is); (case z11 => k_is); (case z12 => k_is); (case v0 => k_is); (case ga0 => k_is); (case gl0 => k_is); (case ge0 => (rfl)); (case gs0 => decide); (case gq0_0 => k_is); (case gr0_0 => (rfl)); (case gq0_1 => k_is); (case gr0_1 => (rfl)); (case gq0_2 => k_is); (case gr0_2 => (rfl)); (case gq0_3 => k_is); (case gr0_3 => (rfl)); (case ga1 => k_is); (case gl1 => k_is); (case ge1 => (rfl)); (case gs1 => decide); (case gq1_0 => k_is); (case gr1_0 => (rfl)); (case gq1_1 => k_is); (case gr1_1 => (rfl)); (case gq1_2 => k_is); (case gr1_2 => (rfl)); (case gq1_3 => k_is); (case gr1_3 => (rfl)); (case gq1_4 => k_is); (case gr1_4 => (rfl)); (case gq1_5 => k_is); (case gr1_5 => (rfl)); (case gq1_6 => k_is); (case gr1_6 => (rfl)); (case gq1_7 => k_is); (case gr1_7 => (rfl))
